/- What must come, whatever the arguments are: the check of the laws of layer 4. -/
import Derived.Test.YtcdfefljagddmabPCheck
namespace Go.Proofs.Ytcdfefljagddmab
open Go.RowKit
/-- A plain region, walked in the text's order, the world with it. -/
structure PW (P : Program) (ops : Array Oper) (Q : Exit → Act → World → Prop) (l : List Oper) (a : Act) (w : World) : Prop where
  out : wpList P ops Q l a w
section
variable {P : Program} {ops : Array Oper} {Q : Exit → Act → World → Prop} {rest : List Oper} {o : Oper} {a : Act} {w : World}
theorem wp_region_pw {id : Nat} {l : List Oper} (h : PW P l.toArray Q l a w) : (Code.region id l.toArray false).wp P Q a w := wp_region_lit h.out
theorem pw_nil (h : Q .normal a w) : PW P ops Q [] a w := ⟨h⟩
theorem pw_run (hw : Region.wanted o (yielded ops a.tmps) = true) (v : Value) (w' : World) (hr : (execOp a.eval o).run P w = .ok (.value v) w') (h : PW P ops Q rest (a.put o.dst v) w') : PW P ops Q (o :: rest) a w := by
  refine ⟨?_⟩
  unfold wpList
  rw [if_pos hw]
  left
  unfold Oper.wp
  rw [hr]
  exact h.out
theorem pw_value (hw : Region.wanted o (yielded ops a.tmps) = true) (v : Value) (hr : ∀ w, (execOp a.eval o).run P w = .ok (.value v) w) (h : PW P ops Q rest (a.put o.dst v) w) : PW P ops Q (o :: rest) a w := pw_run hw v w (hr w) h
theorem pw_move (hw : Region.wanted o (yielded ops a.tmps) = true) {x : Operand} {v : Value} (ho : o.op = .move x ∨ o.op = .assign x) (hv : a.eval x = v) (h : PW P ops Q rest (a.put o.dst v) w) : PW P ops Q (o :: rest) a w := by
  refine pw_run hw v w ?_ h
  unfold execOp
  rcases ho with ho | ho <;> simp only [ho, hv] <;> rfl
theorem pw_call {fn : Func} (hw : Region.wanted o (yielded ops a.tmps) = true) (f : FuncId) (args : Array Operand) (ts : Array TypeId)
    (ho : o.op = .call { callee := .value (.func f), args := args, argTypes := ts }) (hf : P.funcs[f]? = some fn) (hb : (fn.name == "runtime.NumGoroutine" || fn.body.isNone) = false)
    (vs : Array Value) (hv' : args.toList.map a.eval = vs.toList) (v : Value) (hc : Calls P f vs w fun e w' => e = .returned v ∧ Below w.heap.size w w')
    (h : ∀ w', Below w.heap.size w w' → PW P ops Q rest (a.put o.dst v) w') : PW P ops Q (o :: rest) a w := by
  refine ⟨?_⟩
  unfold wpList
  rw [if_pos hw]
  left
  refine (opw_call f args ts ho hf hb vs hv' ?_).out
  exact hc.mono fun e w' ⟨he, hb'⟩ => ⟨v, he, (h w' hb').out⟩
theorem pw_lits (hw : Region.wanted o (yielded ops a.tmps) = true) (t e : TypeId) (len : Nat) (parts : Array (Nat × Operand)) (ho : o.op = .buildSlice t len parts) (cells : Array Value) (ie : TypeInfo) (z : Value)
    (hu : P.underlying t = some (.slice e)) (hie : P.info? e = some ie) (hz : ie.zero = some z) (hsmall : ¬ len * ie.size > 2 ^ 24) (hpos : ¬ len * ie.size = 0)
    (vals : List (Nat × Value)) (hv : parts.toList.map (fun x => (x.1, a.eval x.2)) = vals)
    (hf : Instr.fill (fun i => some (i * ie.size, ie.size)) ((Array.range (len * ie.size)).map (z.cells[· % z.cells.size]!)) vals = some cells)
    (h : PW P ops Q rest (a.put o.dst (.slice (some ⟨w.heap.size, 0, none⟩) len len)) (w.alloc (.cells cells e))) : PW P ops Q (o :: rest) a w := by
  have hf' : Instr.fill (fun i => some (i * ie.size, ie.size)) ((Array.range (len * ie.size)).map (z.cells[· % z.cells.size]!)) (parts.map fun (i, x) => (i, a.eval x)).toList = some cells := by
    rw [Array.toList_map]; rw [← hv] at hf; exact hf
  refine pw_run hw _ _ ?_ h
  unfold execOp
  simp only [ho, Sem.run_bind, run_buildSlice w t e len _ cells ie z hu hie hz hsmall hpos hf', Result.andThen_ok]
  rfl
theorem pw_pick (hw : Region.wanted o (yielded ops a.tmps) = true) {c x y : Operand} (b : Bool) {v : Value} (ho : o.op = .pick c x y) (hc : a.eval c = .bool b) (hv : a.eval (if b then x else y) = v) (h : PW P ops Q rest (a.put o.dst v) w) : PW P ops Q (o :: rest) a w := by
  refine pw_run hw v w ?_ h
  subst hv
  unfold execOp
  rw [ho]
  simp only [hc]
  cases b <;> rfl
end
theorem info_lkz : (Try.prog.info? 35).map (fun i => (i.zero, i.size)) = some (some (.agg #[.int .u64 0, .int .u64 0, .int .u64 0, .int .u64 0, .int .i64 0]), 5) := by kernel_rfl
theorem info_lk' : ∃ i, Try.prog.info? 35 = some i ∧ i.zero = some (.agg #[.int .u64 0, .int .u64 0, .int .u64 0, .int .u64 0, .int .i64 0]) ∧ i.size = 5 := by
  cases hi : Try.prog.info? 35 with
  | none => have := info_lkz; rw [hi] at this; cases this
  | some i =>
    have h := info_lkz
    rw [hi] at h
    simp only [Option.map_some, Option.some.injEq, Prod.mk.injEq] at h
    exact ⟨i, rfl, h.1, h.2⟩
theorem built_lk (N : Nat) : Try.prog.built 35 [(0, .agg (natC N))] = some (lkC N 0) := by
  unfold natC lkC
  generalize lm N 0 = a0
  generalize lm N 1 = a1
  generalize lm N 2 = a2
  generalize lm N 3 = a3
  kernel_rfl
theorem built_lk2 (N : Nat) (z : Int) : Try.prog.built 35 [(0, .agg (natC N)), (1, .int .i64 z)] = some (lkC N z) := by
  unfold natC lkC
  generalize lm N 0 = a0
  generalize lm N 1 = a1
  generalize lm N 2 = a2
  generalize lm N 3 = a3
  kernel_rfl
theorem exec_link {o : Oper} {ρ : Operand → Value} {x0 : Operand} (N : Nat) (ho : o.op = .build 35 #[(0, x0)]) (h0 : ρ x0 = .agg (natC N)) (w : World) :
    (execOp ρ o).run Try.prog w = .ok (.value (.agg (lkC N 0))) w := by
  unfold execOp
  simp only [ho, List.map_toArray, List.map_cons, List.map_nil, h0, Sem.run_bind]
  rw [run_build w 35 _ (lkC N 0) (built_lk N)]
  rfl
theorem exec_link2 {o : Oper} {ρ : Operand → Value} {x0 x1 : Operand} (N : Nat) (z : Int) (ho : o.op = .build 35 #[(0, x0), (1, x1)]) (h0 : ρ x0 = .agg (natC N)) (h1 : ρ x1 = .int .i64 z) (w : World) :
    (execOp ρ o).run Try.prog w = .ok (.value (.agg (lkC N z))) w := by
  unfold execOp
  simp only [ho, List.map_toArray, List.map_cons, List.map_nil, h0, h1, Sem.run_bind]
  rw [run_build w 35 _ (lkC N z) (built_lk2 N z)]
  rfl
theorem lit_lk (N : Nat) (z : Int) (k : Nat) (hk : k = 5) : Instr.fill (fun i => some (i * k, k)) ((Array.range (1 * k)).map ((Value.agg #[.int .u64 0, .int .u64 0, .int .u64 0, .int .u64 0, .int .i64 0]).cells[· % (Value.agg #[.int .u64 0, .int .u64 0, .int .u64 0, .int .u64 0, .int .i64 0]).cells.size]!)) [(0, .agg (lkC N z))] = some (lkC N z) := by
  subst hk
  unfold lkC
  generalize lm N 0 = a0
  generalize lm N 1 = a1
  generalize lm N 2 = a2
  generalize lm N 3 = a3
  kernel_rfl
theorem lit_lk2 (N M : Nat) (z y : Int) (k : Nat) (hk : k = 5) : Instr.fill (fun i => some (i * k, k)) ((Array.range (2 * k)).map ((Value.agg #[.int .u64 0, .int .u64 0, .int .u64 0, .int .u64 0, .int .i64 0]).cells[· % (Value.agg #[.int .u64 0, .int .u64 0, .int .u64 0, .int .u64 0, .int .i64 0]).cells.size]!)) [(0, .agg (lkC N z)), (1, .agg (lkC M y))] = some (lkC N z ++ lkC M y) := by
  subst hk
  unfold lkC
  generalize lm N 0 = a0
  generalize lm N 1 = a1
  generalize lm N 2 = a2
  generalize lm N 3 = a3
  generalize lm M 0 = b0
  generalize lm M 1 = b1
  generalize lm M 2 = b2
  generalize lm M 3 = b3
  kernel_rfl
theorem lkC_size (N : Nat) (z : Int) : (lkC N z).size = 5 := rfl
theorem links_one {w : World} {g N : Nat} {z : Int} (h : Row w g (lkC N z) 35) (hN : N < 2 ^ 256) : LinksAt w (some ⟨g, 0, none⟩) 1 (fun _ => N) (fun _ => z) g 0 (lkC N z) 35 :=
  ⟨.inr ⟨rfl, h.r, fun i hi j v hv => by
    obtain rfl : i = 0 := by omega
    rw [Array.getElem?_toList] at hv
    rw [show 0 + 0 * 5 + j = j by omega]
    exact hv⟩, fun _ _ => hN⟩
def two2i (A B : Int) (i : Nat) : Int := if i = 0 then A else B
theorem links_two {w : World} {g N M : Nat} {z y : Int} (h : Row w g (lkC N z ++ lkC M y) 35) (hN : N < 2 ^ 256) (hM : M < 2 ^ 256) : LinksAt w (some ⟨g, 0, none⟩) 2 (two2 N M) (two2i z y) g 0 (lkC N z ++ lkC M y) 35 :=
  ⟨.inr ⟨rfl, h.r, fun i hi j v hv => by
    rw [Array.getElem?_toList] at hv
    have hj : j < 5 := by
      have := (Array.getElem?_eq_some_iff.1 hv).1
      rw [lkC_size] at this
      exact this
    by_cases e : i = 0
    · subst e
      rw [show 0 + 0 * 5 + j = j by omega, Array.getElem?_append_left (by rw [lkC_size]; exact hj)]
      exact hv
    · obtain rfl : i = 1 := by omega
      rw [show 0 + 1 * 5 + j = 5 + j by omega, Array.getElem?_append_right (by rw [lkC_size]; omega), lkC_size, Nat.add_sub_cancel_left]
      exact hv⟩, fun i _ => by unfold two2; split <;> assumption⟩
set_option maxRecDepth 100000 in
set_option maxHeartbeats 4000000 in
theorem of4_any (n : Nat) (w : World) (h : (n : Int) < 9223372036854775808) :
    Calls Try.prog 18 #[.int .i64 n] w fun e w' => e = .returned (.agg (natC n)) ∧ Below w.heap.size w w' := by
  have hin := fun w' => rint_any (n : Int) w' h
  rw [Int.toNat_natCast] at hin
  clear h
  go_enter Try.func18, Try.ntmps18
  (repeat ((fail_if_success (with_reducible show Code.wp _ (Code.region _ _ _) _ _ _)); go_step))
  apply wp_region_mixq [] [_] trivial List.nodup_nil rfl
  intro p
  refine mx_new 25 rfl _ zero_nat ?_
  simp only [Act.put, pb, pc, pd]
  refine mx_end ?_
  intro vw1 hkw hrw hnew hdis
  have n2 := hnew 0 rfl
  have zr2 : Row vw1 (p 0) (natC 0) 25 := hrw 1 (25, natC 0) rfl
  have sb := hkw.below w.heap.size (Nat.le_refl _) (by simp)
  have b2 : w.heap.size ≤ p 0 := n2
  clear hkw hrw hnew hdis n2
  generalize p 0 = g2 at *
  have r2 := zr2
  clear zr2
  (repeat ((fail_if_success (with_reducible show Code.wp _ (Code.region _ _ _) _ _ _)); go_step))
  apply wp_region_mixq [(g2, 25, natC 0)] [_, _, _] ⟨r2, trivial⟩ (by simp <;> omega) rfl
  intro p
  refine mx_move rfl rfl ?_
  simp only [Act.put, pb, pc, pd]
  refine mx_call 26 _ _ rfl Try.func26 (by kernel_rfl) #[.int .i64 n] rfl _ hin ?_
  simp only [Act.put, pb, pc, pd]
  refine mx_put 0 25 _ _ rfl rfl rfl (natC n) rfl (by exact size_nat) (by simp only [natC_size]) (natC_one _) ?_
  simp only [Act.put]
  refine mx_end ?_
  intro vw2 hkw hrw hnew hdis
  have zr2 : Row vw2 g2 (natC n) 25 := hrw 0 (25, natC n) rfl
  replace sb := sb.trans (hkw.below w.heap.size sb.size (by simp <;> omega))
  clear hkw hrw hnew hdis r2
  have r2 := zr2
  clear zr2
  -- the rows that stand: r2: natC n
  go_wp2
  exact ret_row rfl _ rfl r2 4 _ Try.underlying25 (by exact size_nat) rfl ⟨rfl, sb⟩
theorem aw_s1 : smI 65521 = true := by decide +kernel
theorem aw_s2 : smI 65535 = false := by decide +kernel
theorem aw_may : mayN 11 5 = true := by decide
theorem aw_sh : shN 11 5 2 = true := by decide
theorem aw_st : stN 11 5 2 = true := by decide
theorem aw_wit : witN 11 5 = 2 := by
  unfold witN
  rw [if_pos aw_may]
  unfold wtF
  rw [if_pos aw_sh]
theorem aw_c1 : chN 2 (two2 5 11) (two2i 0 2) = true := by decide
theorem aw_c2 : chN 1 (fun _ => 4) (fun _ => 0) = false := by decide
set_option maxRecDepth 100000 in
set_option maxHeartbeats 4000000 in
theorem awake4_any (w : World) :
    Calls Try.prog 10 #[] w fun e w' => e = .returned (.bool true) ∧ Below w.heap.size w w' := by
  obtain ⟨ie, hie, hz, hsz⟩ := info_lk'
  have o11 := fun w' => of4_any 11 w' (by decide)
  have o5 := fun w' => of4_any 5 w' (by decide)
  have o4 := fun w' => of4_any 4 w' (by decide)
  have hwi := fun w' => wit_any 11 5 w' (by decide) (by decide)
  rw [aw_wit, show errW 2 = 0 from rfl] at hwi
  have hs1 := fun w' => small_any 65521 w'
  rw [aw_s1] at hs1
  have hs2 := fun w' => small_any 65535 w'
  rw [aw_s2] at hs2
  have hst := fun w' => step_any 11 5 2 w' (by decide) (by decide)
  rw [aw_st] at hst
  have hc1 := fun g w' (r : Row w' g (lkC 5 0 ++ lkC 11 2) 35) => check_any 2 2 _ _ _ g 0 _ 35 w' (links_two r (by decide) (by decide))
  rw [aw_c1, show errC true = 0 from rfl] at hc1
  have hc2 := fun g w' (r : Row w' g (lkC 4 0) 35) => check_any 1 1 _ _ _ g 0 _ 35 w' (links_one r (by decide))
  rw [aw_c2, show errC false = 4 from rfl] at hc2
  have hl1 := lit_lk 4 0 ie.size hsz
  have hl2 := lit_lk2 5 11 0 2 ie.size hsz
  go_enter Try.func10, Try.ntmps10
  (repeat ((fail_if_success (with_reducible show Code.wp _ (Code.region _ _ _) _ _ _)); go_step))
  apply wp_region_mixp [] [_] trivial List.nodup_nil
  · intro p
    refine mx_val (.bool false) (fun _ => rfl) ?_
    simp only [Act.put, List.setIfInBounds_toArray, List.set_cons_zero]
    refine mx_end ?_
    intro w2 hkw hrw hnew hdis
    have sb := hkw.below w.heap.size (Nat.le_refl _) (by simp)
    clear hkw hrw hnew hdis
    (repeat ((fail_if_success (with_reducible show Code.wp _ (Code.region _ _ _) _ _ _)); go_step))
    apply wp_region_mixp [] [_, _, _, _, _, _, _, _] trivial List.nodup_nil
    · intro p
      refine mx_call 18 _ _ rfl Try.func18 (by kernel_rfl) #[.int .i64 11] rfl _ o11 ?_
      simp only [Act.put, pb, pc, pd]
      refine mx_call 18 _ _ rfl Try.func18 (by kernel_rfl) #[.int .i64 5] rfl _ o5 ?_
      simp only [Act.put, pb, pc, pd]
      refine mx_call 7 _ _ rfl Try.func7 (by kernel_rfl) #[.agg (natC 11), .agg (natC 5)] rfl _ hwi ?_
      simp only [Act.put, pb, pc, pd]
      refine mx_move rfl rfl ?_
      simp only [Act.put, pb, pc, pd]
      refine mx_ext rfl rfl rfl ?_
      simp only [Act.put, pb, pc, pd]
      refine mx_ext rfl rfl rfl ?_
      simp only [Act.put, pb, pc, pd]
      refine mx_asg rfl rfl ?_
      simp only [Act.put, pb, pc, pd]
      refine mx_asg rfl rfl ?_
      simp only [Act.put, pb, pc, pd]
      refine mx_end ?_
      intro v0 hkw hrw hnew hdis
      replace sb := sb.trans (hkw.below w.heap.size sb.size (by simp <;> omega))
      clear hkw hrw hnew hdis
      (repeat ((fail_if_success (with_reducible show Code.wp _ (Code.region _ _ _) _ _ _)); go_step))
      refine wp_region_pw ?_
      refine pw_call (by rfl) 31 _ _ rfl Try.func31 (by kernel_rfl) #[.int .i64 65521] rfl (.bool true) (hs1 _) ?_
      intro v1 hv
      replace sb := below_on sb (Nat.le_refl _) hv
      clear hv
      simp only [Act.put, pb, pc, pd]
      refine pw_move (by rfl) (.inl rfl) rfl ?_
      simp only [Act.put, pb, pc, pd]
      refine pw_call (by rfl) 31 _ _ rfl Try.func31 (by kernel_rfl) #[.int .i64 65535] rfl (.bool false) (hs2 _) ?_
      intro v2 hv
      replace sb := below_on sb (Nat.le_refl _) hv
      clear hv
      simp only [Act.put, pb, pc, pd]
      refine pw_value (by rfl) (.bool true) (exec_not _ _ rfl false rfl) ?_
      simp only [Act.put, pb, pc, pd]
      refine pw_pick (by rfl) true rfl rfl rfl ?_
      simp only [Act.put, pb, pc, pd]
      refine pw_move (by rfl) (.inl rfl) rfl ?_
      simp only [Act.put, pb, pc, pd]
      refine pw_call (by rfl) 18 _ _ rfl Try.func18 (by kernel_rfl) #[.int .i64 11] rfl (.agg (natC 11)) (o11 _) ?_
      intro v3 hv
      replace sb := below_on sb (Nat.le_refl _) hv
      clear hv
      simp only [Act.put, pb, pc, pd]
      refine pw_call (by rfl) 18 _ _ rfl Try.func18 (by kernel_rfl) #[.int .i64 5] rfl (.agg (natC 5)) (o5 _) ?_
      intro v4 hv
      replace sb := below_on sb (Nat.le_refl _) hv
      clear hv
      simp only [Act.put, pb, pc, pd]
      refine pw_call (by rfl) 8 _ _ rfl Try.func8 (by kernel_rfl) #[.agg (natC 11), .agg (natC 5), .int .i64 2] rfl (.bool true) (hst _) ?_
      intro v5 hv
      replace sb := below_on sb (Nat.le_refl _) hv
      clear hv
      simp only [Act.put, pb, pc, pd]
      refine pw_pick (by rfl) true rfl rfl rfl ?_
      simp only [Act.put, pb, pc, pd]
      refine pw_move (by rfl) (.inl rfl) rfl ?_
      simp only [Act.put, pb, pc, pd]
      refine pw_move (by rfl) (.inl rfl) rfl ?_
      simp only [Act.put, pb, pc, pd]
      refine pw_value (by rfl) (.bool true) (exec_eql_k .i64 _ _ _ _ rfl 2 2 rfl rfl true rfl) ?_
      simp only [Act.put, pb, pc, pd]
      refine pw_pick (by rfl) true rfl rfl rfl ?_
      simp only [Act.put, pb, pc, pd]
      refine pw_move (by rfl) (.inl rfl) rfl ?_
      simp only [Act.put, pb, pc, pd]
      refine pw_move (by rfl) (.inl rfl) rfl ?_
      simp only [Act.put, pb, pc, pd]
      refine pw_value (by rfl) (.bool true) (exec_eql_k .i64 _ _ _ _ rfl 0 0 rfl rfl true rfl) ?_
      simp only [Act.put, pb, pc, pd]
      refine pw_pick (by rfl) true rfl rfl rfl ?_
      simp only [Act.put, pb, pc, pd]
      refine pw_move (by rfl) (.inl rfl) rfl ?_
      simp only [Act.put, pb, pc, pd]
      refine pw_call (by rfl) 18 _ _ rfl Try.func18 (by kernel_rfl) #[.int .i64 5] rfl (.agg (natC 5)) (o5 _) ?_
      intro v6 hv
      replace sb := below_on sb (Nat.le_refl _) hv
      clear hv
      simp only [Act.put, pb, pc, pd]
      refine pw_value (by rfl) (.agg (lkC 5 0)) (exec_link 5 rfl rfl) ?_
      simp only [Act.put, pb, pc, pd]
      refine pw_call (by rfl) 18 _ _ rfl Try.func18 (by kernel_rfl) #[.int .i64 11] rfl (.agg (natC 11)) (o11 _) ?_
      intro v7 hv
      replace sb := below_on sb (Nat.le_refl _) hv
      clear hv
      simp only [Act.put, pb, pc, pd]
      refine pw_value (by rfl) (.agg (lkC 11 2)) (exec_link2 11 2 rfl rfl rfl) ?_
      simp only [Act.put, pb, pc, pd]
      have rga := Row.new v7 (lkC 5 0 ++ lkC 11 2) 35
      have szga := sb.size
      refine pw_lits (by rfl) 32 35 2 _ rfl (lkC 5 0 ++ lkC 11 2) ie _ Try.underlying32 hie hz (by rw [hsz]; decide) (by rw [hsz]; decide) [(0, .agg (lkC 5 0)), (1, .agg (lkC 11 2))] rfl hl2 ?_
      simp only [Act.put, pb, pc, pd]
      replace sb := sb.alloc szga (.cells (lkC 5 0 ++ lkC 11 2) 35)
      generalize v7.alloc (.cells (lkC 5 0 ++ lkC 11 2) 35) = v8 at *
      generalize v7.heap.size = ga at *
      refine pw_call (by rfl) 12 _ _ rfl Try.func12 (by kernel_rfl) #[.slice (some ⟨ga, 0, none⟩) 2 2] rfl (.int .i64 0) (hc1 _ _ rga) ?_
      intro v9 hv
      replace sb := below_on sb (Nat.le_refl _) hv
      clear hv
      simp only [Act.put, pb, pc, pd]
      refine pw_value (by rfl) (.bool true) (exec_eql_k .i64 _ _ _ _ rfl 0 0 rfl rfl true rfl) ?_
      simp only [Act.put, pb, pc, pd]
      refine pw_pick (by rfl) true rfl rfl rfl ?_
      simp only [Act.put, pb, pc, pd]
      refine pw_move (by rfl) (.inl rfl) rfl ?_
      simp only [Act.put, pb, pc, pd]
      refine pw_call (by rfl) 18 _ _ rfl Try.func18 (by kernel_rfl) #[.int .i64 4] rfl (.agg (natC 4)) (o4 _) ?_
      intro v10 hv
      replace sb := below_on sb (Nat.le_refl _) hv
      clear hv
      simp only [Act.put, pb, pc, pd]
      refine pw_value (by rfl) (.agg (lkC 4 0)) (exec_link 4 rfl rfl) ?_
      simp only [Act.put, pb, pc, pd]
      have rgc := Row.new v10 (lkC 4 0) 35
      have szgc := sb.size
      refine pw_lits (by rfl) 32 35 1 _ rfl (lkC 4 0) ie _ Try.underlying32 hie hz (by rw [hsz]; decide) (by rw [hsz]; decide) [(0, .agg (lkC 4 0))] rfl hl1 ?_
      simp only [Act.put, pb, pc, pd]
      replace sb := sb.alloc szgc (.cells (lkC 4 0) 35)
      generalize v10.alloc (.cells (lkC 4 0) 35) = v11 at *
      generalize v10.heap.size = gc at *
      refine pw_call (by rfl) 12 _ _ rfl Try.func12 (by kernel_rfl) #[.slice (some ⟨gc, 0, none⟩) 1 1] rfl (.int .i64 4) (hc2 _ _ rgc) ?_
      intro v12 hv
      replace sb := below_on sb (Nat.le_refl _) hv
      clear hv
      simp only [Act.put, pb, pc, pd]
      refine pw_value (by rfl) (.bool true) (exec_eql_k .i64 _ _ _ _ rfl 4 4 rfl rfl true rfl) ?_
      simp only [Act.put, pb, pc, pd]
      refine pw_pick (by rfl) true rfl rfl rfl ?_
      simp only [Act.put, pb, pc, pd]
      refine pw_move (by rfl) (.inr rfl) rfl ?_
      simp only [Act.put, List.setIfInBounds_toArray, List.set_cons_zero]
      refine pw_nil ?_
      go_wp2
      go_ret
      exact ⟨rfl, sb⟩
    · rfl
  · rfl
end Go.Proofs.Ytcdfefljagddmab
