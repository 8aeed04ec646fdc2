/- The document's space: Open, Sorted. -/
import Derived.Test.YtchiiphmpkmloaaSpRef
namespace Go.Proofs.Ytchiiphmpkmloaa
open Go.RowKit
set_option linter.unusedVariables false
set_option linter.unusedSectionVars false
set_option linter.unusedSimpArgs false
/-- Two own slices whose blocks differ. -/
theorem own_two {w : World} {base : Nat} {vx v1 vy : Value} {n k : Nat} {e : TypeId} {xs : List Value} (hy : w.ownsRow base e k vy n xs) (hp : v1.ownBlock = vx.ownBlock ∨ v1.ownBlock = some w.heap.size) (z : ∀ b, vy.ownBlock = some b → vx.ownBlock ≠ some b) : ∀ b, vy.ownBlock = some b → v1.ownBlock ≠ some b := fun b hb e' => by
 rcases hp with h | h
 ·exact z b hb (h ▸ e')
 ·rw [h] at e'
  cases e'
  exact own_new hy (Nat.le_refl _) hb
theorem own_sym {vx vy : Value} (z : ∀ b, vy.ownBlock = some b → vx.ownBlock ≠ some b) : ∀ b, vx.ownBlock = some b → vy.ownBlock ≠ some b := fun b h e => z b e h
theorem own_nin2 {vx vy : Value} (z : ∀ b, vy.ownBlock = some b → vx.ownBlock ≠ some b) : ∀ b, vy.ownBlock = some b → b ∉ vx.ownBlock.toList := fun b h => own_nin (z b h)
theorem ownE_congr {k : Nat} {e : TypeId} {w : World} {bs n : Nat} {v : Value} {C D : Nat → Array Value} (h : OwnE k e w bs v n C) (hd : ∀ i, i < n → C i = D i) : OwnE k e w bs v n D := by
 unfold OwnE at *
 rw [← esC_congr hd]
 exact h
theorem ownE_elsB {k : Nat} {e : TypeId} {w : World} {bs n : Nat} {v : Value} {C : Nat → Array Value} (hC : ∀ i, (C i).size = k) (h : OwnE k e w bs v n C) : ∃ ab c gb cur, v = .slice ab n c ∧ ElsAt k w ab n C gb 0 cur e ∧ (n = 0 ∨ bs ≤ gb) := by
 have hb := h.base
 obtain ⟨ab, c, gb, cur, rfl, _, he⟩ := ownE_els hC h
 refine ⟨ab, c, gb, cur, rfl, he, ?_⟩
 rcases he.at' with h0 | ⟨rfl, _, _⟩
 ·exact .inl h0
 ·exact .inr (hb gb (by simp [Value.ownBlock]))
theorem size1tstring : (Try.prog.info? 9).map (·.size) = some 1 := size_str
theorem ret_rowF {P : Program} {fn : Func} {R : Ending → World → Prop} {a : Act} {w : World} {p u u2 u3 : Tmp} {ty : TypeId} (hf : fn.results = #[.cell p ty, .tmp u, .tmp u2, .tmp u3]) (g : Nat) (hp : a.tmps.getD p undef = .pointer (some ⟨g, 0, none⟩))
  {t : TypeId} {cs : Array Value} (hr : Row w g cs t) (fs : Array Field) (hu : P.underlying ty = some (.struct fs)) (hi : (P.info? ty).map (·.size) = some cs.size) (hd : a.defers = [])
  (v v2 v3 : Value) (hv : a.tmps.getD u undef = v) (hv2 : a.tmps.getD u2 undef = v2) (hv3 : a.tmps.getD u3 undef = v3) (h : R (.returned (.tuple #[.agg cs, v, v2, v3])) w) : bodyPost P fn R .ret a w := by
 refine bodyPost_ret (v := .tuple #[.agg cs, v, v2, v3]) ?_ hd h
 have h1 := run_loadVar_row w g t ty cs (0, 0) _ hr hu rfl hi
 rw [Array.getD_eq_getD_getElem?] at hp hv hv2 hv3
 simp [results, hf, hp, hv, hv2, hv3, Sem.run_bind, asAddr, h1]
theorem built_rf (n m : Int) (a1 a2 : Option Addr) (n1 c1 n2 c2 : Nat) : Try.prog.built 33 [(0, .int .i64 n), (1, .int .i64 m), (2, .slice a1 n1 c1), (3, .slice a2 n2 c2)] = some (sxC n m (.slice a1 n1 c1) (.slice a2 n2 c2)) := by kernel_rfl
theorem lit_int1 (x : Int) (k : Nat) (hk : k = 1) : Instr.fill (fun i => some (i * k, k)) ((Array.range (1 * k)).map ((Value.int .i64 0).cells[· % (Value.int .i64 0).cells.size]!)) [(0, .int .i64 x)] = some #[.int .i64 x] := by
 subst hk
 kernel_rfl
theorem stC_app (l : List Ky) (x : Ky) (i : Nat) (h : i < l.length) : stC l i = stC (l ++ [x]) i := by
 unfold stC
 rw [List.getD_eq_getElem?_getD, List.getD_eq_getElem?_getD, List.getElem?_append_left h]
theorem stC_end (l : List Ky) (x : Ky) : stC (l ++ [x]) l.length = #[strV x] := by
 unfold stC
 rw [List.getD_eq_getElem?_getD, List.getElem?_append_right (Nat.le_refl _), Nat.sub_self]
 rfl
theorem inC_app (l : List Int) (x : Int) (i : Nat) (h : i < l.length) : inC l i = inC (l ++ [x]) i := by
 unfold inC
 rw [List.getD_eq_getElem?_getD, List.getD_eq_getElem?_getD, List.getElem?_append_left h]
theorem inC_end (l : List Int) (x : Int) : inC (l ++ [x]) l.length = #[.int .i64 x] := by
 unfold inC
 rw [List.getD_eq_getElem?_getD, List.getElem?_append_right (Nat.le_refl _), Nat.sub_self]
 rfl
section
variable {P : Program} {ops : Array Oper} {Q : Exit → Act → World → Prop} {rest : List Oper} {o : Oper} {a : Act} {w : World}
/-- append of all elements to nil. -/
theorem pw_appA (hw : Region.wanted o (yielded ops a.tmps) = true) (s x : Operand) (t : TypeId) (ho : o.op = .call { callee := .builtin .append, args := #[s, x], argTypes := #[t, t] })
  (e : TypeId) (i : TypeInfo) (z : Value) (k bytes : Nat) (ht : P.underlying t = some (.slice e)) (hi : P.info? e = some i) (hz : i.zero = some z) (hsize : i.size = k) (hby : i.bytes = bytes) (hzs : z.cells.size = k) (hk : 0 < k) (hby2 : bytes ≤ 1000)
  (ab : Option Addr) (m c : Nat) (C : Nat → Array Value) (hC : ∀ i, (C i).size = k) (hs : a.eval s = .slice none 0 0) (hx : a.eval x = .slice ab m c) {gb ob : Nat} {bcs : Array Value} {tb : TypeId} (hE : ElsAt k w ab m C gb ob bcs tb) (h1 : ∀ i, (C i).all (·.oneCell') = true) (hm : m ≤ 1000000)
  (h : ∀ v' w', OwnE k e w' w.heap.size v' m C → Kept [] w w' → PW P ops Q rest (a.put o.dst v') w') : PW P ops Q (o :: rest) a w := by
 have hdone : ∀ v' w', (Builtin.append_ #[t, t] o.type #[.slice none 0 0, .slice ab m c]).run P w = .ok v' w' → OwnE k e w' w.heap.size v' m C → Kept [] w w' → PW P ops Q (o :: rest) a w := fun v' w' hr h2 h3 => by
  refine pw_run hw v' w' ?_ (h v' w' h2 h3)
  unfold execOp
  simp only [ho, resolve, invoke, builtin, Sem.run_bind, Sem.run_pure, Result.andThen_ok, List.map_toArray, List.map_cons, List.map_nil, hs, hx, hr]
 cases ab with
 | none =>
  have hm0 : m = 0 := by
   rcases hE.at' with h0 | ⟨h0, _⟩
   ·exact h0
   ·cases h0
  subst hm0
  refine hdone (.slice none 0 0) w ?_ (ownE_nil _ _ _ _) (Kept.refl _ _)
  simp [Builtin.append_, run_underlying ht, sizeOf, typeInfo, hi, Builtin.lenOf, Builtin.firstCells]
 | some q =>
  have hnews : ∀ j u, (esC k m C).toList[j]? = some u → w.cell? (q.add j) = some u := by
   intro j u hu
   have hj : j < m * k := by have := (List.getElem?_eq_some_iff.1 hu).1; rw [Array.length_toList, esC_size] at this; exact this
   rcases hE.at' with h0 | ⟨h0, hR, hel⟩
   ·rw [h0, Nat.zero_mul] at hj; exact absurd hj (Nat.not_lt_zero _)
   ·obtain rfl := Option.some.inj h0
    rw [Addr.add_mid, hR.cell]
    rw [Array.getElem?_toList, esC_at hC j hj, ← Array.getElem?_toList] at hu
    have h5 := hel (j / k) (by rw [Nat.mul_comm] at hj; exact Nat.div_lt_of_lt_mul hj) (j % k) u hu
    rw [Nat.add_assoc, show j / k * k + j % k = j by rw [Nat.mul_comm]; exact Nat.div_add_mod j k] at h5
    exact h5
  have hone : ∀ u ∈ (esC k m C).toList, u.oneCell' = true := by
   intro u hu
   obtain ⟨j, hj⟩ := List.mem_iff_getElem?.1 hu
   have hjl : j < m * k := by have := (List.getElem?_eq_some_iff.1 hj).1; rw [Array.length_toList, esC_size] at this; exact this
   rw [Array.getElem?_toList, esC_at hC j hjl] at hj
   have h5 := h1 (j / k)
   rw [Array.all_eq_true] at h5
   obtain ⟨h6, h7⟩ := Array.getElem?_eq_some_iff.1 hj
   rw [← h7]
   exact h5 _ h6
  have h0 := ownE_nil (k := k) e w w.heap.size C
  obtain ⟨v', w', hr, h2, h3, _⟩ := run_append_own (P := P) w w.heap.size t o.type e i z k bytes ht hi hz hsize hby hzs hk (.slice none 0 0) 0 _ h0 q m c (esC k m C).toList (by rw [Array.length_toList, esC_size]) hnews hone (by unfold maxLen; omega) (by rw [Nat.zero_add]; exact Nat.le_trans (Nat.mul_le_mul hm hby2) (by decide)) (Nat.le_refl _)
  have e0 : (esC k 0 C).toList = [] := by
   apply List.eq_nil_of_length_eq_zero
   rw [Array.length_toList, esC_size, Nat.zero_mul]
  rw [Nat.zero_add, e0, List.nil_append] at h2
  exact hdone v' w' hr h2 ⟨h3.os, h3.tape, h3.output, h3.size, fun b hb hn => h3.block b hb (by simp [Value.ownBlock])⟩
end
theorem OwnE.weak {k : Nat} {e : TypeId} {w : World} {bs b0 n : Nat} {v : Value} {C : Nat → Array Value} (h : OwnE k e w bs v n C) (hb : b0 ≤ bs) : OwnE k e w b0 v n C :=
 ⟨h.1, h.2.imp id fun ⟨g, cap, cur, e1, h1, h2⟩ => ⟨g, cap, cur, e1, Nat.le_trans hb h1, h2⟩⟩
/-- The document's space in memory; none of its rows is among S. -/
structure RfAt (w : World) (S : List Nat) (a1 a2 : Option Addr) (us : List Ky) (es : List Int) : Prop where
 out : ∃ g1 o1 b1 t1 g2 o2 b2 t2, ElsAt 1 w a1 us.length (stC us) g1 o1 b1 t1 ∧ ElsAt 1 w a2 es.length (inC es) g2 o2 b2 t2 ∧ (us.length = 0 ∨ g1 ∉ S) ∧ (es.length = 0 ∨ g2 ∉ S)
section
variable {w w2 : World} {S S2 T : List Nat} {a1 a2 : Option Addr} {us : List Ky} {es : List Int}
theorem ElsAt.on {k n : Nat} {ab : Option Addr} {C : Nat → Array Value} {gb ob : Nat} {bcs : Array Value} {tb : TypeId} (h : ElsAt k w ab n C gb ob bcs tb) (hk : Kept T w w2) (hT : n = 0 ∨ gb ∉ T) : ElsAt k w2 ab n C gb ob bcs tb := by
 refine ⟨?_⟩
 rcases h.at' with h0 | ⟨h1, h2, h3⟩
 ·exact .inl h0
 ·rcases hT with hT | hT
  ·exact .inl hT
  ·exact .inr ⟨h1, hk.rowR h2 hT, h3⟩
theorem RfAt.on (h : RfAt w S a1 a2 us es) (hk : Kept T w w2) (hT : ∀ b ∈ T, b ∈ S) (hS : ∀ b ∈ S2, b ∈ S ∨ w.heap.size ≤ b) : RfAt w2 S2 a1 a2 us es := by
 obtain ⟨g1, o1, b1, t1, g2, o2, b2, t2, h1, h2, n1, n2⟩ := h.out
 refine ⟨g1, o1, b1, t1, g2, o2, b2, t2, h1.on hk (n1.imp id fun h9 hm => h9 (hT _ hm)), h2.on hk (n2.imp id fun h9 hm => h9 (hT _ hm)), ?_, ?_⟩
 ·rcases n1 with n1 | n1
  ·exact .inl n1
  ·rcases h1.at' with h0 | ⟨_, h0, _⟩
   ·exact .inl h0
   ·exact .inr fun hm => (hS _ hm).elim n1 fun h9 => by have := h0.lt; omega
 ·rcases n2 with n1 | n1
  ·exact .inl n1
  ·rcases h2.at' with h0 | ⟨_, h0, _⟩
   ·exact .inl h0
   ·exact .inr fun hm => (hS _ hm).elim n1 fun h9 => by have := h0.lt; omega
theorem RfAt.below (h : RfAt w S a1 a2 us es) (hb : Below w.heap.size w w2) : RfAt w2 S a1 a2 us es := h.on (Kept.ofBelow hb) (by simp) fun b hb => .inl hb
theorem RfAt.belowAll (h : RfAt w S a1 a2 us es) (hb : Below w.heap.size w w2) : RfAt w2 S a1 a2 us es := h.below hb
theorem RfAt.nil (w : World) (S : List Nat) : RfAt w S none none [] [] := ⟨0, 0, #[], 0, 0, 0, #[], 0, ⟨.inl rfl⟩, ⟨.inl rfl⟩, .inl rfl, .inl rfl⟩
end
set_option maxRecDepth 100000 in
set_option maxHeartbeats 2000000 in
theorem ropn_any (n m : Int) (a1 : Option Addr) (c1 : Nat) (us : List Ky) (a2 : Option Addr) (c2 : Nat) (es : List Int) (S : List Nat) (x : Ky) (e : Int) (w : World) (hR : RfAt w S a1 a2 us es) (hS : ∀ b ∈ S, b < w.heap.size) (hl : us.length ≤ 1000) (he : es.length ≤ 1000) (hx : x.length ≤ 16777216) (hn : 1 ≤ n) (hn7 : n ≤ 7) (hm1 : 1 ≤ m) (hm4 : m ≤ 4) :
  Calls Try.prog 10 #[.agg (sxC n m (.slice a1 us.length c1) (.slice a2 es.length c2)), .string ⟨x.toArray⟩, .int .i64 e] w fun e' w' => ∃ c1' c2' a1' a2', e' = .returned (.tuple #[.agg (sxC n m (.slice a1' (opL n m us es x e).length c1') (.slice a2' (opS n m us es x e).length c2')), .int .i64 (opP n m us (usd es e) x e : Nat), .bool (opF n m us (usd es e) x e), .int .i64 (opE n m us (usd es e) x e)]) ∧ RfAt w' S a1' a2' (opL n m us es x e) (opS n m us es x e) ∧ Below w.heap.size w w' := by
 have hm : 0 ≤ m := by omega
 by_cases h1 : (x.length : Int) < 1
 ·have ha : ¬ (endB n m e = true ∧ kyB x = true) := fun h9 => by have := of_decide_eq_true h9.2; omega
  have HR : Hid (RfAt w S a1 a2 us es) := hR
  obtain ⟨hL, hS2⟩ : opL n m us es x e = us ∧ opS n m us es x e = es := by
   obtain ⟨_, e2, _⟩ := op_arg (l := us) (u := usd es e) ha
   exact ⟨by unfold opL; rw [e2]; rfl, by unfold opS; rw [e2]; rfl⟩
  obtain ⟨e1, e2, e3⟩ := op_arg (l := us) (u := usd es e) ha
  rw [hL, hS2, e1, e2, e3]
  clear hR hL hS2 e1 e2 e3
  clear ha
  go_enter Try.func10, Try.ntmps10
  have sb := sbmk w
  (repeat ((fail_if_success with_reducible refine rg ?_); go_step))
  refine wp_region_pw ?_
  refine pw_boxr (by rfl) 33 _ rfl (sxC n m (.slice a1 us.length c1) (.slice a2 es.length c2)) rfl ?_
  intro g3 z0 n0 r3 k
  simp only [Act.put, pu]
  have b3 := Nat.le_trans sb.size n0
  clear n0
  replace sb := sb.trans (k.below w.heap.size sb.size (by simp <;> omega))
  clear k
  refine pw_new (by rfl) 33 rfl _ zero_rf ?_
  intro g6 z1 n0 r6 k
  simp only [Act.put, pu]
  have d3x6 := Nat.lt_of_lt_of_le r3.lt n0
  have b6 := Nat.le_trans sb.size n0
  clear n0
  replace r3 := k.row r3 (by simp <;> omega)
  replace sb := sb.trans (k.below w.heap.size sb.size (by simp <;> omega))
  clear k
  refine pw_value (by rfl) (.int .i64 0) (fun _ => rfl) ?_
  simp only [Act.put, pu]
  refine pw_value (by rfl) (.bool false) (fun _ => rfl) ?_
  simp only [Act.put, pu]
  refine pw_value (by rfl) (.int .i64 0) (fun _ => rfl) ?_
  simp only [Act.put, pu]
  refine pw_nil ?_
  (repeat ((fail_if_success with_reducible refine rg ?_); go_step))
  refine wp_region_pw ?_
  refine pw_mv (by rfl) rfl rfl ?_
  simp only [Act.put, pu]
  refine pw_value (by rfl) (.int .i64 (x.length : Nat)) (y_lenS _ _ rfl x rfl Try.underlying9) ?_
  simp only [Act.put, pu]
  refine pw_value (by rfl) (.bool true) (exec_lt_b _ _ _ _ rfl ((x.length : Nat)) (1) rfl rfl true (decide_eq_true h1)) ?_
  simp only [Act.put, pu]
  refine pw_mv (by rfl) rfl rfl ?_
  simp only [Act.put, pu]
  refine pw_skip (by rfl) ?_
  simp only [Act.put, pu]
  refine pw_skip (by rfl) ?_
  simp only [Act.put, pu]
  refine pw_skip (by rfl) ?_
  simp only [Act.put, pu]
  refine pw_pick (by rfl) true (v := .bool true) rfl rfl rfl ?_
  simp only [Act.put, pu]
  refine pw_mv (by rfl) rfl rfl ?_
  simp only [Act.put, pu]
  refine pw_skip (by rfl) ?_
  simp only [Act.put, pu]
  refine pw_skip (by rfl) ?_
  simp only [Act.put, pu]
  refine pw_skip (by rfl) ?_
  simp only [Act.put, pu]
  refine pw_skip (by rfl) ?_
  simp only [Act.put, pu]
  refine pw_pick (by rfl) true (v := .bool true) rfl rfl rfl ?_
  simp only [Act.put, pu]
  refine pw_nil ?_
  (repeat ((fail_if_success with_reducible refine rg ?_); go_step))
  refine wp_region_pw ?_
  refine pw_loadm (by rfl) 33 _ rfl _ 0 rfl r3.r _ (part_all _) _ Try.underlying33 rfl (by rw [sxC_size]; exact size_rf) ?_
  simp only [Act.put, pu]
  refine pw_put (by rfl) 33 _ _ rfl _ rfl r6 (sxC n m (.slice a1 us.length c1) (.slice a2 es.length c2)) rfl (by rw [sxC_size]; exact size_rf) (by simp only [sxC_size]) (sx_one _ _ _ _ (by rfl) (by rfl)) ?_
  clear r6
  intro z2001 r6 k
  simp only [Act.put]
  replace r3 := k.row r3 (by simp <;> omega)
  replace sb := sb.trans (k.below w.heap.size sb.size (by simp <;> omega))
  clear k
  refine pw_value (by rfl) (.int .i64 0) (fun _ => rfl) ?_
  simp only [Act.put, pu]
  refine pw_value (by rfl) (.bool false) (fun _ => rfl) ?_
  simp only [Act.put, pu]
  refine pw_value (by rfl) (.int .i64 1) (fun _ => rfl) ?_
  simp only [Act.put, pu]
  refine pw_nil ?_
  go_wp2
  exact ret_rowF rfl _ rfl r6 _ Try.underlying33 size_rf rfl _ _ _ rfl rfl rfl ⟨c1, c2, a1, a2, rfl, HR.out.below sb, sb⟩
 by_cases h2 : (x.length : Int) > 8
 ·have ha : ¬ (endB n m e = true ∧ kyB x = true) := fun h9 => by have := of_decide_eq_true h9.2; omega
  have HR : Hid (RfAt w S a1 a2 us es) := hR
  obtain ⟨hL, hS2⟩ : opL n m us es x e = us ∧ opS n m us es x e = es := by
   obtain ⟨_, e2, _⟩ := op_arg (l := us) (u := usd es e) ha
   exact ⟨by unfold opL; rw [e2]; rfl, by unfold opS; rw [e2]; rfl⟩
  obtain ⟨e1, e2, e3⟩ := op_arg (l := us) (u := usd es e) ha
  rw [hL, hS2, e1, e2, e3]
  clear hR hL hS2 e1 e2 e3
  clear ha
  go_enter Try.func10, Try.ntmps10
  have sb := sbmk w
  (repeat ((fail_if_success with_reducible refine rg ?_); go_step))
  refine wp_region_pw ?_
  refine pw_boxr (by rfl) 33 _ rfl (sxC n m (.slice a1 us.length c1) (.slice a2 es.length c2)) rfl ?_
  intro g3 z0 n0 r3 k
  simp only [Act.put, pu]
  have b3 := Nat.le_trans sb.size n0
  clear n0
  replace sb := sb.trans (k.below w.heap.size sb.size (by simp <;> omega))
  clear k
  refine pw_new (by rfl) 33 rfl _ zero_rf ?_
  intro g6 z1 n0 r6 k
  simp only [Act.put, pu]
  have d3x6 := Nat.lt_of_lt_of_le r3.lt n0
  have b6 := Nat.le_trans sb.size n0
  clear n0
  replace r3 := k.row r3 (by simp <;> omega)
  replace sb := sb.trans (k.below w.heap.size sb.size (by simp <;> omega))
  clear k
  refine pw_value (by rfl) (.int .i64 0) (fun _ => rfl) ?_
  simp only [Act.put, pu]
  refine pw_value (by rfl) (.bool false) (fun _ => rfl) ?_
  simp only [Act.put, pu]
  refine pw_value (by rfl) (.int .i64 0) (fun _ => rfl) ?_
  simp only [Act.put, pu]
  refine pw_nil ?_
  (repeat ((fail_if_success with_reducible refine rg ?_); go_step))
  refine wp_region_pw ?_
  refine pw_mv (by rfl) rfl rfl ?_
  simp only [Act.put, pu]
  refine pw_value (by rfl) (.int .i64 (x.length : Nat)) (y_lenS _ _ rfl x rfl Try.underlying9) ?_
  simp only [Act.put, pu]
  refine pw_value (by rfl) (.bool false) (exec_lt_b _ _ _ _ rfl ((x.length : Nat)) (1) rfl rfl false (decide_eq_false h1)) ?_
  simp only [Act.put, pu]
  refine pw_mv (by rfl) rfl rfl ?_
  simp only [Act.put, pu]
  refine pw_mv (by rfl) rfl rfl ?_
  simp only [Act.put, pu]
  refine pw_value (by rfl) (.int .i64 (x.length : Nat)) (y_lenS _ _ rfl x rfl Try.underlying9) ?_
  simp only [Act.put, pu]
  refine pw_value (by rfl) (.bool true) (exec_gt_i _ _ _ _ rfl ((x.length : Nat)) (8) rfl rfl true (decide_eq_true h2)) ?_
  simp only [Act.put, pu]
  refine pw_pick (by rfl) false (v := .bool true) rfl rfl rfl ?_
  simp only [Act.put, pu]
  refine pw_mv (by rfl) rfl rfl ?_
  simp only [Act.put, pu]
  refine pw_skip (by rfl) ?_
  simp only [Act.put, pu]
  refine pw_skip (by rfl) ?_
  simp only [Act.put, pu]
  refine pw_skip (by rfl) ?_
  simp only [Act.put, pu]
  refine pw_skip (by rfl) ?_
  simp only [Act.put, pu]
  refine pw_pick (by rfl) true (v := .bool true) rfl rfl rfl ?_
  simp only [Act.put, pu]
  refine pw_nil ?_
  (repeat ((fail_if_success with_reducible refine rg ?_); go_step))
  refine wp_region_pw ?_
  refine pw_loadm (by rfl) 33 _ rfl _ 0 rfl r3.r _ (part_all _) _ Try.underlying33 rfl (by rw [sxC_size]; exact size_rf) ?_
  simp only [Act.put, pu]
  refine pw_put (by rfl) 33 _ _ rfl _ rfl r6 (sxC n m (.slice a1 us.length c1) (.slice a2 es.length c2)) rfl (by rw [sxC_size]; exact size_rf) (by simp only [sxC_size]) (sx_one _ _ _ _ (by rfl) (by rfl)) ?_
  clear r6
  intro z2001 r6 k
  simp only [Act.put]
  replace r3 := k.row r3 (by simp <;> omega)
  replace sb := sb.trans (k.below w.heap.size sb.size (by simp <;> omega))
  clear k
  refine pw_value (by rfl) (.int .i64 0) (fun _ => rfl) ?_
  simp only [Act.put, pu]
  refine pw_value (by rfl) (.bool false) (fun _ => rfl) ?_
  simp only [Act.put, pu]
  refine pw_value (by rfl) (.int .i64 1) (fun _ => rfl) ?_
  simp only [Act.put, pu]
  refine pw_nil ?_
  go_wp2
  exact ret_rowF rfl _ rfl r6 _ Try.underlying33 size_rf rfl _ _ _ rfl rfl rfl ⟨c1, c2, a1, a2, rfl, HR.out.below sb, sb⟩
 have hky : kyB x = true := decide_eq_true (by omega)
 by_cases h3 : quo n m e = 0
 ·have ha : ¬ (endB n m e = true ∧ kyB x = true) := fun h9 => by
   unfold quo at h3
   rw [if_pos h9.1] at h3
   have h8 : 0 < m * n := Int.mul_pos (by omega) (by omega)
   split at h3 <;> omega
  have HR : Hid (RfAt w S a1 a2 us es) := hR
  obtain ⟨hL, hS2⟩ : opL n m us es x e = us ∧ opS n m us es x e = es := by
   obtain ⟨_, e2, _⟩ := op_arg (l := us) (u := usd es e) ha
   exact ⟨by unfold opL; rw [e2]; rfl, by unfold opS; rw [e2]; rfl⟩
  obtain ⟨e1, e2, e3⟩ := op_arg (l := us) (u := usd es e) ha
  rw [hL, hS2, e1, e2, e3]
  clear hR hL hS2 e1 e2 e3
  clear ha hky
  go_enter Try.func10, Try.ntmps10
  have sb := sbmk w
  (repeat ((fail_if_success with_reducible refine rg ?_); go_step))
  refine wp_region_pw ?_
  refine pw_boxr (by rfl) 33 _ rfl (sxC n m (.slice a1 us.length c1) (.slice a2 es.length c2)) rfl ?_
  intro g3 z0 n0 r3 k
  simp only [Act.put, pu]
  have b3 := Nat.le_trans sb.size n0
  clear n0
  replace sb := sb.trans (k.below w.heap.size sb.size (by simp <;> omega))
  clear k
  refine pw_new (by rfl) 33 rfl _ zero_rf ?_
  intro g6 z1 n0 r6 k
  simp only [Act.put, pu]
  have d3x6 := Nat.lt_of_lt_of_le r3.lt n0
  have b6 := Nat.le_trans sb.size n0
  clear n0
  replace r3 := k.row r3 (by simp <;> omega)
  replace sb := sb.trans (k.below w.heap.size sb.size (by simp <;> omega))
  clear k
  refine pw_value (by rfl) (.int .i64 0) (fun _ => rfl) ?_
  simp only [Act.put, pu]
  refine pw_value (by rfl) (.bool false) (fun _ => rfl) ?_
  simp only [Act.put, pu]
  refine pw_value (by rfl) (.int .i64 0) (fun _ => rfl) ?_
  simp only [Act.put, pu]
  refine pw_nil ?_
  (repeat ((fail_if_success with_reducible refine rg ?_); go_step))
  refine wp_region_pw ?_
  refine pw_mv (by rfl) rfl rfl ?_
  simp only [Act.put, pu]
  refine pw_value (by rfl) (.int .i64 (x.length : Nat)) (y_lenS _ _ rfl x rfl Try.underlying9) ?_
  simp only [Act.put, pu]
  refine pw_value (by rfl) (.bool false) (exec_lt_b _ _ _ _ rfl ((x.length : Nat)) (1) rfl rfl false (decide_eq_false h1)) ?_
  simp only [Act.put, pu]
  refine pw_mv (by rfl) rfl rfl ?_
  simp only [Act.put, pu]
  refine pw_mv (by rfl) rfl rfl ?_
  simp only [Act.put, pu]
  refine pw_value (by rfl) (.int .i64 (x.length : Nat)) (y_lenS _ _ rfl x rfl Try.underlying9) ?_
  simp only [Act.put, pu]
  refine pw_value (by rfl) (.bool false) (exec_gt_i _ _ _ _ rfl ((x.length : Nat)) (8) rfl rfl false (decide_eq_false h2)) ?_
  simp only [Act.put, pu]
  refine pw_pick (by rfl) false (v := .bool false) rfl rfl rfl ?_
  simp only [Act.put, pu]
  refine pw_mv (by rfl) rfl rfl ?_
  simp only [Act.put, pu]
  refine pw_loadm (by rfl) 33 _ rfl _ 0 rfl r3.r _ (part_all _) _ Try.underlying33 rfl (by rw [sxC_size]; exact size_rf) ?_
  simp only [Act.put, pu]
  refine pw_mv (by rfl) rfl rfl ?_
  simp only [Act.put, pu]
  refine pw_callB (by rfl) 17 _ _ rfl Try.func17 (by kernel_rfl) #[.agg (sxC n m (.slice a1 us.length c1) (.slice a2 es.length c2)), .int .i64 e] rfl _ (rquo_any n m _ _ e _ hn hn7 hm hm4) ?_
  intro z1011 k
  simp only [Act.put, pu]
  replace r3 := k.row r3 (by simp <;> omega)
  replace r6 := k.row r6 (by simp <;> omega)
  replace sb := sb.trans (k.below w.heap.size sb.size (by simp <;> omega))
  clear k
  refine pw_value (by rfl) (.bool true) (exec_eql_k .i64 _ _ _ _ rfl (quo n m e) (0) rfl rfl true (decide_eq_true h3)) ?_
  simp only [Act.put, pu]
  refine pw_pick (by rfl) false (v := .bool true) rfl rfl rfl ?_
  simp only [Act.put, pu]
  refine pw_nil ?_
  (repeat ((fail_if_success with_reducible refine rg ?_); go_step))
  refine wp_region_pw ?_
  refine pw_loadm (by rfl) 33 _ rfl _ 0 rfl r3.r _ (part_all _) _ Try.underlying33 rfl (by rw [sxC_size]; exact size_rf) ?_
  simp only [Act.put, pu]
  refine pw_put (by rfl) 33 _ _ rfl _ rfl r6 (sxC n m (.slice a1 us.length c1) (.slice a2 es.length c2)) rfl (by rw [sxC_size]; exact size_rf) (by simp only [sxC_size]) (sx_one _ _ _ _ (by rfl) (by rfl)) ?_
  clear r6
  intro z2001 r6 k
  simp only [Act.put]
  replace r3 := k.row r3 (by simp <;> omega)
  replace sb := sb.trans (k.below w.heap.size sb.size (by simp <;> omega))
  clear k
  refine pw_value (by rfl) (.int .i64 0) (fun _ => rfl) ?_
  simp only [Act.put, pu]
  refine pw_value (by rfl) (.bool false) (fun _ => rfl) ?_
  simp only [Act.put, pu]
  refine pw_value (by rfl) (.int .i64 1) (fun _ => rfl) ?_
  simp only [Act.put, pu]
  refine pw_nil ?_
  go_wp2
  exact ret_rowF rfl _ rfl r6 _ Try.underlying33 size_rf rfl _ _ _ rfl rfl rfl ⟨c1, c2, a1, a2, rfl, HR.out.below sb, sb⟩
 have hend : endB n m e = true := by
  cases h9 : endB n m e with
  | true => rfl
  | false => exact absurd (by unfold quo; rw [h9]; rfl) h3
 obtain ⟨g1, o1, b1, t1, g2, o2, b2, t2, hE1, hE2, hn1, hn2⟩ := hR.out
 have hF := fun w' (hb : Below w.heap.size w w') => rfnd_any n m (.slice a2 es.length c2) a1 c1 us g1 o1 b1 t1 x w' (by omega) (hE1.below hb)
 by_cases hxl : x ∈ us
 ·rw [show fdP us x = rk x us from if_pos hxl, show fdB us x = true from decide_eq_true hxl] at hF
  have HR : Hid (RfAt w S a1 a2 us es) := hR
  obtain ⟨hL, hS2⟩ : opL n m us es x e = us ∧ opS n m us es x e = es := by
   obtain ⟨_, e2, _⟩ := op_known (u := usd es e) hend hky hxl
   exact ⟨by unfold opL; rw [e2]; rfl, by unfold opS; rw [e2]; rfl⟩
  obtain ⟨e1, e2, e3⟩ := op_known (u := usd es e) hend hky hxl
  rw [hL, hS2, e1, e2, e3]
  clear hR hL hS2 e1 e2 e3
  clear hE1 hE2 hn1 hn2 hxl hend hky
  go_enter Try.func10, Try.ntmps10
  have sb := sbmk w
  (repeat ((fail_if_success with_reducible refine rg ?_); go_step))
  refine wp_region_pw ?_
  refine pw_boxr (by rfl) 33 _ rfl (sxC n m (.slice a1 us.length c1) (.slice a2 es.length c2)) rfl ?_
  intro g3 z0 n0 r3 k
  simp only [Act.put, pu]
  have b3 := Nat.le_trans sb.size n0
  clear n0
  replace sb := sb.trans (k.below w.heap.size sb.size (by simp <;> omega))
  clear k
  refine pw_new (by rfl) 33 rfl _ zero_rf ?_
  intro g6 z1 n0 r6 k
  simp only [Act.put, pu]
  have d3x6 := Nat.lt_of_lt_of_le r3.lt n0
  have b6 := Nat.le_trans sb.size n0
  clear n0
  replace r3 := k.row r3 (by simp <;> omega)
  replace sb := sb.trans (k.below w.heap.size sb.size (by simp <;> omega))
  clear k
  refine pw_value (by rfl) (.int .i64 0) (fun _ => rfl) ?_
  simp only [Act.put, pu]
  refine pw_value (by rfl) (.bool false) (fun _ => rfl) ?_
  simp only [Act.put, pu]
  refine pw_value (by rfl) (.int .i64 0) (fun _ => rfl) ?_
  simp only [Act.put, pu]
  refine pw_nil ?_
  (repeat ((fail_if_success with_reducible refine rg ?_); go_step))
  refine wp_region_pw ?_
  refine pw_mv (by rfl) rfl rfl ?_
  simp only [Act.put, pu]
  refine pw_value (by rfl) (.int .i64 (x.length : Nat)) (y_lenS _ _ rfl x rfl Try.underlying9) ?_
  simp only [Act.put, pu]
  refine pw_value (by rfl) (.bool false) (exec_lt_b _ _ _ _ rfl ((x.length : Nat)) (1) rfl rfl false (decide_eq_false h1)) ?_
  simp only [Act.put, pu]
  refine pw_mv (by rfl) rfl rfl ?_
  simp only [Act.put, pu]
  refine pw_mv (by rfl) rfl rfl ?_
  simp only [Act.put, pu]
  refine pw_value (by rfl) (.int .i64 (x.length : Nat)) (y_lenS _ _ rfl x rfl Try.underlying9) ?_
  simp only [Act.put, pu]
  refine pw_value (by rfl) (.bool false) (exec_gt_i _ _ _ _ rfl ((x.length : Nat)) (8) rfl rfl false (decide_eq_false h2)) ?_
  simp only [Act.put, pu]
  refine pw_pick (by rfl) false (v := .bool false) rfl rfl rfl ?_
  simp only [Act.put, pu]
  refine pw_mv (by rfl) rfl rfl ?_
  simp only [Act.put, pu]
  refine pw_loadm (by rfl) 33 _ rfl _ 0 rfl r3.r _ (part_all _) _ Try.underlying33 rfl (by rw [sxC_size]; exact size_rf) ?_
  simp only [Act.put, pu]
  refine pw_mv (by rfl) rfl rfl ?_
  simp only [Act.put, pu]
  refine pw_callB (by rfl) 17 _ _ rfl Try.func17 (by kernel_rfl) #[.agg (sxC n m (.slice a1 us.length c1) (.slice a2 es.length c2)), .int .i64 e] rfl _ (rquo_any n m _ _ e _ hn hn7 hm hm4) ?_
  intro z1011 k
  simp only [Act.put, pu]
  replace r3 := k.row r3 (by simp <;> omega)
  replace r6 := k.row r6 (by simp <;> omega)
  replace sb := sb.trans (k.below w.heap.size sb.size (by simp <;> omega))
  clear k
  refine pw_value (by rfl) (.bool false) (exec_eql_k .i64 _ _ _ _ rfl (quo n m e) (0) rfl rfl false (decide_eq_false h3)) ?_
  simp only [Act.put, pu]
  refine pw_pick (by rfl) false (v := .bool false) rfl rfl rfl ?_
  simp only [Act.put, pu]
  refine pw_nil ?_
  (repeat ((fail_if_success with_reducible refine rg ?_); go_step))
  refine wp_region_pw ?_
  refine pw_loadm (by rfl) 33 _ rfl _ 0 rfl r3.r _ (part_all _) _ Try.underlying33 rfl (by rw [sxC_size]; exact size_rf) ?_
  simp only [Act.put, pu]
  refine pw_mv (by rfl) rfl rfl ?_
  simp only [Act.put, pu]
  refine pw_callB (by rfl) 13 _ _ rfl Try.func13 (by kernel_rfl) #[.agg (sxC n m (.slice a1 us.length c1) (.slice a2 es.length c2)), .string ⟨x.toArray⟩] rfl _ (hF _ sb) ?_
  intro z3002 k
  simp only [Act.put, pu]
  replace r3 := k.row r3 (by simp <;> omega)
  replace r6 := k.row r6 (by simp <;> omega)
  replace sb := sb.trans (k.below w.heap.size sb.size (by simp <;> omega))
  clear k
  refine pw_mv (by rfl) rfl rfl ?_
  simp only [Act.put, pu]
  refine pw_ext (by rfl) rfl rfl rfl ?_
  simp only [Act.put, pu]
  refine pw_ext (by rfl) rfl rfl rfl ?_
  simp only [Act.put, pu]
  refine pw_as (by rfl) rfl rfl ?_
  simp only [Act.put, pu]
  refine pw_as (by rfl) rfl rfl ?_
  simp only [Act.put, pu]
  refine pw_nil ?_
  (repeat ((fail_if_success with_reducible refine rg ?_); go_step))
  refine wp_region_pw ?_
  refine pw_mv (by rfl) rfl rfl ?_
  simp only [Act.put, pu]
  refine pw_nil ?_
  (repeat ((fail_if_success with_reducible refine rg ?_); go_step))
  refine wp_region_pw ?_
  refine pw_loadm (by rfl) 33 _ rfl _ 0 rfl r3.r _ (part_all _) _ Try.underlying33 rfl (by rw [sxC_size]; exact size_rf) ?_
  simp only [Act.put, pu]
  refine pw_mv (by rfl) rfl rfl ?_
  simp only [Act.put, pu]
  refine pw_put (by rfl) 33 _ _ rfl _ rfl r6 (sxC n m (.slice a1 us.length c1) (.slice a2 es.length c2)) rfl (by rw [sxC_size]; exact size_rf) (by simp only [sxC_size]) (sx_one _ _ _ _ (by rfl) (by rfl)) ?_
  clear r6
  intro z5002 r6 k
  simp only [Act.put]
  replace r3 := k.row r3 (by simp <;> omega)
  replace sb := sb.trans (k.below w.heap.size sb.size (by simp <;> omega))
  clear k
  refine pw_as (by rfl) rfl rfl ?_
  simp only [Act.put, pu]
  refine pw_value (by rfl) (.bool false) (fun _ => rfl) ?_
  simp only [Act.put, pu]
  refine pw_value (by rfl) (.int .i64 0) (fun _ => rfl) ?_
  simp only [Act.put, pu]
  refine pw_nil ?_
  go_wp2
  exact ret_rowF rfl _ rfl r6 _ Try.underlying33 size_rf rfl _ _ _ rfl rfl rfl ⟨c1, c2, a1, a2, rfl, HR.out.below sb, sb⟩
 rw [show fdP us x = 0 from if_neg hxl, show fdB us x = false from decide_eq_false hxl] at hF
 have hU := fun w' (hb : Below w.heap.size w w') => rusd_any n m (.slice a1 us.length c1) a2 c2 es g2 o2 b2 t2 e w' (by omega) (hE2.below hb)
 by_cases hq : quo n m e ≤ usd es e
 ·have HR : Hid (RfAt w S a1 a2 us es) := hR
  obtain ⟨hL, hS2⟩ : opL n m us es x e = us ∧ opS n m us es x e = es := by
   obtain ⟨_, e2, _⟩ := op_quota (n := n) (m := m) hend hky hxl hq
   exact ⟨by unfold opL; rw [e2]; rfl, by unfold opS; rw [e2]; rfl⟩
  obtain ⟨e1, e2, e3⟩ := op_quota (n := n) (m := m) hend hky hxl hq
  rw [hL, hS2, e1, e2, e3]
  clear hR hL hS2 e1 e2 e3
  clear hE1 hE2 hn1 hn2 hxl hend hky
  go_enter Try.func10, Try.ntmps10
  have sb := sbmk w
  (repeat ((fail_if_success with_reducible refine rg ?_); go_step))
  refine wp_region_pw ?_
  refine pw_boxr (by rfl) 33 _ rfl (sxC n m (.slice a1 us.length c1) (.slice a2 es.length c2)) rfl ?_
  intro g3 z0 n0 r3 k
  simp only [Act.put, pu]
  have b3 := Nat.le_trans sb.size n0
  clear n0
  replace sb := sb.trans (k.below w.heap.size sb.size (by simp <;> omega))
  clear k
  refine pw_new (by rfl) 33 rfl _ zero_rf ?_
  intro g6 z1 n0 r6 k
  simp only [Act.put, pu]
  have d3x6 := Nat.lt_of_lt_of_le r3.lt n0
  have b6 := Nat.le_trans sb.size n0
  clear n0
  replace r3 := k.row r3 (by simp <;> omega)
  replace sb := sb.trans (k.below w.heap.size sb.size (by simp <;> omega))
  clear k
  refine pw_value (by rfl) (.int .i64 0) (fun _ => rfl) ?_
  simp only [Act.put, pu]
  refine pw_value (by rfl) (.bool false) (fun _ => rfl) ?_
  simp only [Act.put, pu]
  refine pw_value (by rfl) (.int .i64 0) (fun _ => rfl) ?_
  simp only [Act.put, pu]
  refine pw_nil ?_
  (repeat ((fail_if_success with_reducible refine rg ?_); go_step))
  refine wp_region_pw ?_
  refine pw_mv (by rfl) rfl rfl ?_
  simp only [Act.put, pu]
  refine pw_value (by rfl) (.int .i64 (x.length : Nat)) (y_lenS _ _ rfl x rfl Try.underlying9) ?_
  simp only [Act.put, pu]
  refine pw_value (by rfl) (.bool false) (exec_lt_b _ _ _ _ rfl ((x.length : Nat)) (1) rfl rfl false (decide_eq_false h1)) ?_
  simp only [Act.put, pu]
  refine pw_mv (by rfl) rfl rfl ?_
  simp only [Act.put, pu]
  refine pw_mv (by rfl) rfl rfl ?_
  simp only [Act.put, pu]
  refine pw_value (by rfl) (.int .i64 (x.length : Nat)) (y_lenS _ _ rfl x rfl Try.underlying9) ?_
  simp only [Act.put, pu]
  refine pw_value (by rfl) (.bool false) (exec_gt_i _ _ _ _ rfl ((x.length : Nat)) (8) rfl rfl false (decide_eq_false h2)) ?_
  simp only [Act.put, pu]
  refine pw_pick (by rfl) false (v := .bool false) rfl rfl rfl ?_
  simp only [Act.put, pu]
  refine pw_mv (by rfl) rfl rfl ?_
  simp only [Act.put, pu]
  refine pw_loadm (by rfl) 33 _ rfl _ 0 rfl r3.r _ (part_all _) _ Try.underlying33 rfl (by rw [sxC_size]; exact size_rf) ?_
  simp only [Act.put, pu]
  refine pw_mv (by rfl) rfl rfl ?_
  simp only [Act.put, pu]
  refine pw_callB (by rfl) 17 _ _ rfl Try.func17 (by kernel_rfl) #[.agg (sxC n m (.slice a1 us.length c1) (.slice a2 es.length c2)), .int .i64 e] rfl _ (rquo_any n m _ _ e _ hn hn7 hm hm4) ?_
  intro z1011 k
  simp only [Act.put, pu]
  replace r3 := k.row r3 (by simp <;> omega)
  replace r6 := k.row r6 (by simp <;> omega)
  replace sb := sb.trans (k.below w.heap.size sb.size (by simp <;> omega))
  clear k
  refine pw_value (by rfl) (.bool false) (exec_eql_k .i64 _ _ _ _ rfl (quo n m e) (0) rfl rfl false (decide_eq_false h3)) ?_
  simp only [Act.put, pu]
  refine pw_pick (by rfl) false (v := .bool false) rfl rfl rfl ?_
  simp only [Act.put, pu]
  refine pw_nil ?_
  (repeat ((fail_if_success with_reducible refine rg ?_); go_step))
  refine wp_region_pw ?_
  refine pw_loadm (by rfl) 33 _ rfl _ 0 rfl r3.r _ (part_all _) _ Try.underlying33 rfl (by rw [sxC_size]; exact size_rf) ?_
  simp only [Act.put, pu]
  refine pw_mv (by rfl) rfl rfl ?_
  simp only [Act.put, pu]
  refine pw_callB (by rfl) 13 _ _ rfl Try.func13 (by kernel_rfl) #[.agg (sxC n m (.slice a1 us.length c1) (.slice a2 es.length c2)), .string ⟨x.toArray⟩] rfl _ (hF _ sb) ?_
  intro z3002 k
  simp only [Act.put, pu]
  replace r3 := k.row r3 (by simp <;> omega)
  replace r6 := k.row r6 (by simp <;> omega)
  replace sb := sb.trans (k.below w.heap.size sb.size (by simp <;> omega))
  clear k
  refine pw_mv (by rfl) rfl rfl ?_
  simp only [Act.put, pu]
  refine pw_ext (by rfl) rfl rfl rfl ?_
  simp only [Act.put, pu]
  refine pw_ext (by rfl) rfl rfl rfl ?_
  simp only [Act.put, pu]
  refine pw_as (by rfl) rfl rfl ?_
  simp only [Act.put, pu]
  refine pw_as (by rfl) rfl rfl ?_
  simp only [Act.put, pu]
  refine pw_nil ?_
  (repeat ((fail_if_success with_reducible refine rg ?_); go_step))
  refine wp_region_pw ?_
  refine pw_mv (by rfl) rfl rfl ?_
  simp only [Act.put, pu]
  refine pw_nil ?_
  (repeat ((fail_if_success with_reducible refine rg ?_); go_step))
  refine wp_region_qw (by kernel_rfl) (by kernel_rfl) ?_
  refine qw_loadm (by rfl) 33 _ rfl _ (0) rfl r3 ((sxC n m (.slice a1 us.length c1) (.slice a2 es.length c2))) (part_all _) _ Try.underlying33 rfl (by rw [sxC_size]; exact size_rf) ?_
  simp only [Act.put, pu]
  refine qw_move (by rfl) rfl rfl ?_
  simp only [Act.put, pu]
  refine qw_callK (by rfl) 15 _ _ rfl Try.func15 (by kernel_rfl) #[.agg (sxC n m (.slice a1 us.length c1) (.slice a2 es.length c2)), .int .i64 e] rfl _ (fun w' hb => hU w' (below_on sb (Nat.le_refl _) hb)) ?_
  simp only [Act.put, pu]
  refine qw_loadm (by rfl) 33 _ rfl _ (0) rfl r3 ((sxC n m (.slice a1 us.length c1) (.slice a2 es.length c2))) (part_all _) _ Try.underlying33 rfl (by rw [sxC_size]; exact size_rf) ?_
  simp only [Act.put, pu]
  refine qw_move (by rfl) rfl rfl ?_
  simp only [Act.put, pu]
  refine qw_callK (by rfl) 17 _ _ rfl Try.func17 (by kernel_rfl) #[.agg (sxC n m (.slice a1 us.length c1) (.slice a2 es.length c2)), .int .i64 e] rfl _ (fun w' hb => rquo_any n m _ _ e w' hn hn7 hm hm4) ?_
  simp only [Act.put, pu]
  refine qw_value (by rfl) (.bool true) (exec_geq_i _ _ _ _ rfl (usd es e) (quo n m e) rfl rfl true (decide_eq_true (by omega))) ?_
  simp only [Act.put, pu]
  refine qw_nil ?_
  intro w9 hqb
  replace r3 := r3.belowAll hqb
  replace r6 := r6.belowAll hqb
  replace sb := below_on sb (Nat.le_refl _) hqb
  clear hqb
  (repeat ((fail_if_success with_reducible refine rg ?_); go_step))
  refine wp_region_pw ?_
  refine pw_loadm (by rfl) 33 _ rfl _ 0 rfl r3.r _ (part_all _) _ Try.underlying33 rfl (by rw [sxC_size]; exact size_rf) ?_
  simp only [Act.put, pu]
  refine pw_put (by rfl) 33 _ _ rfl _ rfl r6 (sxC n m (.slice a1 us.length c1) (.slice a2 es.length c2)) rfl (by rw [sxC_size]; exact size_rf) (by simp only [sxC_size]) (sx_one _ _ _ _ (by rfl) (by rfl)) ?_
  clear r6
  intro z7001 r6 k
  simp only [Act.put]
  replace r3 := k.row r3 (by simp <;> omega)
  replace sb := sb.trans (k.below w.heap.size sb.size (by simp <;> omega))
  clear k
  refine pw_value (by rfl) (.int .i64 0) (fun _ => rfl) ?_
  simp only [Act.put, pu]
  refine pw_value (by rfl) (.bool false) (fun _ => rfl) ?_
  simp only [Act.put, pu]
  refine pw_value (by rfl) (.int .i64 7) (fun _ => rfl) ?_
  simp only [Act.put, pu]
  refine pw_nil ?_
  go_wp2
  exact ret_rowF rfl _ rfl r6 _ Try.underlying33 size_rf rfl _ _ _ rfl rfl rfl ⟨c1, c2, a1, a2, rfl, HR.out.below sb, sb⟩
 obtain ⟨hLL, hSS, e1, e2, e3⟩ : opL n m us es x e = us ++ [x] ∧ opS n m us es x e = es ++ [e] ∧ opE n m us (usd es e) x e = 0 ∧ opF n m us (usd es e) x e = true ∧ opP n m us (usd es e) x e = rk x us := by
  obtain ⟨e1, e2, e3⟩ := op_new (n := n) (m := m) hend hky hxl (by omega : usd es e < quo n m e)
  exact ⟨by unfold opL; rw [e2]; rfl, by unfold opS; rw [e2]; rfl, e1, e2, e3⟩
 rw [hLL, hSS, e1, e2, e3]
 clear hLL hSS e1 e2 e3
 obtain ⟨us2, hu2⟩ : ∃ us2, us ++ [x] = us2 := ⟨_, rfl⟩
 obtain ⟨es2, he2⟩ : ∃ es2, es ++ [e] = es2 := ⟨_, rfl⟩
 have hF2 : fdP us2 x = rk x us ∧ fdB us2 x = true := by
  have hm9 : x ∈ us2 := by rw [← hu2]; simp
  exact ⟨by rw [← hu2, ← rk_snoc x us]; exact if_pos (by simp), decide_eq_true hm9⟩
 have hA1 : ∀ i, i < us.length → stC us i = stC us2 i := fun i hi => by rw [← hu2]; exact stC_app us x i hi
 have hA2 : stC us2 us.length = #[strV x] := by rw [← hu2]; exact stC_end us x
 have hB1 : ∀ i, i < es.length → inC es i = inC es2 i := fun i hi => by rw [← he2]; exact inC_app es e i hi
 have hB2 : inC es2 es.length = #[.int .i64 e] := by rw [← he2]; exact inC_end es e
 have hl2 : us2.length = us.length + 1 := by rw [← hu2]; simp
 have hl3 : es2.length = es.length + 1 := by rw [← he2]; simp
 rw [hu2, he2, hl2, hl3]
 obtain ⟨is, hsi, hsz, hss, hsb⟩ := of_info info_str
 obtain ⟨ii, hii, hiz, his, hib⟩ := of_info info_int
 have q1 : ¬ 1 * is.size > 2 ^ 24 := by rw [hss]; decide
 have q2 : ¬ 1 * is.size = 0 := by rw [hss]; decide
 have q3 : ¬ 1 * ii.size > 2 ^ 24 := by rw [his]; decide
 have q4 : ¬ 1 * ii.size = 0 := by rw [his]; decide
 have ql1 := lit_str1 x is.size hss
 have ql2 := lit_int1 e ii.size his
 clear hu2 he2 hR hn1 hn2 hxl hend hky
 go_enter Try.func10, Try.ntmps10
 have sb := sbmk w
 (repeat ((fail_if_success with_reducible refine rg ?_); go_step))
 refine wp_region_pw ?_
 refine pw_boxr (by rfl) 33 _ rfl (sxC n m (.slice a1 us.length c1) (.slice a2 es.length c2)) rfl ?_
 intro g3 z0 n0 r3 k
 simp only [Act.put, pu]
 have b3 := Nat.le_trans sb.size n0
 clear n0
 replace sb := sb.trans (k.below w.heap.size sb.size (by simp <;> omega))
 clear k
 refine pw_new (by rfl) 33 rfl _ zero_rf ?_
 intro g6 z1 n0 r6 k
 simp only [Act.put, pu]
 have d3x6 := Nat.lt_of_lt_of_le r3.lt n0
 have b6 := Nat.le_trans sb.size n0
 clear n0
 replace r3 := k.row r3 (by simp <;> omega)
 replace sb := sb.trans (k.below w.heap.size sb.size (by simp <;> omega))
 clear k
 refine pw_value (by rfl) (.int .i64 0) (fun _ => rfl) ?_
 simp only [Act.put, pu]
 refine pw_value (by rfl) (.bool false) (fun _ => rfl) ?_
 simp only [Act.put, pu]
 refine pw_value (by rfl) (.int .i64 0) (fun _ => rfl) ?_
 simp only [Act.put, pu]
 refine pw_nil ?_
 (repeat ((fail_if_success with_reducible refine rg ?_); go_step))
 refine wp_region_pw ?_
 refine pw_mv (by rfl) rfl rfl ?_
 simp only [Act.put, pu]
 refine pw_value (by rfl) (.int .i64 (x.length : Nat)) (y_lenS _ _ rfl x rfl Try.underlying9) ?_
 simp only [Act.put, pu]
 refine pw_value (by rfl) (.bool false) (exec_lt_b _ _ _ _ rfl ((x.length : Nat)) (1) rfl rfl false (decide_eq_false h1)) ?_
 simp only [Act.put, pu]
 refine pw_mv (by rfl) rfl rfl ?_
 simp only [Act.put, pu]
 refine pw_mv (by rfl) rfl rfl ?_
 simp only [Act.put, pu]
 refine pw_value (by rfl) (.int .i64 (x.length : Nat)) (y_lenS _ _ rfl x rfl Try.underlying9) ?_
 simp only [Act.put, pu]
 refine pw_value (by rfl) (.bool false) (exec_gt_i _ _ _ _ rfl ((x.length : Nat)) (8) rfl rfl false (decide_eq_false h2)) ?_
 simp only [Act.put, pu]
 refine pw_pick (by rfl) false (v := .bool false) rfl rfl rfl ?_
 simp only [Act.put, pu]
 refine pw_mv (by rfl) rfl rfl ?_
 simp only [Act.put, pu]
 refine pw_loadm (by rfl) 33 _ rfl _ 0 rfl r3.r _ (part_all _) _ Try.underlying33 rfl (by rw [sxC_size]; exact size_rf) ?_
 simp only [Act.put, pu]
 refine pw_mv (by rfl) rfl rfl ?_
 simp only [Act.put, pu]
 refine pw_callB (by rfl) 17 _ _ rfl Try.func17 (by kernel_rfl) #[.agg (sxC n m (.slice a1 us.length c1) (.slice a2 es.length c2)), .int .i64 e] rfl _ (rquo_any n m _ _ e _ hn hn7 hm hm4) ?_
 intro z1011 k
 simp only [Act.put, pu]
 replace r3 := k.row r3 (by simp <;> omega)
 replace r6 := k.row r6 (by simp <;> omega)
 replace sb := sb.trans (k.below w.heap.size sb.size (by simp <;> omega))
 clear k
 refine pw_value (by rfl) (.bool false) (exec_eql_k .i64 _ _ _ _ rfl (quo n m e) (0) rfl rfl false (decide_eq_false h3)) ?_
 simp only [Act.put, pu]
 refine pw_pick (by rfl) false (v := .bool false) rfl rfl rfl ?_
 simp only [Act.put, pu]
 refine pw_nil ?_
 (repeat ((fail_if_success with_reducible refine rg ?_); go_step))
 refine wp_region_pw ?_
 refine pw_loadm (by rfl) 33 _ rfl _ 0 rfl r3.r _ (part_all _) _ Try.underlying33 rfl (by rw [sxC_size]; exact size_rf) ?_
 simp only [Act.put, pu]
 refine pw_mv (by rfl) rfl rfl ?_
 simp only [Act.put, pu]
 refine pw_callB (by rfl) 13 _ _ rfl Try.func13 (by kernel_rfl) #[.agg (sxC n m (.slice a1 us.length c1) (.slice a2 es.length c2)), .string ⟨x.toArray⟩] rfl _ (hF _ sb) ?_
 intro z3002 k
 simp only [Act.put, pu]
 replace r3 := k.row r3 (by simp <;> omega)
 replace r6 := k.row r6 (by simp <;> omega)
 replace sb := sb.trans (k.below w.heap.size sb.size (by simp <;> omega))
 clear k
 refine pw_mv (by rfl) rfl rfl ?_
 simp only [Act.put, pu]
 refine pw_ext (by rfl) rfl rfl rfl ?_
 simp only [Act.put, pu]
 refine pw_ext (by rfl) rfl rfl rfl ?_
 simp only [Act.put, pu]
 refine pw_as (by rfl) rfl rfl ?_
 simp only [Act.put, pu]
 refine pw_as (by rfl) rfl rfl ?_
 simp only [Act.put, pu]
 refine pw_nil ?_
 (repeat ((fail_if_success with_reducible refine rg ?_); go_step))
 refine wp_region_pw ?_
 refine pw_mv (by rfl) rfl rfl ?_
 simp only [Act.put, pu]
 refine pw_nil ?_
 (repeat ((fail_if_success with_reducible refine rg ?_); go_step))
 refine wp_region_qw (by kernel_rfl) (by kernel_rfl) ?_
 refine qw_loadm (by rfl) 33 _ rfl _ (0) rfl r3 ((sxC n m (.slice a1 us.length c1) (.slice a2 es.length c2))) (part_all _) _ Try.underlying33 rfl (by rw [sxC_size]; exact size_rf) ?_
 simp only [Act.put, pu]
 refine qw_move (by rfl) rfl rfl ?_
 simp only [Act.put, pu]
 refine qw_callK (by rfl) 15 _ _ rfl Try.func15 (by kernel_rfl) #[.agg (sxC n m (.slice a1 us.length c1) (.slice a2 es.length c2)), .int .i64 e] rfl _ (fun w' hb => hU w' (below_on sb (Nat.le_refl _) hb)) ?_
 simp only [Act.put, pu]
 refine qw_loadm (by rfl) 33 _ rfl _ (0) rfl r3 ((sxC n m (.slice a1 us.length c1) (.slice a2 es.length c2))) (part_all _) _ Try.underlying33 rfl (by rw [sxC_size]; exact size_rf) ?_
 simp only [Act.put, pu]
 refine qw_move (by rfl) rfl rfl ?_
 simp only [Act.put, pu]
 refine qw_callK (by rfl) 17 _ _ rfl Try.func17 (by kernel_rfl) #[.agg (sxC n m (.slice a1 us.length c1) (.slice a2 es.length c2)), .int .i64 e] rfl _ (fun w' hb => rquo_any n m _ _ e w' hn hn7 hm hm4) ?_
 simp only [Act.put, pu]
 refine qw_value (by rfl) (.bool false) (exec_geq_i _ _ _ _ rfl (usd es e) (quo n m e) rfl rfl false (decide_eq_false (by omega))) ?_
 simp only [Act.put, pu]
 refine qw_nil ?_
 intro w9 hqb
 replace r3 := r3.belowAll hqb
 replace r6 := r6.belowAll hqb
 replace sb := below_on sb (Nat.le_refl _) hqb
 clear hqb
 (repeat ((fail_if_success with_reducible refine rg ?_); go_step))
 refine wp_region_pw ?_
 refine pw_value (by rfl) (.slice none 0 0) (fun _ => rfl) ?_
 simp only [Act.put, pu]
 refine pw_nil ?_
 (repeat ((fail_if_success with_reducible refine rg ?_); go_step))
 refine wp_region_pw ?_
 refine pw_value (by rfl) (.slice none 0 0) (fun _ => rfl) ?_
 simp only [Act.put, pu]
 refine pw_nil ?_
 (repeat ((fail_if_success with_reducible refine rg ?_); go_step))
 refine wp_region_pw ?_
 refine pw_mv (by rfl) rfl rfl ?_
 simp only [Act.put, pu]
 refine pw_value (by rfl) (.pointer (some ⟨g3, 2, none⟩)) (exec_field 33 _ 2 rfl g3 0 rfl _ Try.underlying33 _ rfl 0 Try.sizeOf30) ?_
 simp only [Act.put, pu]
 refine pw_loadk (by rfl) 30 _ rfl _ (2) rfl r3.r (.slice a1 us.length c1) rfl Try.isAgg30 ?_
 simp only [Act.put, pu]
 refine pw_appA (by rfl) _ _ (30) rfl 9 is _ 1 16 Try.underlying30 hsi hsz hss hsb rfl (by decide) (by decide) a1 us.length c1 (stC us) (stC_size us) rfl rfl (hE1.below sb) (fun i => by simp [stC, Value.oneCell']) (by omega) ?_
 intro v1 zA hA k
 simp only [Act.put, pu]
 have bA := sb.size
 have nA3 := hA.low r3.lt
 have nA6 := hA.low r6.lt
 replace r3 := k.row r3 (by simp <;> omega)
 replace r6 := k.row r6 (by simp <;> omega)
 replace sb := sb.trans (k.below w.heap.size sb.size (by simp))
 clear k
 refine pw_as (by rfl) rfl rfl ?_
 simp only [Act.put, pu]
 refine pw_nil ?_
 replace hA := (ownE_congr hA hA1).weak bA
 have hAs : ∀ b, v1.ownBlock = some b → b < zA.heap.size := fun b hb => by
  rcases hA.2 with ⟨h9, _⟩ | ⟨g, _, _, h9, _, h8, _⟩
  ·rw [h9] at hb; cases hb
  ·rw [h9] at hb; obtain rfl := Option.some.inj hb; exact Row.lt h8
 (repeat ((fail_if_success with_reducible refine rg ?_); go_step))
 refine wp_region_pw ?_
 refine pw_mv (by rfl) rfl rfl ?_
 simp only [Act.put, pu]
 refine pw_value (by rfl) (.pointer (some ⟨g3, 3, none⟩)) (exec_field 33 _ 3 rfl g3 0 rfl _ Try.underlying33 _ rfl 0 Try.sizeOf31) ?_
 simp only [Act.put, pu]
 refine pw_loadk (by rfl) 31 _ rfl _ (3) rfl r3.r (.slice a2 es.length c2) rfl Try.isAgg31 ?_
 simp only [Act.put, pu]
 refine pw_appA (by rfl) _ _ (31) rfl 3 ii _ 1 8 Try.underlying31 hii hiz his hib rfl (by decide) (by decide) a2 es.length c2 (inC es) (inC_size es) rfl rfl (hE2.below sb) (fun i => by simp [inC, Value.oneCell']) (by omega) ?_
 intro v2 zB hB k
 simp only [Act.put, pu]
 have bB := sb.size
 have nB3 := hB.low r3.lt
 have nB6 := hB.low r6.lt
 replace hA := hA.on k (own_ne0 _)
 replace r3 := k.row r3 (by simp <;> omega)
 replace r6 := k.row r6 (by simp <;> omega)
 replace sb := sb.trans (k.below w.heap.size sb.size (by simp))
 clear k
 refine pw_as (by rfl) rfl rfl ?_
 simp only [Act.put, pu]
 refine pw_nil ?_
 replace hB := ownE_congr hB hB1
 have zBA : ∀ b, v2.ownBlock = some b → v1.ownBlock ≠ some b := fun b hb h9 => by
  have h7 := hAs b h9
  have h8 := hB.base b (by rw [hb]; simp)
  omega
 have zAB := own_sym zBA
 replace hB := hB.weak bB
 clear hAs hE1 hE2 hF hU hA1 hB1
 (repeat ((fail_if_success with_reducible refine rg ?_); go_step))
 refine wp_region_pw ?_
 refine pw_mv (by rfl) rfl rfl ?_
 simp only [Act.put, pu]
 refine pw_mv (by rfl) rfl rfl ?_
 simp only [Act.put, pu]
 refine pw_litr (by rfl) 30 9 1 _ rfl #[strV x] is _ Try.underlying30 hsi hsz q1 q2 [(0, .string ⟨x.toArray⟩)] rfl ql1 ?_
 intro gL z12002 n0 rL k
 simp only [Act.put, pu]
 have d3xL := Nat.lt_of_lt_of_le r3.lt n0
 have d6xL := Nat.lt_of_lt_of_le r6.lt n0
 have ehAxL := hA.new n0
 have ehBxL := hB.new n0
 have bL := Nat.le_trans sb.size n0
 clear n0
 replace r3 := k.row r3 (by simp <;> omega)
 replace r6 := k.row r6 (by simp <;> omega)
 replace hA := hA.on k (own_ne0 _)
 replace hB := hB.on k (own_ne0 _)
 replace sb := sb.trans (k.below w.heap.size sb.size (by simp <;> omega))
 clear k
 refine pw_appE (by rfl) _ _ (30) rfl (_) 9 is _ 1 16 Try.underlying30 hsi hsz hss hsb rfl (by decide) (by decide) (v1) (us.length) (stC us2) (stC_size us2) rfl hA gL _ rfl (by rw [hA2]; exact rL) (by rw [hA2]; simp [strV, Value.oneCell']) (by omega) (by have := sb.size; omega) ?_
 intro v3 zC hA3 k hp
 simp only [Act.put, pu]
 have zt := own_two hB hp zBA
 replace hB := hB.on k (own_nin2 zBA)
 have c6 := r6.lt
 have nC6 := own_apart hp c6 nA6
 replace r3 := k.row r3 (own_nin nA3)
 replace r6 := k.row r6 (own_nin nA6)
 have nk := hA.base
 replace sb := sb.trans (k.below w.heap.size sb.size (fun g hg => by have := nk g hg; omega))
 clear k hA nk
 refine pw_as (by rfl) rfl rfl ?_
 simp only [Act.put, pu]
 refine pw_nil ?_
 have zAB3 := own_sym zt
 (repeat ((fail_if_success with_reducible refine rg ?_); go_step))
 refine wp_region_pw ?_
 refine pw_mv (by rfl) rfl rfl ?_
 simp only [Act.put, pu]
 refine pw_mv (by rfl) rfl rfl ?_
 simp only [Act.put, pu]
 refine pw_litr (by rfl) 31 3 1 _ rfl #[.int .i64 e] ii _ Try.underlying31 hii hiz q3 q4 [(0, .int .i64 e)] rfl ql2 ?_
 intro gM z13002 n0 rM k
 simp only [Act.put, pu]
 have d3xM := Nat.lt_of_lt_of_le r3.lt n0
 have d6xM := Nat.lt_of_lt_of_le r6.lt n0
 have ehA3xM := hA3.new n0
 have ehBxM := hB.new n0
 have bM := Nat.le_trans sb.size n0
 clear n0
 replace r3 := k.row r3 (by simp <;> omega)
 replace r6 := k.row r6 (by simp <;> omega)
 replace hA3 := hA3.on k (own_ne0 _)
 replace hB := hB.on k (own_ne0 _)
 replace sb := sb.trans (k.below w.heap.size sb.size (by simp <;> omega))
 clear k
 refine pw_appE (by rfl) _ _ (31) rfl (_) 3 ii _ 1 8 Try.underlying31 hii hiz his hib rfl (by decide) (by decide) (v2) (es.length) (inC es2) (inC_size es2) rfl hB gM _ rfl (by rw [hB2]; exact rM) (by rw [hB2]; simp [Value.oneCell']) (by omega) (by have := sb.size; omega) ?_
 intro v4 zD hB3 k hp
 simp only [Act.put, pu]
 replace hA3 := hA3.on k (own_nin2 zAB3)
 have c6 := r6.lt
 have nD6 := own_apart hp c6 nB6
 replace r3 := k.row r3 (own_nin nB3)
 replace r6 := k.row r6 (own_nin nB6)
 have nk := hB.base
 replace sb := sb.trans (k.below w.heap.size sb.size (fun g hg => by have := nk g hg; omega))
 clear k hB nk
 refine pw_as (by rfl) rfl rfl ?_
 simp only [Act.put, pu]
 refine pw_nil ?_
 obtain ⟨a3, c3, rfl⟩ := own_shape hA3
 obtain ⟨a4, c4, rfl⟩ := own_shape hB3
 obtain ⟨gA, csA, hEA, hgA, n6A⟩ : ∃ gA csA, ElsAt 1 zD a3 (us.length + 1) (stC us2) gA 0 csA 9 ∧ w.heap.size ≤ gA ∧ gA ≠ g6 := by
  obtain ⟨a9, c9, gb, cur, h7, h8, h9⟩ := ownE_elsB (stC_size us2) hA3
  obtain ⟨rfl, _, rfl⟩ := Value.slice.inj h7
  exact ⟨gb, cur, h8, by omega, fun h5 => by
   rcases h8.at' with h0 | ⟨h0, _, _⟩
   ·omega
   ·exact nC6 (by rw [h0, h5]; rfl)⟩
 obtain ⟨gB, csB, hEB, hgB, n6B⟩ : ∃ gB csB, ElsAt 1 zD a4 (es.length + 1) (inC es2) gB 0 csB 3 ∧ w.heap.size ≤ gB ∧ gB ≠ g6 := by
  obtain ⟨a9, c9, gb, cur, h7, h8, h9⟩ := ownE_elsB (inC_size es2) hB3
  obtain ⟨rfl, _, rfl⟩ := Value.slice.inj h7
  exact ⟨gb, cur, h8, by omega, fun h5 => by
   rcases h8.at' with h0 | ⟨h0, _, _⟩
   ·omega
   ·exact nD6 (by rw [h0, h5]; rfl)⟩
 clear hA3 hB3 zAB3 zt zAB zBA
 have sd := sbmk zD
 (repeat ((fail_if_success with_reducible refine rg ?_); go_step))
 refine wp_region_pw ?_
 refine pw_value (by rfl) (.pointer (some ⟨g3, 0, none⟩)) (exec_field 33 _ 0 rfl g3 0 rfl _ Try.underlying33 _ rfl 0 Try.sizeOf3) ?_
 simp only [Act.put, pu]
 refine pw_loadk (by rfl) 3 _ rfl _ (0) rfl r3.r (.int .i64 n) rfl Try.isAgg3 ?_
 simp only [Act.put, pu]
 refine pw_value (by rfl) (.pointer (some ⟨g3, 1, none⟩)) (exec_field 33 _ 1 rfl g3 0 rfl _ Try.underlying33 _ rfl 0 Try.sizeOf3) ?_
 simp only [Act.put, pu]
 refine pw_loadk (by rfl) 3 _ rfl _ (1) rfl r3.r (.int .i64 m) rfl Try.isAgg3 ?_
 simp only [Act.put, pu]
 refine pw_mv (by rfl) rfl rfl ?_
 simp only [Act.put, pu]
 refine pw_mv (by rfl) rfl rfl ?_
 simp only [Act.put, pu]
 refine pw_value (by rfl) (.agg (sxC n m (.slice a3 (us.length + 1) c3) (.slice a4 (es.length + 1) c4))) (exec_buildv _ [(0, _), (1, _), (2, _), (3, _)] rfl [(0, .int .i64 n), (1, .int .i64 m), (2, .slice a3 (us.length + 1) c3), (3, .slice a4 (es.length + 1) c4)] rfl _ (built_rf n m a3 a4 (us.length + 1) c3 (es.length + 1) c4)) ?_
 simp only [Act.put, pu]
 refine pw_new (by rfl) 33 rfl _ zero_rf ?_
 intro g14 z14007 n0 r14 k
 simp only [Act.put, pu]
 have d3x14 := Nat.lt_of_lt_of_le r3.lt n0
 have d6x14 := Nat.lt_of_lt_of_le r6.lt n0
 have b14 := Nat.le_trans sd.size n0
 clear n0
 replace r3 := k.row r3 (by simp <;> omega)
 replace r6 := k.row r6 (by simp <;> omega)
 replace sd := sd.trans (k.below zD.heap.size sd.size (by simp <;> omega))
 clear k
 refine pw_put (by rfl) 33 _ _ rfl _ rfl r14 (sxC n m (.slice a3 (us.length + 1) c3) (.slice a4 (es.length + 1) c4)) rfl (by rw [sxC_size]; exact size_rf) (by simp only [sxC_size]) (sx_one _ _ _ _ (by rfl) (by rfl)) ?_
 clear r14
 intro z14008 r14 k
 simp only [Act.put]
 replace r3 := k.row r3 (by simp <;> omega)
 replace r6 := k.row r6 (by simp <;> omega)
 replace sd := sd.trans (k.below zD.heap.size sd.size (by simp <;> omega))
 clear k
 refine pw_nil ?_
 replace hEA := hEA.below sd
 replace hEB := hEB.below sd
 replace sb := below_on sb (Nat.le_refl _) sd
 clear sd
 have hF9 := rfnd_any n m (.slice a4 (es.length + 1) c4) a3 c3 us2 gA 0 csA 9 x _ (by omega) (by rw [hl2]; exact hEA)
 rw [hF2.1, hF2.2, hl2] at hF9
 (repeat ((fail_if_success with_reducible refine rg ?_); go_step))
 refine wp_region_pw ?_
 refine pw_loadm (by rfl) 33 _ rfl _ 0 rfl r14.r _ (part_all _) _ Try.underlying33 rfl (by rw [sxC_size]; exact size_rf) ?_
 simp only [Act.put, pu]
 refine pw_mv (by rfl) rfl rfl ?_
 simp only [Act.put, pu]
 refine pw_callB (by rfl) 13 _ _ rfl Try.func13 (by kernel_rfl) #[.agg (sxC n m (.slice a3 (us.length + 1) c3) (.slice a4 (es.length + 1) c4)), .string ⟨x.toArray⟩] rfl _ (hF9) ?_
 intro z15002 k
 simp only [Act.put, pu]
 replace r6 := k.row r6 (by simp <;> omega)
 replace r14 := k.row r14 (by simp <;> omega)
 replace hEA := hEA.on k (by simp <;> omega)
 replace hEB := hEB.on k (by simp <;> omega)
 replace sb := sb.trans (k.below w.heap.size sb.size (by simp <;> omega))
 clear k
 refine pw_mv (by rfl) rfl rfl ?_
 simp only [Act.put, pu]
 refine pw_ext (by rfl) rfl rfl rfl ?_
 simp only [Act.put, pu]
 refine pw_ext (by rfl) rfl rfl rfl ?_
 simp only [Act.put, pu]
 refine pw_as (by rfl) rfl rfl ?_
 simp only [Act.put, pu]
 refine pw_as (by rfl) rfl rfl ?_
 simp only [Act.put, pu]
 refine pw_nil ?_
 (repeat ((fail_if_success with_reducible refine rg ?_); go_step))
 refine wp_region_pw ?_
 refine pw_loadm (by rfl) 33 _ rfl _ 0 rfl r14.r _ (part_all _) _ Try.underlying33 rfl (by rw [sxC_size]; exact size_rf) ?_
 simp only [Act.put, pu]
 refine pw_mv (by rfl) rfl rfl ?_
 simp only [Act.put, pu]
 refine pw_put (by rfl) 33 _ _ rfl _ rfl r6 (sxC n m (.slice a3 (us.length + 1) c3) (.slice a4 (es.length + 1) c4)) rfl (by rw [sxC_size]; exact size_rf) (by simp only [sxC_size]) (sx_one _ _ _ _ (by rfl) (by rfl)) ?_
 clear r6
 intro z16002 r6 k
 simp only [Act.put]
 replace r14 := k.row r14 (by simp <;> omega)
 replace hEA := hEA.on k (by simp <;> omega)
 replace hEB := hEB.on k (by simp <;> omega)
 replace sb := sb.trans (k.below w.heap.size sb.size (by simp <;> omega))
 clear k
 refine pw_as (by rfl) rfl rfl ?_
 simp only [Act.put, pu]
 refine pw_value (by rfl) (.bool true) (fun _ => rfl) ?_
 simp only [Act.put, pu]
 refine pw_value (by rfl) (.int .i64 0) (fun _ => rfl) ?_
 simp only [Act.put, pu]
 refine pw_nil ?_
 go_wp2
 exact ret_rowF rfl _ rfl r6 _ Try.underlying33 size_rf rfl _ _ _ rfl rfl rfl ⟨c3, c4, a3, a4, rfl, ⟨gA, 0, csA, _, gB, 0, csB, _, by rw [hl2]; exact hEA, by rw [hl3]; exact hEB, .inr fun h9 => by have := hS _ h9; omega, .inr fun h9 => by have := hS _ h9; omega⟩, sb⟩
end Go.Proofs.Ytchiiphmpkmloaa
