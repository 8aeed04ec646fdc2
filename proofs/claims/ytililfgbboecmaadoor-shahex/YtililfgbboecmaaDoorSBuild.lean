/- A strings.Builder that is in use: its copyCheck, its WriteByte. -/
import Derived.Test.YtililfgbboecmaaDoorSApp
import Derived.Test.YtililfgbboecmaaDoorSRSum
import Derived.Lib.Builder
namespace Go.Proofs.YtililfgbboecmaaDoor
open Go.RowKit
set_option linter.unusedVariables false

theorem info_bu : ∃ j, Tryd.prog.info? 50 = some j := by
  cases hq : Tryd.prog.info? 50 with
  | none =>
    have h : (Tryd.prog.info? 50).isSome = true := by kernel_rfl
    rw [hq] at h; cases h
  | some j => exact ⟨j, rfl⟩
theorem x_nePtr {o : Oper} {ρ : Operand → Value} (x y : Operand) (u : TypeId) (ho : o.op = .binOp .neq 48 x y u) (q : Addr) (hx : ρ x = .pointer (some q)) (hy : ρ y = .pointer (some q)) (w : World) :
    (execOp ρ o).run Tryd.prog w = .ok (.value (.bool false)) w := by
  obtain ⟨j, hj⟩ := info_bu
  have h := Lib.run_neq_ptr_same (P := Tryd.prog) w (tp := 48) q Tryd.underlying48 hj
  unfold execOp
  simp only [ho, hx, hy]
  simp [eqGuard, h]
theorem builder_below {B g0 : Nat} {p : Value} {bs : List Value} {w w' : World} (h : Lib.BuilderAt 50 5 B g0 p bs w) (hb : Below w.heap.size w w') : Lib.BuilderAt 50 5 B g0 p bs w' := by
  obtain ⟨hB, v, hbk, hown, hne⟩ := h
  refine ⟨hB, v, (hb.block g0 (Array.getElem?_eq_some_iff.1 hbk).1).trans hbk, ?_, hne⟩
  exact hown.kept (row := none) ⟨hb.os, hb.tape, hb.output, hb.size, fun k hk _ => hb.block k hk⟩ (by cases v.ownBlock <;> simp)
set_option maxRecDepth 100000 in
set_option maxHeartbeats 2000000 in
theorem check_any (g0 : Nat) (v : Value) (w : World) (r0 : Row w g0 #[.pointer (some ⟨g0, 0, none⟩), v] 50) :
    Calls Tryd.prog 33 #[.pointer (some ⟨g0, 0, none⟩)] w fun e w' => e = .returned (.tuple #[]) ∧ Below w.heap.size w w' := by
  have sb := Below.refl w.heap.size w
  go_enter Tryd.func33, Tryd.ntmps33
  (repeat ((fail_if_success (with_reducible show Code.wp _ (Code.region _ _ _) _ _ _)); go_step))
  refine wp_region_qp ?_
  refine qw_move (by rfl) rfl rfl ?_
  simp only [Act.put, pb, pc, pd]
  refine qw_value (by rfl) (.pointer (some ⟨g0, 0, none⟩)) (exec_nil _ rfl g0 0 rfl) ?_
  simp only [Act.put, pb, pc, pd]
  refine qw_value (by rfl) (.pointer (some ⟨g0, 0, none⟩)) (exec_field 50 _ 0 rfl g0 0 rfl _ Tryd.underlying50 _ rfl 0 Tryd.sizeOf48) ?_
  simp only [Act.put, pb, pc, pd]
  refine qw_loadc (by rfl) 48 _ rfl _ (0) rfl r0 (.pointer (some ⟨g0, 0, none⟩)) rfl Tryd.isAgg48 ?_
  simp only [Act.put, pb, pc, pd]
  refine qw_value (by rfl) (.bool false) (x_nilp _ _ _ _ rfl (some ⟨g0, 0, none⟩) rfl rfl _ Tryd.underlying48) ?_
  simp only [Act.put, pb, pc, pd]
  refine qw_nil ?_
  intro w2 hqb
  replace r0 := r0.belowAll hqb
  replace sb := below_on sb (Nat.le_refl _) hqb
  clear hqb
  (repeat ((fail_if_success (with_reducible show Code.wp _ (Code.region _ _ _) _ _ _)); go_step))
  refine wp_region_qp ?_
  refine qw_move (by rfl) rfl rfl ?_
  simp only [Act.put, pb, pc, pd]
  refine qw_value (by rfl) (.pointer (some ⟨g0, 0, none⟩)) (exec_nil _ rfl g0 0 rfl) ?_
  simp only [Act.put, pb, pc, pd]
  refine qw_value (by rfl) (.pointer (some ⟨g0, 0, none⟩)) (exec_field 50 _ 0 rfl g0 0 rfl _ Tryd.underlying50 _ rfl 0 Tryd.sizeOf48) ?_
  simp only [Act.put, pb, pc, pd]
  refine qw_loadc (by rfl) 48 _ rfl _ (0) rfl r0 (.pointer (some ⟨g0, 0, none⟩)) rfl Tryd.isAgg48 ?_
  simp only [Act.put, pb, pc, pd]
  refine qw_move (by rfl) rfl rfl ?_
  simp only [Act.put, pb, pc, pd]
  refine qw_value (by rfl) (.bool false) (x_nePtr _ _ _ rfl ⟨g0, 0, none⟩ rfl rfl) ?_
  simp only [Act.put, pb, pc, pd]
  refine qw_nil ?_
  intro w3 hqb
  replace r0 := r0.belowAll hqb
  replace sb := below_on sb (Nat.le_refl _) hqb
  clear hqb
  go_wp2
  go_end0
  exact ⟨rfl, sb⟩
section
variable {ops : Array Oper} {Q : Exit → Act → World → Prop} {rest : List Oper} {o : Oper} {a : Act} {w : World}
/-- append of one byte, onto a row that the call owns. -/
theorem pw_appO (hw : Region.wanted o (yielded ops a.tmps) = true) (s x : Operand) (ho : o.op = .call { callee := .builtin .append, args := #[s, x], argTypes := #[32, 32] }) (base : Nat) (v : Value) (n : Nat) (xs : List Value) (hs : a.eval s = v) (hown : w.ownsRow base 5 1 v n xs)
    (ad : Addr) (m c : Nat) (news : List Value) (hx : a.eval x = .slice (some ad) m c) (hl : news.length = m) (hnews : ∀ j u, news[j]? = some u → w.cell? (ad.add j) = some u) (h1 : ∀ u ∈ news, u.oneCell' = true) (hlen : n + m ≤ 140737488355328) (hbase : base ≤ w.heap.size)
    (h : ∀ v' w', w'.ownsRow base 5 1 v' (n + m) (xs ++ news) → w.grownBy w' v.ownBlock → PW Tryd.prog ops Q rest (a.put o.dst v') w') : PW Tryd.prog ops Q (o :: rest) a w := by
  obtain ⟨i, hi, hz, hs1, hb1⟩ := info_b8
  obtain ⟨v', w', hr, h2, h3, _⟩ := run_append_own (P := Tryd.prog) w base 32 o.type 5 i (.int .u8 0) 1 1 Tryd.underlying32 hi hz hs1 hb1 rfl (by decide) v n xs hown ad m c news (by rw [hl, Nat.mul_one]) hnews h1 (by unfold maxLen; omega) (by rw [Nat.mul_one]; exact hlen) hbase
  refine pw_run hw v' w' ?_ (h v' w' h2 h3)
  unfold execOp
  simp only [ho, resolve, invoke, builtin, Sem.run_bind, Sem.run_pure, Result.andThen_ok, List.map_toArray, List.map_cons, List.map_nil, hs, hx, hr]
theorem pw_storev (hw : Region.wanted o (yielded ops a.tmps) = true) (ty : TypeId) (x y : Operand) (ho : o.op = .store ty x y) (g i : Nat) (hx : a.eval x = .pointer (some ⟨g, i, none⟩)) {cs : Array Value} {t : TypeId} (hg : Row w g cs t) (hi : i < cs.size) (v : Value) (hy : a.eval y = v)
    (hv : v.cells = #[v]) (h1 : v.oneCell' = true) (hz : (Tryd.prog.info? ty).map (·.size) = some 1) (h : PW Tryd.prog ops Q rest (a.put o.dst undef) (w.setCell ⟨g, i, none⟩ v)) : PW Tryd.prog ops Q (o :: rest) a w := by
  have hc : w.cell? ⟨g, i, none⟩ = some cs[i] := (hg.cell i).trans (by simp [hi])
  refine ⟨?_⟩
  unfold wpList
  rw [if_pos hw]
  left
  unfold Oper.wp execOp
  simp only [ho, hx, hy, Instr.storeAt, Instr.sureAddr, Sem.run_bind, Sem.run_pure, Result.andThen_ok, run_store_val w g i ty v _ hv h1 hz hc (hg.frozen i)]
  exact h.out
end
theorem size_sl : (Tryd.prog.info? 32).map (·.size) = some 1 := by kernel_rfl
set_option maxRecDepth 100000 in
set_option maxHeartbeats 2000000 in
theorem wbyte_any (B g0 c : Nat) (bs : List Value) (w : World) (h : Lib.BuilderAt 50 5 B g0 (.pointer (some ⟨g0, 0, none⟩)) bs w) (hlen : bs.length + 1 ≤ 140737488355328) (hBw : B ≤ w.heap.size) :
    Calls Tryd.prog 23 #[.pointer (some ⟨g0, 0, none⟩), .int .u8 (c : Nat)] w fun e w' => e = .returned .nilIface ∧ Lib.BuilderAt 50 5 B g0 (.pointer (some ⟨g0, 0, none⟩)) (bs ++ [.int .u8 (c : Nat)]) w' ∧ Below B w w' := by
  go_enter Tryd.func23, Tryd.ntmps23
  (repeat ((fail_if_success (with_reducible show Code.wp _ (Code.region _ _ _) _ _ _)); go_step))
  apply wp_region_mixp [] [_] trivial List.nodup_nil
  · intro p
    refine mx_val (.nilIface) (fun _ => rfl) ?_
    simp only [Act.put, pb, pc, pd]
    refine mx_end ?_
    intro w2 hkw hrw hnew hdis
    have sb := hkw.below w.heap.size (Nat.le_refl _) (by simp)
    clear hkw hrw hnew hdis
    replace h := builder_below h sb
    obtain ⟨hB, v, hbk, hown, hne⟩ := h
    have r0 : Row w2 g0 #[.pointer (some ⟨g0, 0, none⟩), v] 50 := hbk
    clear hbk
    (repeat ((fail_if_success (with_reducible show Code.wp _ (Code.region _ _ _) _ _ _)); go_step))
    apply wp_region_mixp [] [_, _] trivial List.nodup_nil
    · intro p
      refine mx_move rfl rfl ?_
      simp only [Act.put, pb, pc, pd]
      refine mx_callK 33 _ _ rfl Tryd.func33 (by kernel_rfl) #[.pointer (some ⟨g0, 0, none⟩)] rfl _ (fun w' hk => check_any g0 v w' (hk.row r0 (by simp))) ?_
      simp only [Act.put, pb, pc, pd]
      refine mx_end ?_
      intro w3 hkw hrw hnew hdis
      replace r0 := hkw.row r0 (by simp)
      replace hown := hown.kept (w' := w3) (row := none) ⟨hkw.os, hkw.tape, hkw.output, hkw.size, fun k hk _ => hkw.block k hk (by simp)⟩ (by cases v.ownBlock <;> simp)
      replace sb := (sb.mono hBw).trans (hkw.below B (Nat.le_trans hBw sb.size) (by simp))
      clear hkw hrw hnew hdis
      (repeat ((fail_if_success (with_reducible show Code.wp _ (Code.region _ _ _) _ _ _)); go_step))
      refine wp_region_pw ?_
      refine pw_move (by rfl) (.inl rfl) rfl ?_
      simp only [Act.put, pb, pc, pd]
      refine pw_move (by rfl) (.inl rfl) rfl ?_
      simp only [Act.put, pb, pc, pd]
      refine pw_value (by rfl) (.pointer (some ⟨g0, 0, none⟩)) (exec_nil _ rfl g0 0 rfl) ?_
      simp only [Act.put, pb, pc, pd]
      refine pw_value (by rfl) (.pointer (some ⟨g0, 1, none⟩)) (exec_field 50 _ 1 rfl g0 0 rfl _ Tryd.underlying50 _ rfl 0 Tryd.sizeOf32) ?_
      simp only [Act.put, pb, pc, pd]
      refine pw_loadc (by rfl) 32 _ rfl g0 1 rfl r0.r v rfl Tryd.isAgg32 ?_
      simp only [Act.put, pb, pc, pd]
      refine pw_move (by rfl) (.inl rfl) rfl ?_
      simp only [Act.put, pb, pc, pd]
      refine pw_lit1 (by rfl) _ rfl c rfl ?_
      have sz := sb.size
      have hnw : ∀ (j : Nat) (u : Value), [Value.int .u8 (c : Nat)][j]? = some u → (w3.alloc (.cells #[.int .u8 (c : Nat)] 5)).cell? ((⟨w3.heap.size, 0, none⟩ : Addr).add j) = some u := fun j u hu => by rw [Addr.add_mid, Nat.zero_add, (Row.new w3 _ _).cell]; simpa using hu
      have lt0 := r0.lt
      replace r0 := r0.alloc (.cells #[.int .u8 (c : Nat)] 5)
      replace hown := hown.alloc (.cells #[.int .u8 (c : Nat)] 5)
      replace sb := sb.alloc (Nat.le_trans (Nat.le_of_lt_succ (Nat.lt_succ_of_le hBw)) sz) (.cells #[.int .u8 (c : Nat)] 5)
      simp only [Act.put, pb, pc, pd]
      refine pw_appO (by rfl) _ _ rfl B v bs.length bs rfl hown ⟨w3.heap.size, 0, none⟩ 1 1 [.int .u8 (c : Nat)] rfl rfl hnw (fun u hu => by rw [List.mem_singleton.1 hu]; rfl) hlen (by rw [alloc_size]; omega) ?_
      intro v9 w4 own9 gr
      replace r0 := r0.grown gr hne
      have sz4 := gr.size
      have sb4 := sb.grown gr (by rw [alloc_size]; omega) (fun k hk => (hown.lt k hk).1)
      simp only [Act.put, pb, pc, pd]
      refine pw_value (by rfl) (.pointer (some ⟨g0, 0, none⟩)) (exec_nil _ rfl g0 0 rfl) ?_
      simp only [Act.put, pb, pc, pd]
      refine pw_value (by rfl) (.pointer (some ⟨g0, 1, none⟩)) (exec_field 50 _ 1 rfl g0 0 rfl _ Tryd.underlying50 _ rfl 0 Tryd.sizeOf32) ?_
      simp only [Act.put, pb, pc, pd]
      refine pw_storev (by rfl) 32 _ _ rfl g0 1 rfl r0 (show 1 < 2 by omega) v9 rfl (by rcases own9.2 with ⟨rfl, _⟩ | ⟨g, cap, cur, rfl, _⟩ <;> rfl) (by rcases own9.2 with ⟨rfl, _⟩ | ⟨g, cap, cur, rfl, _⟩ <;> rfl) size_sl ?_
      simp only [Act.put]
      refine pw_nil ?_
      go_wp2
      go_ret
      exact ⟨rfl, Lib.BuilderAt.put hB r0 (by rw [List.length_append]; exact own9) (by decide), sb4.setCell (p := ⟨g0, 1, none⟩) hB _⟩
    · rfl
  · rfl
end Go.Proofs.YtililfgbboecmaaDoor
