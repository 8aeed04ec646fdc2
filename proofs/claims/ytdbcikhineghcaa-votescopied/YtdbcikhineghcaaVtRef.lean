/- The document's votes: same, Put, Count, At. -/
import Derived.Test.YtdbcikhineghcaaVtCnt
namespace Go.Proofs.Ytdbcikhineghcaa
open Go.RowKit
set_option linter.unusedVariables false
set_option linter.unusedSectionVars false
set_option linter.unusedSimpArgs false
/-- A list of votes, as elements. -/
def lsC (L : List Rv) (i : Nat) : Array Value := rvA (L.getD i rv0)
theorem lsC_size (L : List Rv) (i : Nat) : (lsC L i).size = 4 := rfl
theorem lsC_app (L M : List Rv) {i : Nat} (h : i < L.length) : lsC (L ++ M) i = lsC L i := by
 unfold lsC
 rw [List.getD_eq_getElem?_getD, List.getD_eq_getElem?_getD, List.getElem?_append_left h]
theorem lsC_end (L : List Rv) (x : Rv) : lsC (L ++ [x]) L.length = rvA x := by
 unfold lsC
 rw [List.getD_eq_getElem?_getD, List.getElem?_append_right (Nat.le_refl _), Nat.sub_self]
 rfl
theorem lsC_one (L : List Rv) (i : Nat) : (lsC L i).all (·.oneCell') = true := rv_one _
theorem ls_at {L : List Rv} {i : Nat} (h : i < L.length) : ∃ x, L.getD i rv0 = x ∧ lsC L i = rvA x ∧ L.drop i = x :: L.drop (i + 1) := by
 refine ⟨_, rfl, rfl, ?_⟩
 rw [List.getD_eq_getElem?_getD, List.getElem?_eq_getElem h, Option.getD_some]
 exact List.drop_eq_getElem_cons h
theorem ownE_congr {k : Nat} {e : TypeId} {w : World} {bs n : Nat} {v : Value} {C D : Nat → Array Value} (h : OwnE k e w bs v n C) (hd : ∀ i, i < n → C i = D i) : OwnE k e w bs v n D := by
 unfold OwnE at *
 rw [← esC_congr hd]
 exact h
theorem ownE_elsB {k : Nat} {e : TypeId} {w : World} {bs n : Nat} {v : Value} {C : Nat → Array Value} (hC : ∀ i, (C i).size = k) (h : OwnE k e w bs v n C) : ∃ ab c gb cur, v = .slice ab n c ∧ ElsAt k w ab n C gb 0 cur e ∧ (n = 0 ∨ bs ≤ gb) := by
 have hb := h.base
 obtain ⟨ab, c, gb, cur, rfl, _, he⟩ := ownE_els hC h
 refine ⟨ab, c, gb, cur, rfl, he, ?_⟩
 rcases he.at' with h0 | ⟨rfl, _, _⟩
 ·exact .inl h0
 ·exact .inr (hb gb (by simp [Value.ownBlock]))
theorem rv_part {bcs : Array Value} {o : Nat} {x : Rv} {C : Array Value} (hC : C = rvA x) (h : ∀ j v, C.toList[j]? = some v → bcs[o + j]? = some v) : bcs[o]? = some (.int .i64 x.1) ∧ bcs[o + 1]? = some (.int .i64 x.2.1) ∧ bcs[o + 2]? = some (.int .i64 x.2.2.1) ∧ bcs[o + 3]? = some (.string ⟨x.2.2.2.toArray⟩) ∧ (∀ j v, (tsC x.2.1 x.2.2.1).toList[j]? = some v → bcs[o + 1 + j]? = some v) := by
 subst hC
 refine ⟨h 0 _ rfl, h 1 _ rfl, h 2 _ rfl, h 3 _ rfl, fun j v hv => ?_⟩
 match j, hv with
 | 0, e => exact h 1 v e
 | 1, e => exact h 2 v e
section
variable {P : Program} {olds : Olds} {p : Nat → Nat} {W : World} {F : Act → Ct → Prop} {n : Nat} {l : List Oper} {pl : List Sp} {a : Act} {ct : Ct} {o : Oper}
theorem mx_loadcR (ty : TypeId) (x : Operand) (ho : o.op = .load ty x) (g i : Nat) (hx : a.eval x = .pointer (some ⟨g, i, none⟩)) {t : TypeId} {cs : Array Value} (hg : RowR W g cs t) (hS : g ∉ olds.map (·.1)) (v : Value) (hc : cs[i]? = some v)
  (ha : ∀ w, (isAgg ty).run P w = .ok false w)
  (h : MX P olds p W F (n + 1) l pl (a.put o.dst v) ct) : MX P olds p W F n (o :: l) ((fun _ => v, [], none, []) :: pl) a ct := by
 refine mx_value v [] (fun w hk _ => ?_) h
 unfold execOp
 simp only [ho, hx, Instr.loadAt, Instr.sureAddr, Sem.run_bind, Sem.run_pure, Result.andThen_ok, run_load_cell w g i ty v ha ((hk.rowR hg hS).cell i |>.trans hc)]
end
theorem sl_rv : Try.prog.underlying 22 = some (.slice (Try.prog.elem 22)) := by kernel_rfl
theorem info_rvx : (Try.prog.info? 34).map (fun i => (i.zero, i.size, i.bytes)) = some (some (.agg (rvA rv0)), 4, 40) := by kernel_rfl
theorem info_rv' : ∃ i, Try.prog.info? 34 = some i ∧ i.zero = some (.agg (rvA rv0)) ∧ i.size = 4 ∧ i.bytes = 40 := by
 cases hi : Try.prog.info? 34 with
 | none => have := info_rvx; rw [hi] at this; cases this
 | some i =>
  have h := info_rvx
  rw [hi] at h
  simp only [Option.map_some, Option.some.injEq, Prod.mk.injEq] at h
  exact ⟨i, rfl, h.1, h.2.1, h.2.2⟩
theorem lit_rv (x : Rv) (k : Nat) (hk : k = 4) : Instr.fill (fun i => some (i * k, k)) ((Array.range (1 * k)).map ((Value.agg (rvA rv0)).cells[· % (Value.agg (rvA rv0)).cells.size]!)) [(0, .agg (rvA x))] = some (rvA x) := by
 subst hk
 kernel_rfl
set_option maxRecDepth 100000 in
set_option maxHeartbeats 2000000 in
theorem rsm_any (a b : Rv) (w : World) :
  Calls Try.prog 18 #[.agg (rvA a), .agg (rvA b)] w fun e w' => e = .returned (.bool (rsm a b)) ∧ Below w.heap.size w w' := by
 by_cases h0 : a.1 = b.1
 rotate_left
 ·rw [show rsm a b = false from decide_eq_false fun h => h0 h.1]
  go_enter Try.func18, Try.ntmps18
  have sb := sbmk w
  (repeat ((fail_if_success with_reducible refine rg ?_); go_step))
  refine wp_region_pw ?_
  refine pw_boxr (by rfl) 34 _ rfl (rvA a) rfl ?_
  intro g2 z0 n0 r2 k
  simp only [Act.put, pu]
  have b2 := Nat.le_trans sb.size n0
  clear n0
  replace sb := sb.trans (k.below w.heap.size sb.size (by simp <;> omega))
  clear k
  refine pw_boxr (by rfl) 34 _ rfl (rvA b) rfl ?_
  intro g3 z1 n0 r3 k
  simp only [Act.put, pu]
  have d2x3 := Nat.lt_of_lt_of_le r2.lt n0
  have b3 := Nat.le_trans sb.size n0
  clear n0
  replace r2 := k.row r2 (by simp <;> omega)
  replace sb := sb.trans (k.below w.heap.size sb.size (by simp <;> omega))
  clear k
  refine pw_value (by rfl) (.bool false) (fun _ => rfl) ?_
  simp only [Act.put, pu]
  refine pw_nil ?_
  (repeat ((fail_if_success with_reducible refine rg ?_); go_step))
  refine wp_region_pw ?_
  refine pw_value (by rfl) (.pointer (some ⟨g2, 0, none⟩)) (exec_field 34 _ 0 rfl g2 (0) rfl _ Try.underlying34 _ rfl 0 Try.sizeOf3) ?_
  simp only [Act.put, pu]
  refine pw_loadk (by rfl) 3 _ rfl _ (0) rfl r2.r (.int .i64 a.1) rfl Try.isAgg3 ?_
  simp only [Act.put, pu]
  refine pw_value (by rfl) (.pointer (some ⟨g3, 0, none⟩)) (exec_field 34 _ 0 rfl g3 (0) rfl _ Try.underlying34 _ rfl 0 Try.sizeOf3) ?_
  simp only [Act.put, pu]
  refine pw_loadk (by rfl) 3 _ rfl _ (0) rfl r3.r (.int .i64 b.1) rfl Try.isAgg3 ?_
  simp only [Act.put, pu]
  refine pw_value (by rfl) (.bool false) (exec_eql_k .i64 _ _ _ _ rfl (a.1) (b.1) rfl rfl false (decide_eq_false (h0))) ?_
  simp only [Act.put, pu]
  refine pw_mv (by rfl) rfl rfl ?_
  simp only [Act.put, pu]
  refine pw_skip (by rfl) ?_
  simp only [Act.put, pu]
  refine pw_skip (by rfl) ?_
  simp only [Act.put, pu]
  refine pw_skip (by rfl) ?_
  simp only [Act.put, pu]
  refine pw_skip (by rfl) ?_
  simp only [Act.put, pu]
  refine pw_skip (by rfl) ?_
  simp only [Act.put, pu]
  refine pw_skip (by rfl) ?_
  simp only [Act.put, pu]
  refine pw_skip (by rfl) ?_
  simp only [Act.put, pu]
  refine pw_pick (by rfl) false (v := .bool false) rfl rfl rfl ?_
  simp only [Act.put, pu]
  refine pw_mv (by rfl) rfl rfl ?_
  simp only [Act.put, pu]
  refine pw_skip (by rfl) ?_
  simp only [Act.put, pu]
  refine pw_skip (by rfl) ?_
  simp only [Act.put, pu]
  refine pw_skip (by rfl) ?_
  simp only [Act.put, pu]
  refine pw_skip (by rfl) ?_
  simp only [Act.put, pu]
  refine pw_skip (by rfl) ?_
  simp only [Act.put, pu]
  refine pw_skip (by rfl) ?_
  simp only [Act.put, pu]
  refine pw_skip (by rfl) ?_
  simp only [Act.put, pu]
  refine pw_skip (by rfl) ?_
  simp only [Act.put, pu]
  refine pw_skip (by rfl) ?_
  simp only [Act.put, pu]
  refine pw_pick (by rfl) false (v := .bool false) rfl rfl rfl ?_
  simp only [Act.put, pu]
  refine pw_as (by rfl) rfl rfl ?_
  simp only [Act.put, pu]
  refine pw_nil ?_
  go_wp2
  go_ret
  exact ⟨rfl, sb⟩
 by_cases h1 : a.2.2.1 = b.2.2.1
 rotate_left
 ·rw [show rsm a b = false from decide_eq_false fun h => h1 h.2.1]
  go_enter Try.func18, Try.ntmps18
  have sb := sbmk w
  (repeat ((fail_if_success with_reducible refine rg ?_); go_step))
  refine wp_region_pw ?_
  refine pw_boxr (by rfl) 34 _ rfl (rvA a) rfl ?_
  intro g2 z0 n0 r2 k
  simp only [Act.put, pu]
  have b2 := Nat.le_trans sb.size n0
  clear n0
  replace sb := sb.trans (k.below w.heap.size sb.size (by simp <;> omega))
  clear k
  refine pw_boxr (by rfl) 34 _ rfl (rvA b) rfl ?_
  intro g3 z1 n0 r3 k
  simp only [Act.put, pu]
  have d2x3 := Nat.lt_of_lt_of_le r2.lt n0
  have b3 := Nat.le_trans sb.size n0
  clear n0
  replace r2 := k.row r2 (by simp <;> omega)
  replace sb := sb.trans (k.below w.heap.size sb.size (by simp <;> omega))
  clear k
  refine pw_value (by rfl) (.bool false) (fun _ => rfl) ?_
  simp only [Act.put, pu]
  refine pw_nil ?_
  (repeat ((fail_if_success with_reducible refine rg ?_); go_step))
  refine wp_region_pw ?_
  refine pw_value (by rfl) (.pointer (some ⟨g2, 0, none⟩)) (exec_field 34 _ 0 rfl g2 (0) rfl _ Try.underlying34 _ rfl 0 Try.sizeOf3) ?_
  simp only [Act.put, pu]
  refine pw_loadk (by rfl) 3 _ rfl _ (0) rfl r2.r (.int .i64 a.1) rfl Try.isAgg3 ?_
  simp only [Act.put, pu]
  refine pw_value (by rfl) (.pointer (some ⟨g3, 0, none⟩)) (exec_field 34 _ 0 rfl g3 (0) rfl _ Try.underlying34 _ rfl 0 Try.sizeOf3) ?_
  simp only [Act.put, pu]
  refine pw_loadk (by rfl) 3 _ rfl _ (0) rfl r3.r (.int .i64 b.1) rfl Try.isAgg3 ?_
  simp only [Act.put, pu]
  refine pw_value (by rfl) (.bool true) (exec_eql_k .i64 _ _ _ _ rfl (a.1) (b.1) rfl rfl true (decide_eq_true (h0))) ?_
  simp only [Act.put, pu]
  refine pw_mv (by rfl) rfl rfl ?_
  simp only [Act.put, pu]
  refine pw_value (by rfl) (.pointer (some ⟨g2, 1, none⟩)) (exec_field 34 _ 1 rfl g2 (0) rfl _ Try.underlying34 _ rfl 1 Try.sizeOf32) ?_
  simp only [Act.put, pu]
  refine pw_value (by rfl) (.pointer (some ⟨g2, 1 + 1, none⟩)) (exec_field 32 _ 1 rfl g2 (1) rfl _ Try.underlying32 _ rfl 0 Try.sizeOf3) ?_
  simp only [Act.put, pu]
  refine pw_loadk (by rfl) 3 _ rfl _ (2) rfl r2.r (.int .i64 a.2.2.1) rfl Try.isAgg3 ?_
  simp only [Act.put, pu]
  refine pw_value (by rfl) (.pointer (some ⟨g3, 1, none⟩)) (exec_field 34 _ 1 rfl g3 (0) rfl _ Try.underlying34 _ rfl 1 Try.sizeOf32) ?_
  simp only [Act.put, pu]
  refine pw_value (by rfl) (.pointer (some ⟨g3, 1 + 1, none⟩)) (exec_field 32 _ 1 rfl g3 (1) rfl _ Try.underlying32 _ rfl 0 Try.sizeOf3) ?_
  simp only [Act.put, pu]
  refine pw_loadk (by rfl) 3 _ rfl _ (2) rfl r3.r (.int .i64 b.2.2.1) rfl Try.isAgg3 ?_
  simp only [Act.put, pu]
  refine pw_value (by rfl) (.bool false) (exec_eql_k .i64 _ _ _ _ rfl (a.2.2.1) (b.2.2.1) rfl rfl false (decide_eq_false (h1))) ?_
  simp only [Act.put, pu]
  refine pw_pick (by rfl) true (v := .bool false) rfl rfl rfl ?_
  simp only [Act.put, pu]
  refine pw_mv (by rfl) rfl rfl ?_
  simp only [Act.put, pu]
  refine pw_skip (by rfl) ?_
  simp only [Act.put, pu]
  refine pw_skip (by rfl) ?_
  simp only [Act.put, pu]
  refine pw_skip (by rfl) ?_
  simp only [Act.put, pu]
  refine pw_skip (by rfl) ?_
  simp only [Act.put, pu]
  refine pw_skip (by rfl) ?_
  simp only [Act.put, pu]
  refine pw_skip (by rfl) ?_
  simp only [Act.put, pu]
  refine pw_skip (by rfl) ?_
  simp only [Act.put, pu]
  refine pw_skip (by rfl) ?_
  simp only [Act.put, pu]
  refine pw_skip (by rfl) ?_
  simp only [Act.put, pu]
  refine pw_pick (by rfl) false (v := .bool false) rfl rfl rfl ?_
  simp only [Act.put, pu]
  refine pw_as (by rfl) rfl rfl ?_
  simp only [Act.put, pu]
  refine pw_nil ?_
  go_wp2
  go_ret
  exact ⟨rfl, sb⟩
 by_cases h2 : a.2.1 % 2 = b.2.1 % 2
 ·rw [show rsm a b = true from decide_eq_true ⟨h0, h1, h2⟩]
  go_enter Try.func18, Try.ntmps18
  have sb := sbmk w
  (repeat ((fail_if_success with_reducible refine rg ?_); go_step))
  refine wp_region_pw ?_
  refine pw_boxr (by rfl) 34 _ rfl (rvA a) rfl ?_
  intro g2 z0 n0 r2 k
  simp only [Act.put, pu]
  have b2 := Nat.le_trans sb.size n0
  clear n0
  replace sb := sb.trans (k.below w.heap.size sb.size (by simp <;> omega))
  clear k
  refine pw_boxr (by rfl) 34 _ rfl (rvA b) rfl ?_
  intro g3 z1 n0 r3 k
  simp only [Act.put, pu]
  have d2x3 := Nat.lt_of_lt_of_le r2.lt n0
  have b3 := Nat.le_trans sb.size n0
  clear n0
  replace r2 := k.row r2 (by simp <;> omega)
  replace sb := sb.trans (k.below w.heap.size sb.size (by simp <;> omega))
  clear k
  refine pw_value (by rfl) (.bool false) (fun _ => rfl) ?_
  simp only [Act.put, pu]
  refine pw_nil ?_
  (repeat ((fail_if_success with_reducible refine rg ?_); go_step))
  refine wp_region_pw ?_
  refine pw_value (by rfl) (.pointer (some ⟨g2, 0, none⟩)) (exec_field 34 _ 0 rfl g2 (0) rfl _ Try.underlying34 _ rfl 0 Try.sizeOf3) ?_
  simp only [Act.put, pu]
  refine pw_loadk (by rfl) 3 _ rfl _ (0) rfl r2.r (.int .i64 a.1) rfl Try.isAgg3 ?_
  simp only [Act.put, pu]
  refine pw_value (by rfl) (.pointer (some ⟨g3, 0, none⟩)) (exec_field 34 _ 0 rfl g3 (0) rfl _ Try.underlying34 _ rfl 0 Try.sizeOf3) ?_
  simp only [Act.put, pu]
  refine pw_loadk (by rfl) 3 _ rfl _ (0) rfl r3.r (.int .i64 b.1) rfl Try.isAgg3 ?_
  simp only [Act.put, pu]
  refine pw_value (by rfl) (.bool true) (exec_eql_k .i64 _ _ _ _ rfl (a.1) (b.1) rfl rfl true (decide_eq_true (h0))) ?_
  simp only [Act.put, pu]
  refine pw_mv (by rfl) rfl rfl ?_
  simp only [Act.put, pu]
  refine pw_value (by rfl) (.pointer (some ⟨g2, 1, none⟩)) (exec_field 34 _ 1 rfl g2 (0) rfl _ Try.underlying34 _ rfl 1 Try.sizeOf32) ?_
  simp only [Act.put, pu]
  refine pw_value (by rfl) (.pointer (some ⟨g2, 1 + 1, none⟩)) (exec_field 32 _ 1 rfl g2 (1) rfl _ Try.underlying32 _ rfl 0 Try.sizeOf3) ?_
  simp only [Act.put, pu]
  refine pw_loadk (by rfl) 3 _ rfl _ (2) rfl r2.r (.int .i64 a.2.2.1) rfl Try.isAgg3 ?_
  simp only [Act.put, pu]
  refine pw_value (by rfl) (.pointer (some ⟨g3, 1, none⟩)) (exec_field 34 _ 1 rfl g3 (0) rfl _ Try.underlying34 _ rfl 1 Try.sizeOf32) ?_
  simp only [Act.put, pu]
  refine pw_value (by rfl) (.pointer (some ⟨g3, 1 + 1, none⟩)) (exec_field 32 _ 1 rfl g3 (1) rfl _ Try.underlying32 _ rfl 0 Try.sizeOf3) ?_
  simp only [Act.put, pu]
  refine pw_loadk (by rfl) 3 _ rfl _ (2) rfl r3.r (.int .i64 b.2.2.1) rfl Try.isAgg3 ?_
  simp only [Act.put, pu]
  refine pw_value (by rfl) (.bool true) (exec_eql_k .i64 _ _ _ _ rfl (a.2.2.1) (b.2.2.1) rfl rfl true (decide_eq_true (h1))) ?_
  simp only [Act.put, pu]
  refine pw_pick (by rfl) true (v := .bool true) rfl rfl rfl ?_
  simp only [Act.put, pu]
  refine pw_mv (by rfl) rfl rfl ?_
  simp only [Act.put, pu]
  refine pw_value (by rfl) (.pointer (some ⟨g2, 1, none⟩)) (exec_field 34 _ 1 rfl g2 (0) rfl _ Try.underlying34 _ rfl 1 Try.sizeOf32) ?_
  simp only [Act.put, pu]
  refine pw_value (by rfl) (.pointer (some ⟨g2, 1, none⟩)) (exec_field 32 _ 0 rfl g2 (1) rfl _ Try.underlying32 _ rfl 0 Try.sizeOf3) ?_
  simp only [Act.put, pu]
  refine pw_loadk (by rfl) 3 _ rfl _ (1) rfl r2.r (.int .i64 a.2.1) rfl Try.isAgg3 ?_
  simp only [Act.put, pu]
  refine pw_value (by rfl) (.int .i64 (a.2.1 % 2)) (x_par _ _ _ rfl (a.2.1) rfl rfl) ?_
  simp only [Act.put, pu]
  refine pw_value (by rfl) (.pointer (some ⟨g3, 1, none⟩)) (exec_field 34 _ 1 rfl g3 (0) rfl _ Try.underlying34 _ rfl 1 Try.sizeOf32) ?_
  simp only [Act.put, pu]
  refine pw_value (by rfl) (.pointer (some ⟨g3, 1, none⟩)) (exec_field 32 _ 0 rfl g3 (1) rfl _ Try.underlying32 _ rfl 0 Try.sizeOf3) ?_
  simp only [Act.put, pu]
  refine pw_loadk (by rfl) 3 _ rfl _ (1) rfl r3.r (.int .i64 b.2.1) rfl Try.isAgg3 ?_
  simp only [Act.put, pu]
  refine pw_value (by rfl) (.int .i64 (b.2.1 % 2)) (x_par _ _ _ rfl (b.2.1) rfl rfl) ?_
  simp only [Act.put, pu]
  refine pw_value (by rfl) (.bool true) (exec_eql_k .i64 _ _ _ _ rfl (a.2.1 % 2) (b.2.1 % 2) rfl rfl true (decide_eq_true (h2))) ?_
  simp only [Act.put, pu]
  refine pw_pick (by rfl) true (v := .bool true) rfl rfl rfl ?_
  simp only [Act.put, pu]
  refine pw_as (by rfl) rfl rfl ?_
  simp only [Act.put, pu]
  refine pw_nil ?_
  go_wp2
  go_ret
  exact ⟨rfl, sb⟩
 ·rw [show rsm a b = false from decide_eq_false fun h => h2 h.2.2]
  go_enter Try.func18, Try.ntmps18
  have sb := sbmk w
  (repeat ((fail_if_success with_reducible refine rg ?_); go_step))
  refine wp_region_pw ?_
  refine pw_boxr (by rfl) 34 _ rfl (rvA a) rfl ?_
  intro g2 z0 n0 r2 k
  simp only [Act.put, pu]
  have b2 := Nat.le_trans sb.size n0
  clear n0
  replace sb := sb.trans (k.below w.heap.size sb.size (by simp <;> omega))
  clear k
  refine pw_boxr (by rfl) 34 _ rfl (rvA b) rfl ?_
  intro g3 z1 n0 r3 k
  simp only [Act.put, pu]
  have d2x3 := Nat.lt_of_lt_of_le r2.lt n0
  have b3 := Nat.le_trans sb.size n0
  clear n0
  replace r2 := k.row r2 (by simp <;> omega)
  replace sb := sb.trans (k.below w.heap.size sb.size (by simp <;> omega))
  clear k
  refine pw_value (by rfl) (.bool false) (fun _ => rfl) ?_
  simp only [Act.put, pu]
  refine pw_nil ?_
  (repeat ((fail_if_success with_reducible refine rg ?_); go_step))
  refine wp_region_pw ?_
  refine pw_value (by rfl) (.pointer (some ⟨g2, 0, none⟩)) (exec_field 34 _ 0 rfl g2 (0) rfl _ Try.underlying34 _ rfl 0 Try.sizeOf3) ?_
  simp only [Act.put, pu]
  refine pw_loadk (by rfl) 3 _ rfl _ (0) rfl r2.r (.int .i64 a.1) rfl Try.isAgg3 ?_
  simp only [Act.put, pu]
  refine pw_value (by rfl) (.pointer (some ⟨g3, 0, none⟩)) (exec_field 34 _ 0 rfl g3 (0) rfl _ Try.underlying34 _ rfl 0 Try.sizeOf3) ?_
  simp only [Act.put, pu]
  refine pw_loadk (by rfl) 3 _ rfl _ (0) rfl r3.r (.int .i64 b.1) rfl Try.isAgg3 ?_
  simp only [Act.put, pu]
  refine pw_value (by rfl) (.bool true) (exec_eql_k .i64 _ _ _ _ rfl (a.1) (b.1) rfl rfl true (decide_eq_true (h0))) ?_
  simp only [Act.put, pu]
  refine pw_mv (by rfl) rfl rfl ?_
  simp only [Act.put, pu]
  refine pw_value (by rfl) (.pointer (some ⟨g2, 1, none⟩)) (exec_field 34 _ 1 rfl g2 (0) rfl _ Try.underlying34 _ rfl 1 Try.sizeOf32) ?_
  simp only [Act.put, pu]
  refine pw_value (by rfl) (.pointer (some ⟨g2, 1 + 1, none⟩)) (exec_field 32 _ 1 rfl g2 (1) rfl _ Try.underlying32 _ rfl 0 Try.sizeOf3) ?_
  simp only [Act.put, pu]
  refine pw_loadk (by rfl) 3 _ rfl _ (2) rfl r2.r (.int .i64 a.2.2.1) rfl Try.isAgg3 ?_
  simp only [Act.put, pu]
  refine pw_value (by rfl) (.pointer (some ⟨g3, 1, none⟩)) (exec_field 34 _ 1 rfl g3 (0) rfl _ Try.underlying34 _ rfl 1 Try.sizeOf32) ?_
  simp only [Act.put, pu]
  refine pw_value (by rfl) (.pointer (some ⟨g3, 1 + 1, none⟩)) (exec_field 32 _ 1 rfl g3 (1) rfl _ Try.underlying32 _ rfl 0 Try.sizeOf3) ?_
  simp only [Act.put, pu]
  refine pw_loadk (by rfl) 3 _ rfl _ (2) rfl r3.r (.int .i64 b.2.2.1) rfl Try.isAgg3 ?_
  simp only [Act.put, pu]
  refine pw_value (by rfl) (.bool true) (exec_eql_k .i64 _ _ _ _ rfl (a.2.2.1) (b.2.2.1) rfl rfl true (decide_eq_true (h1))) ?_
  simp only [Act.put, pu]
  refine pw_pick (by rfl) true (v := .bool true) rfl rfl rfl ?_
  simp only [Act.put, pu]
  refine pw_mv (by rfl) rfl rfl ?_
  simp only [Act.put, pu]
  refine pw_value (by rfl) (.pointer (some ⟨g2, 1, none⟩)) (exec_field 34 _ 1 rfl g2 (0) rfl _ Try.underlying34 _ rfl 1 Try.sizeOf32) ?_
  simp only [Act.put, pu]
  refine pw_value (by rfl) (.pointer (some ⟨g2, 1, none⟩)) (exec_field 32 _ 0 rfl g2 (1) rfl _ Try.underlying32 _ rfl 0 Try.sizeOf3) ?_
  simp only [Act.put, pu]
  refine pw_loadk (by rfl) 3 _ rfl _ (1) rfl r2.r (.int .i64 a.2.1) rfl Try.isAgg3 ?_
  simp only [Act.put, pu]
  refine pw_value (by rfl) (.int .i64 (a.2.1 % 2)) (x_par _ _ _ rfl (a.2.1) rfl rfl) ?_
  simp only [Act.put, pu]
  refine pw_value (by rfl) (.pointer (some ⟨g3, 1, none⟩)) (exec_field 34 _ 1 rfl g3 (0) rfl _ Try.underlying34 _ rfl 1 Try.sizeOf32) ?_
  simp only [Act.put, pu]
  refine pw_value (by rfl) (.pointer (some ⟨g3, 1, none⟩)) (exec_field 32 _ 0 rfl g3 (1) rfl _ Try.underlying32 _ rfl 0 Try.sizeOf3) ?_
  simp only [Act.put, pu]
  refine pw_loadk (by rfl) 3 _ rfl _ (1) rfl r3.r (.int .i64 b.2.1) rfl Try.isAgg3 ?_
  simp only [Act.put, pu]
  refine pw_value (by rfl) (.int .i64 (b.2.1 % 2)) (x_par _ _ _ rfl (b.2.1) rfl rfl) ?_
  simp only [Act.put, pu]
  refine pw_value (by rfl) (.bool false) (exec_eql_k .i64 _ _ _ _ rfl (a.2.1 % 2) (b.2.1 % 2) rfl rfl false (decide_eq_false (h2))) ?_
  simp only [Act.put, pu]
  refine pw_pick (by rfl) true (v := .bool false) rfl rfl rfl ?_
  simp only [Act.put, pu]
  refine pw_as (by rfl) rfl rfl ?_
  simp only [Act.put, pu]
  refine pw_nil ?_
  go_wp2
  go_ret
  exact ⟨rfl, sb⟩
set_option maxRecDepth 100000 in
set_option maxHeartbeats 2000000 in
theorem rcnt_any (ab : Option Addr) (c : Nat) (L : List Rv) (gb ob : Nat) (bcs : Array Value) (tb : TypeId) (s cl : Int) (d : List UInt8) (w : World) (hn : L.length < 4611686018427387904) (hz : ElsAt 4 w ab L.length (lsC L) gb ob bcs tb) :
  Calls Try.prog 12 #[.slice ab L.length c, .agg (tsC s cl), .string ⟨d.toArray⟩] w fun e w' => e = .returned (.int .i64 (rcnt L s cl d : Nat)) ∧ Below w.heap.size w w' := by
 have HB : Hid (ElsAt 4 w ab L.length (lsC L) gb ob bcs tb) := hz
 have HR : Hid (rcnt L s cl d = (L.countP fun x => decide (x.2 = (s, cl, d)))) := rfl
 obtain ⟨R, hR⟩ : ∃ R, rcnt L s cl d = R := ⟨_, rfl⟩
 rw [hR] at HR ⊢
 clear hz hR
 go_enter Try.func12, Try.ntmps12
 have sb := sbmk w
 (repeat ((fail_if_success with_reducible refine rg ?_); go_step))
 refine wp_region_pw ?_
 refine pw_boxr (by rfl) 32 _ rfl (tsC s cl) rfl ?_
 intro g4 z0 n0 r4 k
 simp only [Act.put, pu]
 have b4 := Nat.le_trans sb.size n0
 clear n0
 replace sb := sb.trans (k.below w.heap.size sb.size (by simp <;> omega))
 clear k
 refine pw_value (by rfl) (.int .i64 0) (fun _ => rfl) ?_
 simp only [Act.put, pu]
 refine pw_nil ?_
 (repeat ((fail_if_success with_reducible refine rg ?_); go_step))
 refine wp_region_pw ?_
 refine pw_value (by rfl) (.int .i64 0) (fun _ => rfl) ?_
 simp only [Act.put, pu]
 refine pw_nil ?_
 (repeat ((fail_if_success with_reducible refine rg ?_); go_step))
 refine wp_region_pw ?_
 refine pw_value (by rfl) (.int .i64 0) (fun _ => rfl) ?_
 simp only [Act.put, pu]
 refine pw_nil ?_
 go_wp2_with fail
 go_loopg [7, 8] L.length (fun x s7 s8 wr => ∃ j u : Nat, j + x = L.length ∧ u ≤ j ∧ R = u + (L.drop j).countP (fun x => decide (x.2 = (s, cl, d))) ∧ s7 = .int .i64 (u : Nat) ∧ s8 = .int .i64 (j : Nat) ∧ Row wr g4 (tsC s cl) 32 ∧ Below w.heap.size w wr)
 case atStart => exact ⟨0, 0, by omega, by omega, by rw [HR.out, List.drop_zero, Nat.zero_add], rfl, rfl, r4, sb⟩
 case round =>
  clear sb r4 HR
  obtain ⟨j, u, hj, huj, hu, rfl, rfl, r4, sb⟩ := hrel
  have HU : Hid (R = u + (L.drop j).countP (fun x => decide (x.2 = (s, cl, d)))) := hu
  clear hu
  cases gk with
  | zero =>
   obtain hjl : j = L.length := by omega
   have HE : Hid (R = u) := by have := HU.out; rw [hjl, List.drop_length] at this; exact this
   clear HU
   have h1 : ¬ (j : Int) < (L.length : Int) := by omega
   clear hj hjl
   (repeat ((fail_if_success with_reducible refine rg ?_); go_step))
   refine wp_region_pw ?_
   refine pw_mv (by rfl) rfl rfl ?_
   simp only [Act.put, pu]
   refine pw_mv (by rfl) rfl rfl ?_
   simp only [Act.put, pu]
   refine pw_value (by rfl) (.int .i64 (L.length : Nat)) (exec_len_s 22 _ rfl (ab) (L.length) (c) rfl sl_rv) ?_
   simp only [Act.put, pu]
   refine pw_value (by rfl) (.bool false) (exec_lt_b _ _ _ _ rfl ((j : Nat)) ((L.length : Nat)) rfl rfl false (decide_eq_false h1)) ?_
   simp only [Act.put, pu]
   refine pw_nil ?_
   (repeat ((fail_if_success with_reducible refine rg ?_); go_step))
   refine wp_region_pw ?_
   refine pw_mv (by rfl) rfl rfl ?_
   simp only [Act.put, pu]
   refine pw_as (by rfl) rfl rfl ?_
   simp only [Act.put, pu]
   refine pw_nil ?_
   go_wp2
   go_ret
   exact ⟨by rw [HE.out]; rfl, sb⟩
  | succ y =>
   have hlt : j < L.length := by omega
   have hu63 : u + 1 < 9223372036854775807 := by omega
   obtain h0 | ⟨rfl, rB, hbt⟩ := (HB.out.below sb).at'
   ·exact absurd h0 (by omega)
   obtain ⟨x, _, hx, hdr⟩ := ls_at hlt
   obtain ⟨hk, hsq, hcl, hdg, hst⟩ := rv_part hx (hbt j hlt)
   have HD : Hid (L.drop j = x :: L.drop (j + 1)) := hdr
   clear hbt hx hdr
   by_cases h10 : x.2.1 = s ∧ x.2.2.1 = cl
   ·have h1 := decide_eq_true h10
    by_cases h20 : x.2.2.2 = d
    ·have h2 := decide_eq_true h20
     have HX : Hid (decide (x.2 = (s, cl, d)) = true) := decide_eq_true (by rw [← h10.1, ← h10.2, ← h20])
     clear h10 h20
     (repeat ((fail_if_success with_reducible refine rg ?_); go_step))
     refine wp_region_pw ?_
     refine pw_mv (by rfl) rfl rfl ?_
     simp only [Act.put, pu]
     refine pw_mv (by rfl) rfl rfl ?_
     simp only [Act.put, pu]
     refine pw_value (by rfl) (.int .i64 (L.length : Nat)) (exec_len_s 22 _ rfl (some ⟨gb, ob, none⟩) (L.length) (c) rfl sl_rv) ?_
     simp only [Act.put, pu]
     refine pw_value (by rfl) (.bool true) (exec_lt_b _ _ _ _ rfl ((j : Nat)) ((L.length : Nat)) rfl rfl true (decide_eq_true (by omega))) ?_
     simp only [Act.put, pu]
     refine pw_nil ?_
     (repeat ((fail_if_success with_reducible refine rg ?_); go_step))
     refine wp_region_qw (by kernel_rfl) (by kernel_rfl) ?_
     refine qw_move (by rfl) rfl rfl ?_
     simp only [Act.put, pu]
     refine qw_move (by rfl) rfl rfl ?_
     simp only [Act.put, pu]
     refine qw_value (by rfl) (.pointer (some ⟨gb, ob + j * 4, none⟩)) ((exec_index_s 22 _ _ rfl gb ob (L.length) (c) rfl (j) rfl (hlt) _ Try.underlying22 4 Try.sizeOf34)) ?_
     simp only [Act.put, pu]
     refine qw_value (by rfl) (.pointer (some ⟨gb, ob + j * 4 + 1, none⟩)) (exec_field 34 _ 1 rfl gb (ob + j * 4) rfl _ Try.underlying34 _ rfl 1 Try.sizeOf32) ?_
     simp only [Act.put, pu]
     refine qw_loadmR (by rfl) 32 _ rfl _ (ob + j * 4 + 1) rfl rB ((tsC x.2.1 x.2.2.1)) hst _ Try.underlying32 rfl size_st ?_
     simp only [Act.put, pu]
     refine qw_loadm (by rfl) 32 _ rfl _ (0) rfl r4 ((tsC s cl)) (part_all _) _ Try.underlying32 rfl size_st ?_
     simp only [Act.put, pu]
     refine qw_value (by rfl) (.bool true) (exec_eql_st _ _ _ rfl x.2.1 x.2.2.1 s cl rfl rfl true h1) ?_
     simp only [Act.put, pu]
     refine qw_move (by rfl) rfl rfl ?_
     simp only [Act.put, pu]
     refine qw_move (by rfl) rfl rfl ?_
     simp only [Act.put, pu]
     refine qw_move (by rfl) rfl rfl ?_
     simp only [Act.put, pu]
     refine qw_value (by rfl) (.pointer (some ⟨gb, ob + j * 4, none⟩)) ((exec_index_s 22 _ _ rfl gb ob (L.length) (c) rfl (j) rfl (hlt) _ Try.underlying22 4 Try.sizeOf34)) ?_
     simp only [Act.put, pu]
     refine qw_value (by rfl) (.pointer (some ⟨gb, ob + j * 4 + 3, none⟩)) (exec_field 34 _ 2 rfl gb (ob + j * 4) rfl _ Try.underlying34 _ rfl 0 Try.sizeOf9) ?_
     simp only [Act.put, pu]
     refine qw_loadcR (by rfl) 9 _ rfl _ (ob + j * 4 + 3) rfl rB (.string ⟨x.2.2.2.toArray⟩) hdg Try.isAgg9 ?_
     simp only [Act.put, pu]
     refine qw_move (by rfl) rfl rfl ?_
     simp only [Act.put, pu]
     refine qw_value (by rfl) (.bool true) (y_eqS _ _ _ _ rfl x.2.2.2 d rfl rfl true h2) ?_
     simp only [Act.put, pu]
     refine qw_pick true (v := .bool true) (by rfl) rfl rfl rfl ?_
     simp only [Act.put, pu]
     refine qw_nil ?_
     intro w9 hqb
     replace r4 := r4.belowAll hqb
     replace sb := below_on sb (Nat.le_refl _) hqb
     clear hqb
     (repeat ((fail_if_success with_reducible refine rg ?_); go_step))
     refine wp_region_pw ?_
     refine pw_mv (by rfl) rfl rfl ?_
     simp only [Act.put, pu]
     refine pw_value (by rfl) (.int .i64 (((u + 1 : Nat) : Int))) (x_addz _ _ _ _ rfl ((u : Nat)) (1) (((u + 1 : Nat) : Int)) rfl rfl (by omega) (by omega) (by omega)) ?_
     simp only [Act.put, pu]
     refine pw_as (by rfl) rfl rfl ?_
     simp only [Act.put, pu]
     refine pw_nil ?_
     (repeat ((fail_if_success with_reducible refine rg ?_); go_step))
     refine wp_region_pw ?_
     refine pw_mv (by rfl) rfl rfl ?_
     simp only [Act.put, pu]
     refine pw_value (by rfl) (.int .i64 (((j + 1 : Nat) : Int))) (x_addz _ _ _ _ rfl ((j : Nat)) (1) (((j + 1 : Nat) : Int)) rfl rfl (by omega) (by omega) (by omega)) ?_
     simp only [Act.put, pu]
     refine pw_as (by rfl) rfl rfl ?_
     simp only [Act.put, pu]
     refine pw_nil ?_
     go_wp2
     go_roundg y
     case measure => omega
     case rel => exact ⟨j + 1, u + 1, by omega, by omega, by have := HU.out; rw [HD.out, List.countP_cons, HX.out] at this; first | omega | (simp at this; omega), rfl, rfl, r4, sb⟩
    ·have h2 := decide_eq_false h20
     have HX : Hid (decide (x.2 = (s, cl, d)) = false) := decide_eq_false (fun e => h20 (by rw [e]))
     clear h10 h20
     (repeat ((fail_if_success with_reducible refine rg ?_); go_step))
     refine wp_region_pw ?_
     refine pw_mv (by rfl) rfl rfl ?_
     simp only [Act.put, pu]
     refine pw_mv (by rfl) rfl rfl ?_
     simp only [Act.put, pu]
     refine pw_value (by rfl) (.int .i64 (L.length : Nat)) (exec_len_s 22 _ rfl (some ⟨gb, ob, none⟩) (L.length) (c) rfl sl_rv) ?_
     simp only [Act.put, pu]
     refine pw_value (by rfl) (.bool true) (exec_lt_b _ _ _ _ rfl ((j : Nat)) ((L.length : Nat)) rfl rfl true (decide_eq_true (by omega))) ?_
     simp only [Act.put, pu]
     refine pw_nil ?_
     (repeat ((fail_if_success with_reducible refine rg ?_); go_step))
     refine wp_region_qw (by kernel_rfl) (by kernel_rfl) ?_
     refine qw_move (by rfl) rfl rfl ?_
     simp only [Act.put, pu]
     refine qw_move (by rfl) rfl rfl ?_
     simp only [Act.put, pu]
     refine qw_value (by rfl) (.pointer (some ⟨gb, ob + j * 4, none⟩)) ((exec_index_s 22 _ _ rfl gb ob (L.length) (c) rfl (j) rfl (hlt) _ Try.underlying22 4 Try.sizeOf34)) ?_
     simp only [Act.put, pu]
     refine qw_value (by rfl) (.pointer (some ⟨gb, ob + j * 4 + 1, none⟩)) (exec_field 34 _ 1 rfl gb (ob + j * 4) rfl _ Try.underlying34 _ rfl 1 Try.sizeOf32) ?_
     simp only [Act.put, pu]
     refine qw_loadmR (by rfl) 32 _ rfl _ (ob + j * 4 + 1) rfl rB ((tsC x.2.1 x.2.2.1)) hst _ Try.underlying32 rfl size_st ?_
     simp only [Act.put, pu]
     refine qw_loadm (by rfl) 32 _ rfl _ (0) rfl r4 ((tsC s cl)) (part_all _) _ Try.underlying32 rfl size_st ?_
     simp only [Act.put, pu]
     refine qw_value (by rfl) (.bool true) (exec_eql_st _ _ _ rfl x.2.1 x.2.2.1 s cl rfl rfl true h1) ?_
     simp only [Act.put, pu]
     refine qw_move (by rfl) rfl rfl ?_
     simp only [Act.put, pu]
     refine qw_move (by rfl) rfl rfl ?_
     simp only [Act.put, pu]
     refine qw_move (by rfl) rfl rfl ?_
     simp only [Act.put, pu]
     refine qw_value (by rfl) (.pointer (some ⟨gb, ob + j * 4, none⟩)) ((exec_index_s 22 _ _ rfl gb ob (L.length) (c) rfl (j) rfl (hlt) _ Try.underlying22 4 Try.sizeOf34)) ?_
     simp only [Act.put, pu]
     refine qw_value (by rfl) (.pointer (some ⟨gb, ob + j * 4 + 3, none⟩)) (exec_field 34 _ 2 rfl gb (ob + j * 4) rfl _ Try.underlying34 _ rfl 0 Try.sizeOf9) ?_
     simp only [Act.put, pu]
     refine qw_loadcR (by rfl) 9 _ rfl _ (ob + j * 4 + 3) rfl rB (.string ⟨x.2.2.2.toArray⟩) hdg Try.isAgg9 ?_
     simp only [Act.put, pu]
     refine qw_move (by rfl) rfl rfl ?_
     simp only [Act.put, pu]
     refine qw_value (by rfl) (.bool false) (y_eqS _ _ _ _ rfl x.2.2.2 d rfl rfl false h2) ?_
     simp only [Act.put, pu]
     refine qw_pick true (v := .bool false) (by rfl) rfl rfl rfl ?_
     simp only [Act.put, pu]
     refine qw_nil ?_
     intro w9 hqb
     replace r4 := r4.belowAll hqb
     replace sb := below_on sb (Nat.le_refl _) hqb
     clear hqb
     (repeat ((fail_if_success with_reducible refine rg ?_); go_step))
     refine wp_region_pw ?_
     refine pw_mv (by rfl) rfl rfl ?_
     simp only [Act.put, pu]
     refine pw_value (by rfl) (.int .i64 (((j + 1 : Nat) : Int))) (x_addz _ _ _ _ rfl ((j : Nat)) (1) (((j + 1 : Nat) : Int)) rfl rfl (by omega) (by omega) (by omega)) ?_
     simp only [Act.put, pu]
     refine pw_as (by rfl) rfl rfl ?_
     simp only [Act.put, pu]
     refine pw_nil ?_
     go_wp2
     go_roundg y
     case measure => omega
     case rel => exact ⟨j + 1, u, by omega, by omega, by have := HU.out; rw [HD.out, List.countP_cons, HX.out] at this; first | omega | (simp at this; omega), rfl, rfl, r4, sb⟩
   ·have h1 := decide_eq_false h10
    have HX : Hid (decide (x.2 = (s, cl, d)) = false) := decide_eq_false (fun e => h10 (by rw [e]; exact ⟨rfl, rfl⟩))
    clear h10
    (repeat ((fail_if_success with_reducible refine rg ?_); go_step))
    refine wp_region_pw ?_
    refine pw_mv (by rfl) rfl rfl ?_
    simp only [Act.put, pu]
    refine pw_mv (by rfl) rfl rfl ?_
    simp only [Act.put, pu]
    refine pw_value (by rfl) (.int .i64 (L.length : Nat)) (exec_len_s 22 _ rfl (some ⟨gb, ob, none⟩) (L.length) (c) rfl sl_rv) ?_
    simp only [Act.put, pu]
    refine pw_value (by rfl) (.bool true) (exec_lt_b _ _ _ _ rfl ((j : Nat)) ((L.length : Nat)) rfl rfl true (decide_eq_true (by omega))) ?_
    simp only [Act.put, pu]
    refine pw_nil ?_
    (repeat ((fail_if_success with_reducible refine rg ?_); go_step))
    refine wp_region_qw (by kernel_rfl) (by kernel_rfl) ?_
    refine qw_move (by rfl) rfl rfl ?_
    simp only [Act.put, pu]
    refine qw_move (by rfl) rfl rfl ?_
    simp only [Act.put, pu]
    refine qw_value (by rfl) (.pointer (some ⟨gb, ob + j * 4, none⟩)) ((exec_index_s 22 _ _ rfl gb ob (L.length) (c) rfl (j) rfl (hlt) _ Try.underlying22 4 Try.sizeOf34)) ?_
    simp only [Act.put, pu]
    refine qw_value (by rfl) (.pointer (some ⟨gb, ob + j * 4 + 1, none⟩)) (exec_field 34 _ 1 rfl gb (ob + j * 4) rfl _ Try.underlying34 _ rfl 1 Try.sizeOf32) ?_
    simp only [Act.put, pu]
    refine qw_loadmR (by rfl) 32 _ rfl _ (ob + j * 4 + 1) rfl rB ((tsC x.2.1 x.2.2.1)) hst _ Try.underlying32 rfl size_st ?_
    simp only [Act.put, pu]
    refine qw_loadm (by rfl) 32 _ rfl _ (0) rfl r4 ((tsC s cl)) (part_all _) _ Try.underlying32 rfl size_st ?_
    simp only [Act.put, pu]
    refine qw_value (by rfl) (.bool false) (exec_eql_st _ _ _ rfl x.2.1 x.2.2.1 s cl rfl rfl false h1) ?_
    simp only [Act.put, pu]
    refine qw_move (by rfl) rfl rfl ?_
    simp only [Act.put, pu]
    refine qw_skip (by rfl) ?_
    simp only [Act.put, pu]
    refine qw_skip (by rfl) ?_
    simp only [Act.put, pu]
    refine qw_skip (by rfl) ?_
    simp only [Act.put, pu]
    refine qw_skip (by rfl) ?_
    simp only [Act.put, pu]
    refine qw_skip (by rfl) ?_
    simp only [Act.put, pu]
    refine qw_skip (by rfl) ?_
    simp only [Act.put, pu]
    refine qw_skip (by rfl) ?_
    simp only [Act.put, pu]
    refine qw_pick false (v := .bool false) (by rfl) rfl rfl rfl ?_
    simp only [Act.put, pu]
    refine qw_nil ?_
    intro w9 hqb
    replace r4 := r4.belowAll hqb
    replace sb := below_on sb (Nat.le_refl _) hqb
    clear hqb
    (repeat ((fail_if_success with_reducible refine rg ?_); go_step))
    refine wp_region_pw ?_
    refine pw_mv (by rfl) rfl rfl ?_
    simp only [Act.put, pu]
    refine pw_value (by rfl) (.int .i64 (((j + 1 : Nat) : Int))) (x_addz _ _ _ _ rfl ((j : Nat)) (1) (((j + 1 : Nat) : Int)) rfl rfl (by omega) (by omega) (by omega)) ?_
    simp only [Act.put, pu]
    refine pw_as (by rfl) rfl rfl ?_
    simp only [Act.put, pu]
    refine pw_nil ?_
    go_wp2
    go_roundg y
    case measure => omega
    case rel => exact ⟨j + 1, u, by omega, by omega, by have := HU.out; rw [HD.out, List.countP_cons, HX.out] at this; first | omega | (simp at this; omega), rfl, rfl, r4, sb⟩
set_option maxRecDepth 100000 in
set_option maxHeartbeats 2000000 in
theorem rat_any (ab : Option Addr) (c : Nat) (L : List Rv) (gb ob : Nat) (bcs : Array Value) (tb : TypeId) (k cl o : Int) (w : World) (hn : L.length < 4611686018427387904) (hz : ElsAt 4 w ab L.length (lsC L) gb ob bcs tb) :
  Calls Try.prog 14 #[.slice ab L.length c, .int .i64 k, .int .i64 cl, .int .i64 o] w fun e w' => e = .returned (.tuple #[.agg (tsC (rat L k cl o).1 (rat L k cl o).2.1), .string ⟨(rat L k cl o).2.2.toArray⟩]) ∧ Below w.heap.size w w' := by
 have HB : Hid (ElsAt 4 w ab L.length (lsC L) gb ob bcs tb) := hz
 obtain ⟨R, hR⟩ : ∃ R, rat L k cl o = R := ⟨_, rfl⟩
 have HR : Hid (R = rat L k cl o) := hR.symm
 rw [hR]
 clear hz hR
 go_enter Try.func14, Try.ntmps14
 have sb := sbmk w
 (repeat ((fail_if_success with_reducible refine rg ?_); go_step))
 refine wp_region_pw ?_
 refine pw_new (by rfl) 32 rfl _ zero_st ?_
 intro g8 z0 n0 r8 k
 simp only [Act.put, pu]
 have b8 := Nat.le_trans sb.size n0
 clear n0
 replace sb := sb.trans (k.below w.heap.size sb.size (by simp <;> omega))
 clear k
 refine pw_value (by rfl) (.string ⟨#[]⟩) (fun _ => rfl) ?_
 simp only [Act.put, pu]
 refine pw_nil ?_
 (repeat ((fail_if_success with_reducible refine rg ?_); go_step))
 refine wp_region_pw ?_
 refine pw_value (by rfl) (.int .i64 0) (fun _ => rfl) ?_
 simp only [Act.put, pu]
 refine pw_nil ?_
 go_wp2_with fail
 go_loopg [10] L.length (fun x s10 wr => ∃ j : Nat, j + x = L.length ∧ R = rat (L.drop j) k cl o ∧ s10 = .int .i64 (j : Nat) ∧ Row wr g8 (tsC 0 0) 32 ∧ Below w.heap.size w wr)
 case atStart => exact ⟨0, by omega, by rw [HR.out, List.drop_zero], rfl, r8, sb⟩
 case round =>
  clear sb r8 HR
  obtain ⟨j, hj, hu, rfl, r8, sb⟩ := hrel
  have HU : Hid (R = rat (L.drop j) k cl o) := hu
  clear hu
  cases gk with
  | zero =>
   obtain hjl : j = L.length := by omega
   have HE : Hid (R = vt0) := by have := HU.out; rw [hjl, List.drop_length] at this; exact this
   clear HU
   have h1 : ¬ (j : Int) < (L.length : Int) := by omega
   clear hj hjl
   (repeat ((fail_if_success with_reducible refine rg ?_); go_step))
   refine wp_region_pw ?_
   refine pw_mv (by rfl) rfl rfl ?_
   simp only [Act.put, pu]
   refine pw_mv (by rfl) rfl rfl ?_
   simp only [Act.put, pu]
   refine pw_value (by rfl) (.int .i64 (L.length : Nat)) (exec_len_s 22 _ rfl (ab) (L.length) (c) rfl sl_rv) ?_
   simp only [Act.put, pu]
   refine pw_value (by rfl) (.bool false) (exec_lt_b _ _ _ _ rfl ((j : Nat)) ((L.length : Nat)) rfl rfl false (decide_eq_false h1)) ?_
   simp only [Act.put, pu]
   refine pw_nil ?_
   (repeat ((fail_if_success with_reducible refine rg ?_); go_step))
   refine wp_region_pw ?_
   refine pw_value (by rfl) (.agg (tsC 0 0)) (exec_buildv _ [] rfl [] rfl _ built_st0) ?_
   simp only [Act.put, pu]
   refine pw_put (by rfl) 32 _ _ rfl _ rfl r8 (tsC 0 0) rfl (by exact size_st) (by rfl) (st_one _ _) ?_
   clear r8
   intro z6001 r8 k
   simp only [Act.put]
   replace sb := sb.trans (k.below w.heap.size sb.size (by simp <;> omega))
   clear k
   refine pw_value (by rfl) (.string ⟨#[]⟩) (fun _ => rfl) ?_
   simp only [Act.put, pu]
   refine pw_nil ?_
   go_wp2
   exact ret_rowE rfl _ rfl r8 _ Try.underlying32 size_st rfl _ rfl ⟨by rw [HE.out]; rfl, sb⟩
  | succ y =>
   have hlt : j < L.length := by omega
   obtain h0 | ⟨rfl, rB, hbt⟩ := (HB.out.below sb).at'
   ·exact absurd h0 (by omega)
   obtain ⟨x, _, hx, hdr⟩ := ls_at hlt
   obtain ⟨hk, hsq, hcl, hdg, hst⟩ := rv_part hx (hbt j hlt)
   have HD : Hid (L.drop j = x :: L.drop (j + 1)) := hdr
   clear hbt hx hdr
   by_cases h00 : x.1 = k
   rotate_left
   ·have h0 := decide_eq_false h00
    have HX : Hid (kq k cl o x = false) := decide_eq_false fun e => h00 e.1
    clear h00
    (repeat ((fail_if_success with_reducible refine rg ?_); go_step))
    refine wp_region_pw ?_
    refine pw_mv (by rfl) rfl rfl ?_
    simp only [Act.put, pu]
    refine pw_mv (by rfl) rfl rfl ?_
    simp only [Act.put, pu]
    refine pw_value (by rfl) (.int .i64 (L.length : Nat)) (exec_len_s 22 _ rfl (some ⟨gb, ob, none⟩) (L.length) (c) rfl sl_rv) ?_
    simp only [Act.put, pu]
    refine pw_value (by rfl) (.bool true) (exec_lt_b _ _ _ _ rfl ((j : Nat)) ((L.length : Nat)) rfl rfl true (decide_eq_true (by omega))) ?_
    simp only [Act.put, pu]
    refine pw_nil ?_
    (repeat ((fail_if_success with_reducible refine rg ?_); go_step))
    refine wp_region_pw ?_
    refine pw_mv (by rfl) rfl rfl ?_
    simp only [Act.put, pu]
    refine pw_mv (by rfl) rfl rfl ?_
    simp only [Act.put, pu]
    refine pw_value (by rfl) (.pointer (some ⟨gb, ob + j * 4, none⟩)) ((exec_index_s 22 _ _ rfl gb ob (L.length) (c) rfl (j) rfl (hlt) _ Try.underlying22 4 Try.sizeOf34)) ?_
    simp only [Act.put, pu]
    refine pw_value (by rfl) (.pointer (some ⟨gb, ob + j * 4, none⟩)) (exec_field 34 _ 0 rfl gb (ob + j * 4) rfl _ Try.underlying34 _ rfl 0 Try.sizeOf3) ?_
    simp only [Act.put, pu]
    refine pw_loadk (by rfl) 3 _ rfl _ (ob + j * 4) rfl rB (.int .i64 x.1) hk Try.isAgg3 ?_
    simp only [Act.put, pu]
    refine pw_mv (by rfl) rfl rfl ?_
    simp only [Act.put, pu]
    refine pw_value (by rfl) (.bool false) (exec_eql_k .i64 _ _ _ _ rfl (x.1) (k) rfl rfl false (h0)) ?_
    simp only [Act.put, pu]
    refine pw_mv (by rfl) rfl rfl ?_
    simp only [Act.put, pu]
    refine pw_skip (by rfl) ?_
    simp only [Act.put, pu]
    refine pw_skip (by rfl) ?_
    simp only [Act.put, pu]
    refine pw_skip (by rfl) ?_
    simp only [Act.put, pu]
    refine pw_skip (by rfl) ?_
    simp only [Act.put, pu]
    refine pw_skip (by rfl) ?_
    simp only [Act.put, pu]
    refine pw_skip (by rfl) ?_
    simp only [Act.put, pu]
    refine pw_skip (by rfl) ?_
    simp only [Act.put, pu]
    refine pw_skip (by rfl) ?_
    simp only [Act.put, pu]
    refine pw_pick (by rfl) false (v := .bool false) rfl rfl rfl ?_
    simp only [Act.put, pu]
    refine pw_mv (by rfl) rfl rfl ?_
    simp only [Act.put, pu]
    refine pw_skip (by rfl) ?_
    simp only [Act.put, pu]
    refine pw_skip (by rfl) ?_
    simp only [Act.put, pu]
    refine pw_skip (by rfl) ?_
    simp only [Act.put, pu]
    refine pw_skip (by rfl) ?_
    simp only [Act.put, pu]
    refine pw_skip (by rfl) ?_
    simp only [Act.put, pu]
    refine pw_skip (by rfl) ?_
    simp only [Act.put, pu]
    refine pw_skip (by rfl) ?_
    simp only [Act.put, pu]
    refine pw_skip (by rfl) ?_
    simp only [Act.put, pu]
    refine pw_skip (by rfl) ?_
    simp only [Act.put, pu]
    refine pw_pick (by rfl) false (v := .bool false) rfl rfl rfl ?_
    simp only [Act.put, pu]
    refine pw_nil ?_
    (repeat ((fail_if_success with_reducible refine rg ?_); go_step))
    refine wp_region_pw ?_
    refine pw_mv (by rfl) rfl rfl ?_
    simp only [Act.put, pu]
    refine pw_value (by rfl) (.int .i64 (((j + 1 : Nat) : Int))) (x_addz _ _ _ _ rfl ((j : Nat)) (1) (((j + 1 : Nat) : Int)) rfl rfl (by omega) (by omega) (by omega)) ?_
    simp only [Act.put, pu]
    refine pw_as (by rfl) rfl rfl ?_
    simp only [Act.put, pu]
    refine pw_nil ?_
    go_wp2
    go_roundg y
    case measure => omega
    case rel => exact ⟨j + 1, by omega, by rw [HU.out, HD.out, rat_cons, if_neg (by rw [HX.out]; decide)], rfl, r8, sb⟩
   by_cases h10 : x.2.2.1 = cl
   rotate_left
   ·have h0 := decide_eq_true h00
    have h1 := decide_eq_false h10
    have HX : Hid (kq k cl o x = false) := decide_eq_false fun e => h10 e.2.1
    clear h00 h10
    (repeat ((fail_if_success with_reducible refine rg ?_); go_step))
    refine wp_region_pw ?_
    refine pw_mv (by rfl) rfl rfl ?_
    simp only [Act.put, pu]
    refine pw_mv (by rfl) rfl rfl ?_
    simp only [Act.put, pu]
    refine pw_value (by rfl) (.int .i64 (L.length : Nat)) (exec_len_s 22 _ rfl (some ⟨gb, ob, none⟩) (L.length) (c) rfl sl_rv) ?_
    simp only [Act.put, pu]
    refine pw_value (by rfl) (.bool true) (exec_lt_b _ _ _ _ rfl ((j : Nat)) ((L.length : Nat)) rfl rfl true (decide_eq_true (by omega))) ?_
    simp only [Act.put, pu]
    refine pw_nil ?_
    (repeat ((fail_if_success with_reducible refine rg ?_); go_step))
    refine wp_region_pw ?_
    refine pw_mv (by rfl) rfl rfl ?_
    simp only [Act.put, pu]
    refine pw_mv (by rfl) rfl rfl ?_
    simp only [Act.put, pu]
    refine pw_value (by rfl) (.pointer (some ⟨gb, ob + j * 4, none⟩)) ((exec_index_s 22 _ _ rfl gb ob (L.length) (c) rfl (j) rfl (hlt) _ Try.underlying22 4 Try.sizeOf34)) ?_
    simp only [Act.put, pu]
    refine pw_value (by rfl) (.pointer (some ⟨gb, ob + j * 4, none⟩)) (exec_field 34 _ 0 rfl gb (ob + j * 4) rfl _ Try.underlying34 _ rfl 0 Try.sizeOf3) ?_
    simp only [Act.put, pu]
    refine pw_loadk (by rfl) 3 _ rfl _ (ob + j * 4) rfl rB (.int .i64 x.1) hk Try.isAgg3 ?_
    simp only [Act.put, pu]
    refine pw_mv (by rfl) rfl rfl ?_
    simp only [Act.put, pu]
    refine pw_value (by rfl) (.bool true) (exec_eql_k .i64 _ _ _ _ rfl (x.1) (k) rfl rfl true (h0)) ?_
    simp only [Act.put, pu]
    refine pw_mv (by rfl) rfl rfl ?_
    simp only [Act.put, pu]
    refine pw_mv (by rfl) rfl rfl ?_
    simp only [Act.put, pu]
    refine pw_mv (by rfl) rfl rfl ?_
    simp only [Act.put, pu]
    refine pw_value (by rfl) (.pointer (some ⟨gb, ob + j * 4, none⟩)) ((exec_index_s 22 _ _ rfl gb ob (L.length) (c) rfl (j) rfl (hlt) _ Try.underlying22 4 Try.sizeOf34)) ?_
    simp only [Act.put, pu]
    refine pw_value (by rfl) (.pointer (some ⟨gb, ob + j * 4 + 1, none⟩)) (exec_field 34 _ 1 rfl gb (ob + j * 4) rfl _ Try.underlying34 _ rfl 1 Try.sizeOf32) ?_
    simp only [Act.put, pu]
    refine pw_value (by rfl) (.pointer (some ⟨gb, ob + j * 4 + 1 + 1, none⟩)) (exec_field 32 _ 1 rfl gb (ob + j * 4 + 1) rfl _ Try.underlying32 _ rfl 0 Try.sizeOf3) ?_
    simp only [Act.put, pu]
    refine pw_loadk (by rfl) 3 _ rfl _ (ob + j * 4 + 2) rfl rB (.int .i64 x.2.2.1) hcl Try.isAgg3 ?_
    simp only [Act.put, pu]
    refine pw_mv (by rfl) rfl rfl ?_
    simp only [Act.put, pu]
    refine pw_value (by rfl) (.bool false) (exec_eql_k .i64 _ _ _ _ rfl (x.2.2.1) (cl) rfl rfl false (h1)) ?_
    simp only [Act.put, pu]
    refine pw_pick (by rfl) true (v := .bool false) rfl rfl rfl ?_
    simp only [Act.put, pu]
    refine pw_mv (by rfl) rfl rfl ?_
    simp only [Act.put, pu]
    refine pw_skip (by rfl) ?_
    simp only [Act.put, pu]
    refine pw_skip (by rfl) ?_
    simp only [Act.put, pu]
    refine pw_skip (by rfl) ?_
    simp only [Act.put, pu]
    refine pw_skip (by rfl) ?_
    simp only [Act.put, pu]
    refine pw_skip (by rfl) ?_
    simp only [Act.put, pu]
    refine pw_skip (by rfl) ?_
    simp only [Act.put, pu]
    refine pw_skip (by rfl) ?_
    simp only [Act.put, pu]
    refine pw_skip (by rfl) ?_
    simp only [Act.put, pu]
    refine pw_skip (by rfl) ?_
    simp only [Act.put, pu]
    refine pw_pick (by rfl) false (v := .bool false) rfl rfl rfl ?_
    simp only [Act.put, pu]
    refine pw_nil ?_
    (repeat ((fail_if_success with_reducible refine rg ?_); go_step))
    refine wp_region_pw ?_
    refine pw_mv (by rfl) rfl rfl ?_
    simp only [Act.put, pu]
    refine pw_value (by rfl) (.int .i64 (((j + 1 : Nat) : Int))) (x_addz _ _ _ _ rfl ((j : Nat)) (1) (((j + 1 : Nat) : Int)) rfl rfl (by omega) (by omega) (by omega)) ?_
    simp only [Act.put, pu]
    refine pw_as (by rfl) rfl rfl ?_
    simp only [Act.put, pu]
    refine pw_nil ?_
    go_wp2
    go_roundg y
    case measure => omega
    case rel => exact ⟨j + 1, by omega, by rw [HU.out, HD.out, rat_cons, if_neg (by rw [HX.out]; decide)], rfl, r8, sb⟩
   by_cases h20 : x.2.1 % 2 = o
   rotate_left
   ·have h0 := decide_eq_true h00
    have h1 := decide_eq_true h10
    have h2 := decide_eq_false h20
    have HX : Hid (kq k cl o x = false) := decide_eq_false fun e => h20 e.2.2
    clear h00 h10 h20
    (repeat ((fail_if_success with_reducible refine rg ?_); go_step))
    refine wp_region_pw ?_
    refine pw_mv (by rfl) rfl rfl ?_
    simp only [Act.put, pu]
    refine pw_mv (by rfl) rfl rfl ?_
    simp only [Act.put, pu]
    refine pw_value (by rfl) (.int .i64 (L.length : Nat)) (exec_len_s 22 _ rfl (some ⟨gb, ob, none⟩) (L.length) (c) rfl sl_rv) ?_
    simp only [Act.put, pu]
    refine pw_value (by rfl) (.bool true) (exec_lt_b _ _ _ _ rfl ((j : Nat)) ((L.length : Nat)) rfl rfl true (decide_eq_true (by omega))) ?_
    simp only [Act.put, pu]
    refine pw_nil ?_
    (repeat ((fail_if_success with_reducible refine rg ?_); go_step))
    refine wp_region_pw ?_
    refine pw_mv (by rfl) rfl rfl ?_
    simp only [Act.put, pu]
    refine pw_mv (by rfl) rfl rfl ?_
    simp only [Act.put, pu]
    refine pw_value (by rfl) (.pointer (some ⟨gb, ob + j * 4, none⟩)) ((exec_index_s 22 _ _ rfl gb ob (L.length) (c) rfl (j) rfl (hlt) _ Try.underlying22 4 Try.sizeOf34)) ?_
    simp only [Act.put, pu]
    refine pw_value (by rfl) (.pointer (some ⟨gb, ob + j * 4, none⟩)) (exec_field 34 _ 0 rfl gb (ob + j * 4) rfl _ Try.underlying34 _ rfl 0 Try.sizeOf3) ?_
    simp only [Act.put, pu]
    refine pw_loadk (by rfl) 3 _ rfl _ (ob + j * 4) rfl rB (.int .i64 x.1) hk Try.isAgg3 ?_
    simp only [Act.put, pu]
    refine pw_mv (by rfl) rfl rfl ?_
    simp only [Act.put, pu]
    refine pw_value (by rfl) (.bool true) (exec_eql_k .i64 _ _ _ _ rfl (x.1) (k) rfl rfl true (h0)) ?_
    simp only [Act.put, pu]
    refine pw_mv (by rfl) rfl rfl ?_
    simp only [Act.put, pu]
    refine pw_mv (by rfl) rfl rfl ?_
    simp only [Act.put, pu]
    refine pw_mv (by rfl) rfl rfl ?_
    simp only [Act.put, pu]
    refine pw_value (by rfl) (.pointer (some ⟨gb, ob + j * 4, none⟩)) ((exec_index_s 22 _ _ rfl gb ob (L.length) (c) rfl (j) rfl (hlt) _ Try.underlying22 4 Try.sizeOf34)) ?_
    simp only [Act.put, pu]
    refine pw_value (by rfl) (.pointer (some ⟨gb, ob + j * 4 + 1, none⟩)) (exec_field 34 _ 1 rfl gb (ob + j * 4) rfl _ Try.underlying34 _ rfl 1 Try.sizeOf32) ?_
    simp only [Act.put, pu]
    refine pw_value (by rfl) (.pointer (some ⟨gb, ob + j * 4 + 1 + 1, none⟩)) (exec_field 32 _ 1 rfl gb (ob + j * 4 + 1) rfl _ Try.underlying32 _ rfl 0 Try.sizeOf3) ?_
    simp only [Act.put, pu]
    refine pw_loadk (by rfl) 3 _ rfl _ (ob + j * 4 + 2) rfl rB (.int .i64 x.2.2.1) hcl Try.isAgg3 ?_
    simp only [Act.put, pu]
    refine pw_mv (by rfl) rfl rfl ?_
    simp only [Act.put, pu]
    refine pw_value (by rfl) (.bool true) (exec_eql_k .i64 _ _ _ _ rfl (x.2.2.1) (cl) rfl rfl true (h1)) ?_
    simp only [Act.put, pu]
    refine pw_pick (by rfl) true (v := .bool true) rfl rfl rfl ?_
    simp only [Act.put, pu]
    refine pw_mv (by rfl) rfl rfl ?_
    simp only [Act.put, pu]
    refine pw_mv (by rfl) rfl rfl ?_
    simp only [Act.put, pu]
    refine pw_mv (by rfl) rfl rfl ?_
    simp only [Act.put, pu]
    refine pw_value (by rfl) (.pointer (some ⟨gb, ob + j * 4, none⟩)) ((exec_index_s 22 _ _ rfl gb ob (L.length) (c) rfl (j) rfl (hlt) _ Try.underlying22 4 Try.sizeOf34)) ?_
    simp only [Act.put, pu]
    refine pw_value (by rfl) (.pointer (some ⟨gb, ob + j * 4 + 1, none⟩)) (exec_field 34 _ 1 rfl gb (ob + j * 4) rfl _ Try.underlying34 _ rfl 1 Try.sizeOf32) ?_
    simp only [Act.put, pu]
    refine pw_value (by rfl) (.pointer (some ⟨gb, ob + j * 4 + 1, none⟩)) (exec_field 32 _ 0 rfl gb (ob + j * 4 + 1) rfl _ Try.underlying32 _ rfl 0 Try.sizeOf3) ?_
    simp only [Act.put, pu]
    refine pw_loadk (by rfl) 3 _ rfl _ (ob + j * 4 + 1) rfl rB (.int .i64 x.2.1) hsq Try.isAgg3 ?_
    simp only [Act.put, pu]
    refine pw_value (by rfl) (.int .i64 (x.2.1 % 2)) (x_par _ _ _ rfl (x.2.1) rfl rfl) ?_
    simp only [Act.put, pu]
    refine pw_mv (by rfl) rfl rfl ?_
    simp only [Act.put, pu]
    refine pw_value (by rfl) (.bool false) (exec_eql_k .i64 _ _ _ _ rfl (x.2.1 % 2) (o) rfl rfl false (h2)) ?_
    simp only [Act.put, pu]
    refine pw_pick (by rfl) true (v := .bool false) rfl rfl rfl ?_
    simp only [Act.put, pu]
    refine pw_nil ?_
    (repeat ((fail_if_success with_reducible refine rg ?_); go_step))
    refine wp_region_pw ?_
    refine pw_mv (by rfl) rfl rfl ?_
    simp only [Act.put, pu]
    refine pw_value (by rfl) (.int .i64 (((j + 1 : Nat) : Int))) (x_addz _ _ _ _ rfl ((j : Nat)) (1) (((j + 1 : Nat) : Int)) rfl rfl (by omega) (by omega) (by omega)) ?_
    simp only [Act.put, pu]
    refine pw_as (by rfl) rfl rfl ?_
    simp only [Act.put, pu]
    refine pw_nil ?_
    go_wp2
    go_roundg y
    case measure => omega
    case rel => exact ⟨j + 1, by omega, by rw [HU.out, HD.out, rat_cons, if_neg (by rw [HX.out]; decide)], rfl, r8, sb⟩
   have h0 := decide_eq_true h00
   have h1 := decide_eq_true h10
   have h2 := decide_eq_true h20
   have HX : Hid (kq k cl o x = true) := decide_eq_true ⟨h00, h10, h20⟩
   clear h00 h10 h20
   (repeat ((fail_if_success with_reducible refine rg ?_); go_step))
   refine wp_region_pw ?_
   refine pw_mv (by rfl) rfl rfl ?_
   simp only [Act.put, pu]
   refine pw_mv (by rfl) rfl rfl ?_
   simp only [Act.put, pu]
   refine pw_value (by rfl) (.int .i64 (L.length : Nat)) (exec_len_s 22 _ rfl (some ⟨gb, ob, none⟩) (L.length) (c) rfl sl_rv) ?_
   simp only [Act.put, pu]
   refine pw_value (by rfl) (.bool true) (exec_lt_b _ _ _ _ rfl ((j : Nat)) ((L.length : Nat)) rfl rfl true (decide_eq_true (by omega))) ?_
   simp only [Act.put, pu]
   refine pw_nil ?_
   (repeat ((fail_if_success with_reducible refine rg ?_); go_step))
   refine wp_region_pw ?_
   refine pw_mv (by rfl) rfl rfl ?_
   simp only [Act.put, pu]
   refine pw_mv (by rfl) rfl rfl ?_
   simp only [Act.put, pu]
   refine pw_value (by rfl) (.pointer (some ⟨gb, ob + j * 4, none⟩)) ((exec_index_s 22 _ _ rfl gb ob (L.length) (c) rfl (j) rfl (hlt) _ Try.underlying22 4 Try.sizeOf34)) ?_
   simp only [Act.put, pu]
   refine pw_value (by rfl) (.pointer (some ⟨gb, ob + j * 4, none⟩)) (exec_field 34 _ 0 rfl gb (ob + j * 4) rfl _ Try.underlying34 _ rfl 0 Try.sizeOf3) ?_
   simp only [Act.put, pu]
   refine pw_loadk (by rfl) 3 _ rfl _ (ob + j * 4) rfl rB (.int .i64 x.1) hk Try.isAgg3 ?_
   simp only [Act.put, pu]
   refine pw_mv (by rfl) rfl rfl ?_
   simp only [Act.put, pu]
   refine pw_value (by rfl) (.bool true) (exec_eql_k .i64 _ _ _ _ rfl (x.1) (k) rfl rfl true (h0)) ?_
   simp only [Act.put, pu]
   refine pw_mv (by rfl) rfl rfl ?_
   simp only [Act.put, pu]
   refine pw_mv (by rfl) rfl rfl ?_
   simp only [Act.put, pu]
   refine pw_mv (by rfl) rfl rfl ?_
   simp only [Act.put, pu]
   refine pw_value (by rfl) (.pointer (some ⟨gb, ob + j * 4, none⟩)) ((exec_index_s 22 _ _ rfl gb ob (L.length) (c) rfl (j) rfl (hlt) _ Try.underlying22 4 Try.sizeOf34)) ?_
   simp only [Act.put, pu]
   refine pw_value (by rfl) (.pointer (some ⟨gb, ob + j * 4 + 1, none⟩)) (exec_field 34 _ 1 rfl gb (ob + j * 4) rfl _ Try.underlying34 _ rfl 1 Try.sizeOf32) ?_
   simp only [Act.put, pu]
   refine pw_value (by rfl) (.pointer (some ⟨gb, ob + j * 4 + 1 + 1, none⟩)) (exec_field 32 _ 1 rfl gb (ob + j * 4 + 1) rfl _ Try.underlying32 _ rfl 0 Try.sizeOf3) ?_
   simp only [Act.put, pu]
   refine pw_loadk (by rfl) 3 _ rfl _ (ob + j * 4 + 2) rfl rB (.int .i64 x.2.2.1) hcl Try.isAgg3 ?_
   simp only [Act.put, pu]
   refine pw_mv (by rfl) rfl rfl ?_
   simp only [Act.put, pu]
   refine pw_value (by rfl) (.bool true) (exec_eql_k .i64 _ _ _ _ rfl (x.2.2.1) (cl) rfl rfl true (h1)) ?_
   simp only [Act.put, pu]
   refine pw_pick (by rfl) true (v := .bool true) rfl rfl rfl ?_
   simp only [Act.put, pu]
   refine pw_mv (by rfl) rfl rfl ?_
   simp only [Act.put, pu]
   refine pw_mv (by rfl) rfl rfl ?_
   simp only [Act.put, pu]
   refine pw_mv (by rfl) rfl rfl ?_
   simp only [Act.put, pu]
   refine pw_value (by rfl) (.pointer (some ⟨gb, ob + j * 4, none⟩)) ((exec_index_s 22 _ _ rfl gb ob (L.length) (c) rfl (j) rfl (hlt) _ Try.underlying22 4 Try.sizeOf34)) ?_
   simp only [Act.put, pu]
   refine pw_value (by rfl) (.pointer (some ⟨gb, ob + j * 4 + 1, none⟩)) (exec_field 34 _ 1 rfl gb (ob + j * 4) rfl _ Try.underlying34 _ rfl 1 Try.sizeOf32) ?_
   simp only [Act.put, pu]
   refine pw_value (by rfl) (.pointer (some ⟨gb, ob + j * 4 + 1, none⟩)) (exec_field 32 _ 0 rfl gb (ob + j * 4 + 1) rfl _ Try.underlying32 _ rfl 0 Try.sizeOf3) ?_
   simp only [Act.put, pu]
   refine pw_loadk (by rfl) 3 _ rfl _ (ob + j * 4 + 1) rfl rB (.int .i64 x.2.1) hsq Try.isAgg3 ?_
   simp only [Act.put, pu]
   refine pw_value (by rfl) (.int .i64 (x.2.1 % 2)) (x_par _ _ _ rfl (x.2.1) rfl rfl) ?_
   simp only [Act.put, pu]
   refine pw_mv (by rfl) rfl rfl ?_
   simp only [Act.put, pu]
   refine pw_value (by rfl) (.bool true) (exec_eql_k .i64 _ _ _ _ rfl (x.2.1 % 2) (o) rfl rfl true (h2)) ?_
   simp only [Act.put, pu]
   refine pw_pick (by rfl) true (v := .bool true) rfl rfl rfl ?_
   simp only [Act.put, pu]
   refine pw_nil ?_
   obtain h9 | ⟨_, rW, _⟩ := HB.out.at'
   ·exact absurd h9 (by omega)
   have hgw := rW.lt
   clear rW
   have HE : Hid (R = x.2) := by have h := HU.out; rw [HD.out, rat_cons, if_pos HX.out] at h; exact h
   (repeat ((fail_if_success with_reducible refine rg ?_); go_step))
   apply wp_region_mix (by kernel_rfl) [(g8, 32, tsC 0 0)] [_, _, _, _, _, _, _, _, _, _, _, _] ⟨r8, trivial⟩ (by simp <;> omega)
   ·intro p
    refine mx_move rfl rfl ?_
    simp only [Act.put, pu]
    refine mx_move rfl rfl ?_
    simp only [Act.put, pu]
    refine mx_val (.pointer (some ⟨gb, ob + j * 4, none⟩)) ((exec_index_s 22 _ _ rfl gb ob (L.length) (c) rfl (j) rfl (hlt) _ Try.underlying22 4 Try.sizeOf34)) ?_
    simp only [Act.put, pu]
    refine mx_val (.pointer (some ⟨gb, ob + j * 4 + 1, none⟩)) (exec_field 34 _ 1 rfl gb (ob + j * 4) rfl _ Try.underlying34 _ rfl 1 Try.sizeOf32) ?_
    simp only [Act.put, pu]
    refine mx_loadmR 32 _ rfl _ (ob + j * 4 + 1) rfl rB (by simp <;> omega) ((tsC x.2.1 x.2.2.1)) hst _ Try.underlying32 rfl size_st ?_
    simp only [Act.put, pu]
    refine mx_move rfl rfl ?_
    simp only [Act.put, pu]
    refine mx_move rfl rfl ?_
    simp only [Act.put, pu]
    refine mx_val (.pointer (some ⟨gb, ob + j * 4, none⟩)) ((exec_index_s 22 _ _ rfl gb ob (L.length) (c) rfl (j) rfl (hlt) _ Try.underlying22 4 Try.sizeOf34)) ?_
    simp only [Act.put, pu]
    refine mx_val (.pointer (some ⟨gb, ob + j * 4 + 3, none⟩)) (exec_field 34 _ 2 rfl gb (ob + j * 4) rfl _ Try.underlying34 _ rfl 0 Try.sizeOf9) ?_
    simp only [Act.put, pu]
    refine mx_loadcR 9 _ rfl _ (ob + j * 4 + 3) rfl rB (by simp <;> omega) (.string ⟨x.2.2.2.toArray⟩) hdg Try.isAgg9 ?_
    simp only [Act.put, pu]
    refine mx_put 0 32 _ _ rfl rfl rfl (tsC x.2.1 x.2.2.1) rfl (by exact size_st) (by rfl) (st_one _ _) ?_
    simp only [Act.put]
    refine mx_asg rfl rfl ?_
    simp only [Act.put, pu]
    refine mx_end ?_
    intro w7 hkw hrw hnew hdis
    have zr8 : Row w7 (g8) (tsC x.2.1 x.2.2.1) 32 := hrw 0 (32, tsC x.2.1 x.2.2.1) rfl
    replace sb := sb.trans (hkw.below w.heap.size sb.size (by simp <;> omega))
    clear hkw hrw hnew hdis r8
    have r8 := zr8
    clear zr8
    go_wp2
    exact ret_rowE rfl _ rfl r8 _ Try.underlying32 size_st rfl _ rfl ⟨by rw [HE.out]; rfl, sb⟩
   ·kernel_rfl
end Go.Proofs.Ytdbcikhineghcaa
