/- A slice of texts that came in as an argument; the document's Few. -/
import Derived.Test.YtililfgbboecmaaDoorSLaid
import Derived.Test.YtililfgbboecmaaDoorSPad
import Derived.Laws.Concat
namespace Go.Proofs.YtililfgbboecmaaDoor
open Go.ChangeShapes Go.WideShapes Go.ChangeAt Go.RowKit
set_option linter.unusedVariables false

/-- The texts that a slice holds. -/
structure StrsAt (w : World) (ab : Option Addr) (n : Nat) (S : Nat → List UInt8) (gb ob : Nat) (bcs : Array Value) (tb : TypeId) : Prop where
  out : n = 0 ∨ (ab = some ⟨gb, ob, none⟩ ∧ RowR w gb bcs tb ∧ ∀ i, i < n → bcs[ob + i]? = some (.string ⟨(S i).toArray⟩))
  lt : ∀ i, i < n → (S i).length ≤ maxLen
theorem StrsAt.below {w w2 : World} {ab : Option Addr} {n : Nat} {S : Nat → List UInt8} {gb ob : Nat} {bcs : Array Value} {tb : TypeId} (h : StrsAt w ab n S gb ob bcs tb) (hb : Below w.heap.size w w2) : StrsAt w2 ab n S gb ob bcs tb :=
  ⟨h.out.imp id fun ⟨h1, h2, h3⟩ => ⟨h1, h2.belowAll hb, h3⟩, h.lt⟩
theorem cells_str : Tryd.prog.cellsOf 9 = 1 := by kernel_rfl
theorem open_strs {H : Type} {enc : TypeId × Value → H} {W : World} {base : Nat} {v0 : Value} {d0 : DataW H} {p0 : List MemPlace}
    (hv : Value.okWide Tryd.prog W .any base 25 v0) (h0 : DataW.Trod enc Tryd.prog W 0 (fun _ => true) true 25 v0 d0 p0) :
    ∃ ab n c, v0 = .slice ab n c ∧ n ≤ maxLen ∧ ∃ S gb ob bcs tb, StrsAt W ab n S gb ob bcs tb := by
  obtain ⟨ab, n, c, rfl, hnc, hcm, hrow⟩ := open_row (k := 1) (by decide) Tryd.underlying25 cells_str hv h0
  refine ⟨ab, n, c, rfl, Nat.le_trans hnc hcm, ?_⟩
  rcases hrow with rfl | ⟨gb, ob, bcs, tb, rfl, hR, hel⟩
  · exact ⟨fun _ => [], 0, 0, #[], 0, .inl rfl, fun i hi => by omega⟩
  · have hs : ∀ i, i < n → ∃ s : List UInt8, bcs[ob + i]? = some (.string ⟨s.toArray⟩) ∧ s.length ≤ maxLen := by
      intro i hi
      obtain ⟨l, m, x, hl, hc, hd⟩ := hel i hi
      obtain ⟨⟨⟨s⟩⟩, rfl, _, hsz⟩ := DataW.trod_string Tryd.underlying9 hd
      refine ⟨s, ?_, by simpa [ByteArray.size] using hsz⟩
      have := hc 0 _ rfl
      rw [Nat.mul_one, Nat.add_zero] at this
      exact this
    refine ⟨fun i => if h : i < n then Classical.choose (hs i h) else [], gb, ob, bcs, tb, .inr ⟨rfl, hR, fun i hi => ?_⟩, fun i hi => ?_⟩
    · rw [dif_pos hi]; exact (Classical.choose_spec (hs i hi)).1
    · rw [dif_pos hi]; exact (Classical.choose_spec (hs i hi)).2
theorem x_le {P : Program} {o : Oper} {ρ : Operand → Value} (t : TypeId) (x y : Operand) (u : TypeId) (ho : o.op = .binOp .leq t x y u) (n m : Int) (hx : ρ x = .int .i64 n) (hy : ρ y = .int .i64 m) (b : Bool) (hb : decide (n ≤ m) = b) (w : World) :
    (execOp ρ o).run P w = .ok (.value (.bool b)) w := by
  subst hb
  unfold execOp
  simp only [ho, hx, hy]
  simp [go_sem]
theorem x_cat {P : Program} {o : Oper} {ρ : Operand → Value} (t : TypeId) (x y : Operand) (u : TypeId) (ho : o.op = .binOp .add t x y u) (a b : List UInt8) (hx : ρ x = .string ⟨a.toArray⟩) (hy : ρ y = .string ⟨b.toArray⟩) (h : a.length + b.length ≤ 9223372036854775807) (w : World) :
    (execOp ρ o).run P w = .ok (.value (.string ⟨(a ++ b).toArray⟩)) w := by
  have hr := run_string_add_sum (P := P) w ⟨a.toArray⟩ ⟨b.toArray⟩ (by simpa [ByteArray.size] using h)
  rw [ByteArray.mk_append_mk] at hr
  unfold execOp
  simp only [ho, hx, hy]
  simp [eqGuard, binOp, hr]
theorem size_str1 (w : World) : (sizeOf 9).run Tryd.prog w = .ok 1 w := Tryd.sizeOf9 w
set_option maxRecDepth 100000 in
set_option maxHeartbeats 2000000 in
theorem few_any (ab : Option Addr) (n cb : Nat) (S : Nat → List UInt8) (gb ob : Nat) (bcs : Array Value) (tb : TypeId) (w : World) (hn : n ≤ maxLen) (hS0 : StrsAt w ab n S gb ob bcs tb) :
    Calls Tryd.prog 10 #[.slice ab n cb, .int .i64 20, .int .i64 256] w fun e w' => ∃ b : Bool, e = .returned (.bool b) ∧ (b = true → n ≤ 20 ∧ ∀ i, i < n → (S i).length ≤ 256) ∧ Below w.heap.size w w' := by
  have HS : Hid (StrsAt w ab n S gb ob bcs tb) := hS0
  have HM : Hid (n ≤ 9223372036854775807) := hn
  clear hS0 hn
  go_enter Tryd.func10, Tryd.ntmps10
  go_wp2_with fail
  go_loopg [7] (min n 20) (fun g s7 wr => ∃ i : Nat, i + g = min n 20 ∧ s7 = .int .i64 i ∧ (∀ j, j < i → (S j).length ≤ 256) ∧ Below w.heap.size w wr)
  case atStart => exact ⟨0, by omega, rfl, fun j hj => by omega, Below.refl _ _⟩
  case round =>
    obtain ⟨i, hi, rfl, hall, sb⟩ := hrel
    have hm := HM.out
    cases gk with
    | zero =>
      by_cases h20 : n ≤ 20
      · obtain rfl : i = n := by omega
        (repeat ((fail_if_success (with_reducible show Code.wp _ (Code.region _ _ _) _ _ _)); go_step))
        refine wp_region_qp ?_
        refine qw_move (by rfl) rfl rfl ?_
        simp only [Act.put, pb, pc, pd]
        refine qw_move (by rfl) rfl rfl ?_
        simp only [Act.put, pb, pc, pd]
        refine qw_value (by rfl) (.int .i64 (i : Nat)) (x_lenL _ _ rfl _ _ _ rfl Tryd.underlying25) ?_
        simp only [Act.put, pb, pc, pd]
        refine qw_value (by rfl) (.bool false) (x_lt _ _ _ _ rfl i i rfl rfl false (decide_eq_false (by omega))) ?_
        simp only [Act.put, pb, pc, pd]
        refine qw_move (by rfl) rfl rfl ?_
        simp only [Act.put, pb, pc, pd]
        refine qw_skip (by rfl) ?_
        simp only [Act.put, pb, pc, pd]
        refine qw_skip (by rfl) ?_
        simp only [Act.put, pb, pc, pd]
        refine qw_skip (by rfl) ?_
        simp only [Act.put, pb, pc, pd]
        refine qw_pick false (v := .bool false) (by rfl) rfl rfl rfl ?_
        simp only [Act.put, pb, pc, pd]
        refine qw_nil ?_
        intro w4 hqb
        replace sb := below_on sb (Nat.le_refl _) hqb
        clear hqb
        (repeat ((fail_if_success (with_reducible show Code.wp _ (Code.region _ _ _) _ _ _)); go_step))
        refine wp_region_qp ?_
        refine qw_move (by rfl) rfl rfl ?_
        simp only [Act.put, pb, pc, pd]
        refine qw_value (by rfl) (.int .i64 (i : Nat)) (x_lenL _ _ rfl _ _ _ rfl Tryd.underlying25) ?_
        simp only [Act.put, pb, pc, pd]
        refine qw_move (by rfl) rfl rfl ?_
        simp only [Act.put, pb, pc, pd]
        refine qw_value (by rfl) (.bool true) (x_le _ _ _ _ rfl i 20 rfl rfl true (decide_eq_true (by omega))) ?_
        simp only [Act.put, pb, pc, pd]
        refine qw_asg (by rfl) rfl rfl ?_
        simp only [Act.put, pb, pc, pd]
        refine qw_nil ?_
        intro w6 hqb
        replace sb := below_on sb (Nat.le_refl _) hqb
        clear hqb
        go_wp2
        go_ret
        exact ⟨true, rfl, fun _ => ⟨h20, hall⟩, sb⟩
      · (repeat ((fail_if_success (with_reducible show Code.wp _ (Code.region _ _ _) _ _ _)); go_step))
        refine wp_region_qp ?_
        refine qw_move (by rfl) rfl rfl ?_
        simp only [Act.put, pb, pc, pd]
        refine qw_move (by rfl) rfl rfl ?_
        simp only [Act.put, pb, pc, pd]
        refine qw_value (by rfl) (.int .i64 (n : Nat)) (x_lenL _ _ rfl _ _ _ rfl Tryd.underlying25) ?_
        simp only [Act.put, pb, pc, pd]
        refine qw_value (by rfl) (.bool true) (x_lt _ _ _ _ rfl i n rfl rfl true (decide_eq_true (by omega))) ?_
        simp only [Act.put, pb, pc, pd]
        refine qw_move (by rfl) rfl rfl ?_
        simp only [Act.put, pb, pc, pd]
        refine qw_move (by rfl) rfl rfl ?_
        simp only [Act.put, pb, pc, pd]
        refine qw_move (by rfl) rfl rfl ?_
        simp only [Act.put, pb, pc, pd]
        refine qw_value (by rfl) (.bool false) (x_lt _ _ _ _ rfl i 20 rfl rfl false (decide_eq_false (by omega))) ?_
        simp only [Act.put, pb, pc, pd]
        refine qw_pick true (v := .bool false) (by rfl) rfl rfl rfl ?_
        simp only [Act.put, pb, pc, pd]
        refine qw_nil ?_
        intro w4 hqb
        replace sb := below_on sb (Nat.le_refl _) hqb
        clear hqb
        (repeat ((fail_if_success (with_reducible show Code.wp _ (Code.region _ _ _) _ _ _)); go_step))
        refine wp_region_qp ?_
        refine qw_move (by rfl) rfl rfl ?_
        simp only [Act.put, pb, pc, pd]
        refine qw_value (by rfl) (.int .i64 (n : Nat)) (x_lenL _ _ rfl _ _ _ rfl Tryd.underlying25) ?_
        simp only [Act.put, pb, pc, pd]
        refine qw_move (by rfl) rfl rfl ?_
        simp only [Act.put, pb, pc, pd]
        refine qw_value (by rfl) (.bool false) (x_le _ _ _ _ rfl n 20 rfl rfl false (decide_eq_false (by omega))) ?_
        simp only [Act.put, pb, pc, pd]
        refine qw_asg (by rfl) rfl rfl ?_
        simp only [Act.put, pb, pc, pd]
        refine qw_nil ?_
        intro w6 hqb
        replace sb := below_on sb (Nat.le_refl _) hqb
        clear hqb
        go_wp2
        go_ret
        exact ⟨false, rfl, fun h => (by cases h), sb⟩
    | succ g =>
      have hin : i < n := by omega
      obtain h0 | ⟨rfl, rB, hat⟩ := (HS.out.below sb).out
      · omega
      have hsl := HS.out.lt i hin
      have hszi : (⟨(S i).toArray⟩ : ByteArray).size = (S i).length := by simp [ByteArray.size]
      (repeat ((fail_if_success (with_reducible show Code.wp _ (Code.region _ _ _) _ _ _)); go_step))
      refine wp_region_qp ?_
      refine qw_move (by rfl) rfl rfl ?_
      simp only [Act.put, pb, pc, pd]
      refine qw_move (by rfl) rfl rfl ?_
      simp only [Act.put, pb, pc, pd]
      refine qw_value (by rfl) (.int .i64 (n : Nat)) (x_lenL _ _ rfl _ _ _ rfl Tryd.underlying25) ?_
      simp only [Act.put, pb, pc, pd]
      refine qw_value (by rfl) (.bool true) (x_lt _ _ _ _ rfl i n rfl rfl true (decide_eq_true (by omega))) ?_
      simp only [Act.put, pb, pc, pd]
      refine qw_move (by rfl) rfl rfl ?_
      simp only [Act.put, pb, pc, pd]
      refine qw_move (by rfl) rfl rfl ?_
      simp only [Act.put, pb, pc, pd]
      refine qw_move (by rfl) rfl rfl ?_
      simp only [Act.put, pb, pc, pd]
      refine qw_value (by rfl) (.bool true) (x_lt _ _ _ _ rfl i 20 rfl rfl true (decide_eq_true (by omega))) ?_
      simp only [Act.put, pb, pc, pd]
      refine qw_pick true (v := .bool true) (by rfl) rfl rfl rfl ?_
      simp only [Act.put, pb, pc, pd]
      refine qw_nil ?_
      intro w4 hqb
      replace rB := rB.belowAll hqb
      replace sb := below_on sb (Nat.le_refl _) hqb
      clear hqb
      by_cases hlen : 256 < (S i).length
      · (repeat ((fail_if_success (with_reducible show Code.wp _ (Code.region _ _ _) _ _ _)); go_step))
        refine wp_region_qp ?_
        refine qw_move (by rfl) rfl rfl ?_
        simp only [Act.put, pb, pc, pd]
        refine qw_move (by rfl) rfl rfl ?_
        simp only [Act.put, pb, pc, pd]
        refine qw_value (by rfl) (.pointer (some ⟨gb, ob + i, none⟩)) (x_idxS _ _ _ rfl gb ob n cb rfl i rfl hin _ Tryd.underlying25 Tryd.sizeOf9 _ rfl) ?_
        simp only [Act.put, pb, pc, pd]
        refine qw_loadcR (by rfl) 9 _ rfl _ (ob + i) rfl rB (.string ⟨(S i).toArray⟩) (hat i hin) Tryd.isAgg9 ?_
        simp only [Act.put, pb, pc, pd]
        refine qw_value (by rfl) (.int .i64 ((S i).length : Nat)) (fun w' => (x_lenS _ _ rfl ⟨(S i).toArray⟩ rfl Tryd.underlying9 w').trans (by rw [hszi])) ?_
        simp only [Act.put, pb, pc, pd]
        refine qw_move (by rfl) rfl rfl ?_
        simp only [Act.put, pb, pc, pd]
        refine qw_value (by rfl) (.bool true) (x_gt _ _ _ _ rfl (S i).length 256 rfl rfl true (decide_eq_true (by omega))) ?_
        simp only [Act.put, pb, pc, pd]
        refine qw_nil ?_
        intro w5 hqb
        replace sb := below_on sb (Nat.le_refl _) hqb
        clear hqb
        go_wp2
        go_ret
        exact ⟨false, rfl, fun h => (by cases h), sb⟩
      · (repeat ((fail_if_success (with_reducible show Code.wp _ (Code.region _ _ _) _ _ _)); go_step))
        refine wp_region_qp ?_
        refine qw_move (by rfl) rfl rfl ?_
        simp only [Act.put, pb, pc, pd]
        refine qw_move (by rfl) rfl rfl ?_
        simp only [Act.put, pb, pc, pd]
        refine qw_value (by rfl) (.pointer (some ⟨gb, ob + i, none⟩)) (x_idxS _ _ _ rfl gb ob n cb rfl i rfl hin _ Tryd.underlying25 Tryd.sizeOf9 _ rfl) ?_
        simp only [Act.put, pb, pc, pd]
        refine qw_loadcR (by rfl) 9 _ rfl _ (ob + i) rfl rB (.string ⟨(S i).toArray⟩) (hat i hin) Tryd.isAgg9 ?_
        simp only [Act.put, pb, pc, pd]
        refine qw_value (by rfl) (.int .i64 ((S i).length : Nat)) (fun w' => (x_lenS _ _ rfl ⟨(S i).toArray⟩ rfl Tryd.underlying9 w').trans (by rw [hszi])) ?_
        simp only [Act.put, pb, pc, pd]
        refine qw_move (by rfl) rfl rfl ?_
        simp only [Act.put, pb, pc, pd]
        refine qw_value (by rfl) (.bool false) (x_gt _ _ _ _ rfl (S i).length 256 rfl rfl false (decide_eq_false (by omega))) ?_
        simp only [Act.put, pb, pc, pd]
        refine qw_nil ?_
        intro w5 hqb
        replace sb := below_on sb (Nat.le_refl _) hqb
        clear hqb
        (repeat ((fail_if_success (with_reducible show Code.wp _ (Code.region _ _ _) _ _ _)); go_step))
        refine wp_region_qp ?_
        refine qw_move (by rfl) rfl rfl ?_
        simp only [Act.put, pb, pc, pd]
        refine qw_value (by rfl) (.int .i64 (i + 1 : Nat)) (xi_add _ _ _ _ rfl i 1 rfl rfl (by omega)) ?_
        simp only [Act.put, pb, pc, pd]
        refine qw_asg (by rfl) rfl rfl ?_
        simp only [Act.put, pb, pc, pd]
        refine qw_nil ?_
        intro w6 hqb
        replace sb := below_on sb (Nat.le_refl _) hqb
        clear hqb
        clear hszi hin
        go_wp2
        go_roundg g
        case measure => omega
        case rel =>
          exact ⟨i + 1, by omega, rfl, fun j hj => by
            by_cases e : j = i
            · subst e; omega
            · exact hall j (by omega), sb⟩
end Go.Proofs.YtililfgbboecmaaDoor
