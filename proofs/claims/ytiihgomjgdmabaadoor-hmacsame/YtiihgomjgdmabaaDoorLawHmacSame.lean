/- The law HmacSame of layer 6 holds for every input: hmac.Same tells whether two texts are the same, and noughts behind a short key lead to the same tag. No condition (the constants are tied to the program's text). -/
import Derived.Test.YtiihgomjgdmabaaDoorSLaid
import Derived.Test.YtiihgomjgdmabaaDoorHAwake
namespace Go.Proofs.YtiihgomjgdmabaaDoor.hmacSameP
open Go.ChangeShapes Go.WideShapes Go.ChangeAt Go.RowKit
open Go.ChangeMaps (open_string shut_string)
set_option linter.unusedVariables false

theorem x_eqSd {P : Program} {o : Oper} {ρ : Operand → Value} (t : TypeId) (x y : Operand) (u : TypeId) (ho : o.op = .binOp .eql t x y u) (a b : List UInt8) (hx : ρ x = .string ⟨a.toArray⟩) (hy : ρ y = .string ⟨b.toArray⟩) (w : World) :
    (execOp ρ o).run P w = .ok (.value (.bool (decide (a = b)))) w := by
  unfold execOp
  simp only [ho, hx, hy]
  simp [eqGuard, go_sem]
  by_cases h : a = b
  · subst h; simp
  · rw [decide_eq_false h]; exact beq_eq_false_iff_ne.2 h
set_option maxRecDepth 100000 in
set_option maxHeartbeats 2000000 in
theorem long1 (k s : List UInt8) (w : World) (kT : KT w) (hk : 512 < k.length) :
    Calls Tryd.prog 5 #[.string ⟨k.toArray⟩, .string ⟨s.toArray⟩] w fun e w' => e = .returned (.bool true) ∧ Below w.heap.size w w' := by
  have hsz_k : (⟨k.toArray⟩ : ByteArray).size = k.length := by simp [ByteArray.size]
  have hsz_s : (⟨s.toArray⟩ : ByteArray).size = s.length := by simp [ByteArray.size]
  go_enter Tryd.func5, Tryd.ntmps5
  (repeat ((fail_if_success (with_reducible show Code.wp _ (Code.region _ _ _) _ _ _)); go_step))
  apply wp_region_mixp [] [_] trivial List.nodup_nil
  · intro p
    refine mx_val (.bool false) (fun _ => rfl) ?_
    simp only [Act.put, pb, pc, pd]
    refine mx_end ?_
    intro w2 hkw hrw hnew hdis
    have sb := hkw.below w.heap.size (Nat.le_refl _) (by simp)
    clear hkw hrw hnew hdis
    (repeat ((fail_if_success (with_reducible show Code.wp _ (Code.region _ _ _) _ _ _)); go_step))
    refine wp_region_qp ?_
    refine qw_move (by rfl) rfl rfl ?_
    simp only [Act.put, pb, pc, pd]
    refine qw_value (by rfl) (.int .i64 (k.length : Nat)) (fun w' => (x_lenS _ _ rfl ⟨k.toArray⟩ rfl Tryd.underlying9 w').trans (by rw [hsz_k])) ?_
    simp only [Act.put, pb, pc, pd]
    refine qw_value (by rfl) (.bool true) (x_gt _ _ _ _ rfl k.length 512 rfl rfl true (decide_eq_true (by omega))) ?_
    simp only [Act.put, pb, pc, pd]
    refine qw_move (by rfl) rfl rfl ?_
    simp only [Act.put, pb, pc, pd]
    refine qw_skip (by rfl) ?_
    simp only [Act.put, pb, pc, pd]
    refine qw_skip (by rfl) ?_
    simp only [Act.put, pb, pc, pd]
    refine qw_skip (by rfl) ?_
    simp only [Act.put, pb, pc, pd]
    refine qw_pick true (v := .bool true) (by rfl) rfl rfl rfl ?_
    simp only [Act.put, pb, pc, pd]
    refine qw_nil ?_
    intro w3 hqb
    replace sb := below_on sb (Nat.le_refl _) hqb
    clear hqb
    replace kT := kT.below sb
    (repeat ((fail_if_success (with_reducible show Code.wp _ (Code.region _ _ _) _ _ _)); go_step))
    refine wp_region_qp ?_
    refine qw_callK (by rfl) 6 _ _ rfl Tryd.func6 (by kernel_rfl) #[] rfl _ (fun w' hb => awake6_any w' (kT.below hb)) ?_
    simp only [Act.put, pb, pc, pd]
    refine qw_asg (by rfl) rfl rfl ?_
    simp only [Act.put, pb, pc, pd]
    refine qw_nil ?_
    intro w4 hqb
    replace sb := below_on sb (Nat.le_refl _) hqb
    clear hqb
    go_wp2
    go_ret
    exact ⟨rfl, sb⟩
  · rfl
set_option maxRecDepth 100000 in
set_option maxHeartbeats 2000000 in
theorem long2 (k s : List UInt8) (w : World) (kT : KT w) (hk : k.length ≤ 512) (hs : 512 < s.length) :
    Calls Tryd.prog 5 #[.string ⟨k.toArray⟩, .string ⟨s.toArray⟩] w fun e w' => e = .returned (.bool true) ∧ Below w.heap.size w w' := by
  have hsz_k : (⟨k.toArray⟩ : ByteArray).size = k.length := by simp [ByteArray.size]
  have hsz_s : (⟨s.toArray⟩ : ByteArray).size = s.length := by simp [ByteArray.size]
  go_enter Tryd.func5, Tryd.ntmps5
  (repeat ((fail_if_success (with_reducible show Code.wp _ (Code.region _ _ _) _ _ _)); go_step))
  apply wp_region_mixp [] [_] trivial List.nodup_nil
  · intro p
    refine mx_val (.bool false) (fun _ => rfl) ?_
    simp only [Act.put, pb, pc, pd]
    refine mx_end ?_
    intro w2 hkw hrw hnew hdis
    have sb := hkw.below w.heap.size (Nat.le_refl _) (by simp)
    clear hkw hrw hnew hdis
    (repeat ((fail_if_success (with_reducible show Code.wp _ (Code.region _ _ _) _ _ _)); go_step))
    refine wp_region_qp ?_
    refine qw_move (by rfl) rfl rfl ?_
    simp only [Act.put, pb, pc, pd]
    refine qw_value (by rfl) (.int .i64 (k.length : Nat)) (fun w' => (x_lenS _ _ rfl ⟨k.toArray⟩ rfl Tryd.underlying9 w').trans (by rw [hsz_k])) ?_
    simp only [Act.put, pb, pc, pd]
    refine qw_value (by rfl) (.bool false) (x_gt _ _ _ _ rfl k.length 512 rfl rfl false (decide_eq_false (by omega))) ?_
    simp only [Act.put, pb, pc, pd]
    refine qw_move (by rfl) rfl rfl ?_
    simp only [Act.put, pb, pc, pd]
    refine qw_move (by rfl) rfl rfl ?_
    simp only [Act.put, pb, pc, pd]
    refine qw_value (by rfl) (.int .i64 (s.length : Nat)) (fun w' => (x_lenS _ _ rfl ⟨s.toArray⟩ rfl Tryd.underlying9 w').trans (by rw [hsz_s])) ?_
    simp only [Act.put, pb, pc, pd]
    refine qw_value (by rfl) (.bool true) (x_gt _ _ _ _ rfl s.length 512 rfl rfl true (decide_eq_true (by omega))) ?_
    simp only [Act.put, pb, pc, pd]
    refine qw_pick false (v := .bool true) (by rfl) rfl rfl rfl ?_
    simp only [Act.put, pb, pc, pd]
    refine qw_nil ?_
    intro w3 hqb
    replace sb := below_on sb (Nat.le_refl _) hqb
    clear hqb
    replace kT := kT.below sb
    (repeat ((fail_if_success (with_reducible show Code.wp _ (Code.region _ _ _) _ _ _)); go_step))
    refine wp_region_qp ?_
    refine qw_callK (by rfl) 6 _ _ rfl Tryd.func6 (by kernel_rfl) #[] rfl _ (fun w' hb => awake6_any w' (kT.below hb)) ?_
    simp only [Act.put, pb, pc, pd]
    refine qw_asg (by rfl) rfl rfl ?_
    simp only [Act.put, pb, pc, pd]
    refine qw_nil ?_
    intro w4 hqb
    replace sb := below_on sb (Nat.le_refl _) hqb
    clear hqb
    go_wp2
    go_ret
    exact ⟨rfl, sb⟩
  · rfl
set_option maxRecDepth 100000 in
set_option maxHeartbeats 2000000 in
theorem short (k s : List UInt8) (w : World) (kT : KT w) (hk : k.length ≤ 512) (hs : s.length ≤ 512) :
    Calls Tryd.prog 5 #[.string ⟨k.toArray⟩, .string ⟨s.toArray⟩] w fun e w' => e = .returned (.bool true) ∧ Below w.heap.size w w' := by
  have hsz_k : (⟨k.toArray⟩ : ByteArray).size = k.length := by simp [ByteArray.size]
  have hsz_s : (⟨s.toArray⟩ : ByteArray).size = s.length := by simp [ByteArray.size]
  go_enter Tryd.func5, Tryd.ntmps5
  (repeat ((fail_if_success (with_reducible show Code.wp _ (Code.region _ _ _) _ _ _)); go_step))
  apply wp_region_mixp [] [_] trivial List.nodup_nil
  · intro p
    refine mx_val (.bool false) (fun _ => rfl) ?_
    simp only [Act.put, pb, pc, pd]
    refine mx_end ?_
    intro w2 hkw hrw hnew hdis
    have sb := hkw.below w.heap.size (Nat.le_refl _) (by simp)
    clear hkw hrw hnew hdis
    (repeat ((fail_if_success (with_reducible show Code.wp _ (Code.region _ _ _) _ _ _)); go_step))
    refine wp_region_qp ?_
    refine qw_move (by rfl) rfl rfl ?_
    simp only [Act.put, pb, pc, pd]
    refine qw_value (by rfl) (.int .i64 (k.length : Nat)) (fun w' => (x_lenS _ _ rfl ⟨k.toArray⟩ rfl Tryd.underlying9 w').trans (by rw [hsz_k])) ?_
    simp only [Act.put, pb, pc, pd]
    refine qw_value (by rfl) (.bool false) (x_gt _ _ _ _ rfl k.length 512 rfl rfl false (decide_eq_false (by omega))) ?_
    simp only [Act.put, pb, pc, pd]
    refine qw_move (by rfl) rfl rfl ?_
    simp only [Act.put, pb, pc, pd]
    refine qw_move (by rfl) rfl rfl ?_
    simp only [Act.put, pb, pc, pd]
    refine qw_value (by rfl) (.int .i64 (s.length : Nat)) (fun w' => (x_lenS _ _ rfl ⟨s.toArray⟩ rfl Tryd.underlying9 w').trans (by rw [hsz_s])) ?_
    simp only [Act.put, pb, pc, pd]
    refine qw_value (by rfl) (.bool false) (x_gt _ _ _ _ rfl s.length 512 rfl rfl false (decide_eq_false (by omega))) ?_
    simp only [Act.put, pb, pc, pd]
    refine qw_pick false (v := .bool false) (by rfl) rfl rfl rfl ?_
    simp only [Act.put, pb, pc, pd]
    refine qw_nil ?_
    intro w3 hqb
    replace sb := below_on sb (Nat.le_refl _) hqb
    clear hqb
    (repeat ((fail_if_success (with_reducible show Code.wp _ (Code.region _ _ _) _ _ _)); go_step))
    refine wp_region_qp ?_
    refine qw_move (by rfl) rfl rfl ?_
    simp only [Act.put, pb, pc, pd]
    refine qw_asg (by rfl) rfl rfl ?_
    simp only [Act.put, pb, pc, pd]
    refine qw_nil ?_
    intro w4 hqb
    replace sb := below_on sb (Nat.le_refl _) hqb
    clear hqb
    have H1 := sb
    clear sb
    go_wp2_with fail
    go_loopg [5] (64 - k.length) (fun g s5 wr => ∃ n : Nat, n + g = 64 - k.length ∧ s5 = .string ⟨(padL k n).toArray⟩ ∧ Below w.heap.size w wr)
    case atStart => exact ⟨0, by omega, by rw [padL_zero], H1⟩
    case round =>
      clear H1
      obtain ⟨n, hn, rfl, sb⟩ := hrel
      have hpl : (padL k n).length = k.length + n := padL_length k n
      have hszp : (⟨(padL k n).toArray⟩ : ByteArray).size = k.length + n := by rw [← hpl]; simp [ByteArray.size]
      cases gk with
      | zero =>
        have hn0 : n = 64 - k.length := by omega
        clear hn
        (repeat ((fail_if_success (with_reducible show Code.wp _ (Code.region _ _ _) _ _ _)); go_step))
        refine wp_region_qp ?_
        refine qw_move (by rfl) rfl rfl ?_
        simp only [Act.put, pb, pc, pd]
        refine qw_value (by rfl) (.int .i64 (k.length + n : Nat)) (fun w' => (x_lenS _ _ rfl ⟨(padL k n).toArray⟩ rfl Tryd.underlying9 w').trans (by rw [hszp])) ?_
        simp only [Act.put, pb, pc, pd]
        refine qw_value (by rfl) (.bool false) (x_lt _ _ _ _ rfl (k.length + n : Nat) 64 rfl rfl false (decide_eq_false (by omega))) ?_
        simp only [Act.put, pb, pc, pd]
        refine qw_nil ?_
        intro w5 hqb
        replace sb := below_on sb (Nat.le_refl _) hqb
        clear hqb
        replace kT := kT.below sb
        by_cases hb64 : 64 < k.length
        · skip
          (repeat ((fail_if_success (with_reducible show Code.wp _ (Code.region _ _ _) _ _ _)); go_step))
          refine wp_region_qp ?_
          refine qw_move (by rfl) rfl rfl ?_
          simp only [Act.put, pb, pc, pd]
          refine qw_move (by rfl) rfl rfl ?_
          simp only [Act.put, pb, pc, pd]
          refine qw_call (by rfl) 11 _ _ rfl Tryd.func11 (by kernel_rfl) #[.string ⟨k.toArray⟩, .string ⟨s.toArray⟩] rfl _ (fun w' => same_any k s w' (by omega) (by omega)) ?_
          simp only [Act.put, pb, pc, pd]
          refine qw_move (by rfl) rfl rfl ?_
          simp only [Act.put, pb, pc, pd]
          refine qw_move (by rfl) rfl rfl ?_
          simp only [Act.put, pb, pc, pd]
          refine qw_value (by rfl) (.bool (decide (k = s))) (x_eqSd _ _ _ _ rfl k s rfl rfl) ?_
          simp only [Act.put, pb, pc, pd]
          refine qw_value (by rfl) (.bool true) (exec_eql_bool _ _ _ _ rfl (decide (k = s)) rfl rfl Tryd.underlying4) ?_
          simp only [Act.put, pb, pc, pd]
          refine qw_move (by rfl) rfl rfl ?_
          simp only [Act.put, pb, pc, pd]
          refine qw_move (by rfl) rfl rfl ?_
          simp only [Act.put, pb, pc, pd]
          refine qw_move (by rfl) rfl rfl ?_
          simp only [Act.put, pb, pc, pd]
          refine qw_call (by rfl) 11 _ _ rfl Tryd.func11 (by kernel_rfl) #[.string ⟨k.toArray⟩, .string ⟨k.toArray⟩] rfl _ (fun w' => same_yes k w' (by omega)) ?_
          simp only [Act.put, pb, pc, pd]
          refine qw_pick true (v := .bool true) (by rfl) rfl rfl rfl ?_
          simp only [Act.put, pb, pc, pd]
          refine qw_move (by rfl) rfl rfl ?_
          simp only [Act.put, pb, pc, pd]
          refine qw_move (by rfl) rfl rfl ?_
          simp only [Act.put, pb, pc, pd]
          refine qw_value (by rfl) (.int .i64 (k.length : Nat)) (fun w' => (x_lenS _ _ rfl ⟨k.toArray⟩ rfl Tryd.underlying9 w').trans (by rw [hsz_k])) ?_
          simp only [Act.put, pb, pc, pd]
          refine qw_value (by rfl) (.bool true) (x_gt _ _ _ _ rfl k.length 64 rfl rfl true (decide_eq_true (by omega))) ?_
          simp only [Act.put, pb, pc, pd]
          refine qw_move (by rfl) rfl rfl ?_
          simp only [Act.put, pb, pc, pd]
          refine qw_skip (by rfl) ?_
          simp only [Act.put, pb, pc, pd]
          refine qw_skip (by rfl) ?_
          simp only [Act.put, pb, pc, pd]
          refine qw_skip (by rfl) ?_
          simp only [Act.put, pb, pc, pd]
          refine qw_skip (by rfl) ?_
          simp only [Act.put, pb, pc, pd]
          refine qw_skip (by rfl) ?_
          simp only [Act.put, pb, pc, pd]
          refine qw_skip (by rfl) ?_
          simp only [Act.put, pb, pc, pd]
          refine qw_skip (by rfl) ?_
          simp only [Act.put, pb, pc, pd]
          refine qw_pick true (v := .bool true) (by rfl) rfl rfl rfl ?_
          simp only [Act.put, pb, pc, pd]
          refine qw_pick true (v := .bool true) (by rfl) rfl rfl rfl ?_
          simp only [Act.put, pb, pc, pd]
          refine qw_move (by rfl) rfl rfl ?_
          simp only [Act.put, pb, pc, pd]
          refine qw_callK (by rfl) 6 _ _ rfl Tryd.func6 (by kernel_rfl) #[] rfl _ (fun w' hb => awake6_any w' (kT.below hb)) ?_
          simp only [Act.put, pb, pc, pd]
          refine qw_pick true (v := .bool true) (by rfl) rfl rfl rfl ?_
          simp only [Act.put, pb, pc, pd]
          refine qw_asg (by rfl) rfl rfl ?_
          simp only [Act.put, pb, pc, pd]
          refine qw_nil ?_
          intro w6 hqb
          replace sb := below_on sb (Nat.le_refl _) hqb
          clear hqb
          go_wp2
          go_ret
          exact ⟨rfl, sb⟩
        · skip
          (repeat ((fail_if_success (with_reducible show Code.wp _ (Code.region _ _ _) _ _ _)); go_step))
          refine wp_region_qp ?_
          refine qw_move (by rfl) rfl rfl ?_
          simp only [Act.put, pb, pc, pd]
          refine qw_move (by rfl) rfl rfl ?_
          simp only [Act.put, pb, pc, pd]
          refine qw_call (by rfl) 11 _ _ rfl Tryd.func11 (by kernel_rfl) #[.string ⟨k.toArray⟩, .string ⟨s.toArray⟩] rfl _ (fun w' => same_any k s w' (by omega) (by omega)) ?_
          simp only [Act.put, pb, pc, pd]
          refine qw_move (by rfl) rfl rfl ?_
          simp only [Act.put, pb, pc, pd]
          refine qw_move (by rfl) rfl rfl ?_
          simp only [Act.put, pb, pc, pd]
          refine qw_value (by rfl) (.bool (decide (k = s))) (x_eqSd _ _ _ _ rfl k s rfl rfl) ?_
          simp only [Act.put, pb, pc, pd]
          refine qw_value (by rfl) (.bool true) (exec_eql_bool _ _ _ _ rfl (decide (k = s)) rfl rfl Tryd.underlying4) ?_
          simp only [Act.put, pb, pc, pd]
          refine qw_move (by rfl) rfl rfl ?_
          simp only [Act.put, pb, pc, pd]
          refine qw_move (by rfl) rfl rfl ?_
          simp only [Act.put, pb, pc, pd]
          refine qw_move (by rfl) rfl rfl ?_
          simp only [Act.put, pb, pc, pd]
          refine qw_call (by rfl) 11 _ _ rfl Tryd.func11 (by kernel_rfl) #[.string ⟨k.toArray⟩, .string ⟨k.toArray⟩] rfl _ (fun w' => same_yes k w' (by omega)) ?_
          simp only [Act.put, pb, pc, pd]
          refine qw_pick true (v := .bool true) (by rfl) rfl rfl rfl ?_
          simp only [Act.put, pb, pc, pd]
          refine qw_move (by rfl) rfl rfl ?_
          simp only [Act.put, pb, pc, pd]
          refine qw_move (by rfl) rfl rfl ?_
          simp only [Act.put, pb, pc, pd]
          refine qw_value (by rfl) (.int .i64 (k.length : Nat)) (fun w' => (x_lenS _ _ rfl ⟨k.toArray⟩ rfl Tryd.underlying9 w').trans (by rw [hsz_k])) ?_
          simp only [Act.put, pb, pc, pd]
          refine qw_value (by rfl) (.bool false) (x_gt _ _ _ _ rfl k.length 64 rfl rfl false (decide_eq_false (by omega))) ?_
          simp only [Act.put, pb, pc, pd]
          refine qw_move (by rfl) rfl rfl ?_
          simp only [Act.put, pb, pc, pd]
          refine qw_move (by rfl) rfl rfl ?_
          simp only [Act.put, pb, pc, pd]
          refine qw_move (by rfl) rfl rfl ?_
          simp only [Act.put, pb, pc, pd]
          refine qw_callK (by rfl) 7 _ _ rfl Tryd.func7 (by kernel_rfl) #[.string ⟨k.toArray⟩, .string ⟨s.toArray⟩] rfl _ (fun w' hb => tag_any k s w' (by omega) (by omega) (kT.below hb)) ?_
          simp only [Act.put, pb, pc, pd]
          refine qw_move (by rfl) rfl rfl ?_
          simp only [Act.put, pb, pc, pd]
          refine qw_move (by rfl) rfl rfl ?_
          simp only [Act.put, pb, pc, pd]
          refine qw_callK (by rfl) 7 _ _ rfl Tryd.func7 (by kernel_rfl) #[.string ⟨(padL k n).toArray⟩, .string ⟨s.toArray⟩] rfl _ (fun w' hb => tag_any (padL k n) s w' (by rw [padL_length]; omega) (by omega) (kT.below hb)) ?_
          simp only [Act.put, pb, pc, pd]
          refine qw_value (by rfl) (.bool true) (x_eqS _ _ _ _ rfl ⟨(hm k s).toArray⟩ ⟨(hm (padL k n) s).toArray⟩ rfl rfl (by rw [hm_pad k s n (by omega)])) ?_
          simp only [Act.put, pb, pc, pd]
          refine qw_pick false (v := .bool true) (by rfl) rfl rfl rfl ?_
          simp only [Act.put, pb, pc, pd]
          refine qw_pick true (v := .bool true) (by rfl) rfl rfl rfl ?_
          simp only [Act.put, pb, pc, pd]
          refine qw_move (by rfl) rfl rfl ?_
          simp only [Act.put, pb, pc, pd]
          refine qw_callK (by rfl) 6 _ _ rfl Tryd.func6 (by kernel_rfl) #[] rfl _ (fun w' hb => awake6_any w' (kT.below hb)) ?_
          simp only [Act.put, pb, pc, pd]
          refine qw_pick true (v := .bool true) (by rfl) rfl rfl rfl ?_
          simp only [Act.put, pb, pc, pd]
          refine qw_asg (by rfl) rfl rfl ?_
          simp only [Act.put, pb, pc, pd]
          refine qw_nil ?_
          intro w6 hqb
          replace sb := below_on sb (Nat.le_refl _) hqb
          clear hqb
          go_wp2
          go_ret
          exact ⟨rfl, sb⟩
      | succ g =>
        have hcat := padL_succ k n
        (repeat ((fail_if_success (with_reducible show Code.wp _ (Code.region _ _ _) _ _ _)); go_step))
        refine wp_region_qp ?_
        refine qw_move (by rfl) rfl rfl ?_
        simp only [Act.put, pb, pc, pd]
        refine qw_value (by rfl) (.int .i64 (k.length + n : Nat)) (fun w' => (x_lenS _ _ rfl ⟨(padL k n).toArray⟩ rfl Tryd.underlying9 w').trans (by rw [hszp])) ?_
        simp only [Act.put, pb, pc, pd]
        refine qw_value (by rfl) (.bool true) (x_lt _ _ _ _ rfl (k.length + n : Nat) 64 rfl rfl true (decide_eq_true (by omega))) ?_
        simp only [Act.put, pb, pc, pd]
        refine qw_nil ?_
        intro w5 hqb
        replace sb := below_on sb (Nat.le_refl _) hqb
        clear hqb
        (repeat ((fail_if_success (with_reducible show Code.wp _ (Code.region _ _ _) _ _ _)); go_step))
        refine wp_region_qp ?_
        refine qw_move (by rfl) rfl rfl ?_
        simp only [Act.put, pb, pc, pd]
        refine qw_value (by rfl) (.string ⟨(padL k (n + 1)).toArray⟩) (fun w' => (x_cat _ _ _ _ rfl (padL k n) [0] rfl rfl (by rw [hpl]; show _ + 1 ≤ _; omega) w').trans (by rw [hcat])) ?_
        simp only [Act.put, pb, pc, pd]
        refine qw_asg (by rfl) rfl rfl ?_
        simp only [Act.put, pb, pc, pd]
        refine qw_nil ?_
        intro w6 hqb
        replace sb := below_on sb (Nat.le_refl _) hqb
        clear hqb
        clear hcat hpl hszp
        go_wp2
        go_roundg g
        case measure => omega
        case rel => exact ⟨n + 1, by omega, rfl, sb⟩
  · rfl
set_option maxRecDepth 100000 in
set_option maxHeartbeats 2000000 in
theorem walk (k s : List UInt8) (w : World) (kT : KT w) :
    Calls Tryd.prog 5 #[.string ⟨k.toArray⟩, .string ⟨s.toArray⟩] w fun e w' => e = .returned (.bool true) ∧ Below w.heap.size w w' := by
  by_cases h1 : 512 < k.length
  · exact long1 k s w kT h1
  by_cases h2 : 512 < s.length
  · exact long2 k s w kT (by omega) h2
  exact short k s w kT (by omega) (by omega)
set_option maxRecDepth 100000 in
theorem lifted (os : Os) (started : os.Started) (H : Type) (enc : TypeId × Value → H) :
    ReturnsInHanded {} Tryd.checked os 5 .any (fun w args => (Rows.hmacSameSpec.pre enc Tryd.prog Tryd.f5 [] false w args ∧ laidMetH Tryd.prog lk w) ∧ sizedMet enc Tryd.prog Tryd.f5 (OpenSpec.ofChange Rows.hmacSameSpec) false w args)
      (Rows.hmacSameSpec.post enc Tryd.prog Tryd.f5 false true false false) := by
  refine returnsInHanded_of_change_and (C := Tryd.checked) (X := fun w _ => laidMetH Tryd.prog lk w) (fun _ _ _ hh h => h.of_heap hh) own started (by kernel_rfl) Tryd.func5
    (ChangeSpec.witness_shaped (enc := enc) (C := Tryd.checked) (os := os) (X := fun w _ => laidMetH Tryd.prog lk w) false (World.doorLaid Tryd.prog 14 os) #[.string ⟨#[]⟩, .string ⟨#[]⟩] 8 rfl (World.shaped_of_RefB (by kernel_rfl) (by kernel_rfl)) (by kernel_rfl) (by kernel_rfl) (by kernel_rfl) (door_met os _)) ?_
  intro W base args ds gs before hval0 hW _ _ hL _
  have hval : ∀ (j : Nat) t v, Tryd.f5.params[j]? = some t → args[j]? = some v → Value.okWide Tryd.prog W .any base t v := hval0
  have hW' := hW
  obtain ⟨p, q, hA0, hV, rfl, hfz, hnd⟩ := hW
  have hA : DataW.TrodAll enc Tryd.prog W 0 (fun _ => true) true Tryd.f5.params.toList args.toList ds p := hA0
  rw [Tryd.params5] at hA hval
  obtain ⟨v0, vs0, d0, ds0, p0, q0, hargs, rfl, rfl, h0, r0⟩ := trodAll_cons hA
  obtain ⟨v1, vs1, d1, ds1, p1, q1, rfl, rfl, rfl, h1, r1⟩ := trodAll_cons r0
  obtain ⟨rfl, rfl, rfl⟩ := trodAll_nil r1
  obtain rfl : args = #[v0, v1] := by cases args; simp_all
  obtain ⟨rfl, rfl⟩ := trodVars_none hV
  have k0 := h0
  have lt0 := lt_of_trod h0
  obtain ⟨⟨⟨s0⟩⟩, rfl, rfl, rfl, w0⟩ := open_string Tryd.underlying9 (hval 0 9 v0 rfl rfl) h0
  have k1 := h1
  have lt1 := lt_of_trod h1
  obtain ⟨⟨⟨s1⟩⟩, rfl, rfl, rfl, w1⟩ := open_string Tryd.underlying9 (hval 1 9 v1 rfl rfl) h1
  clear hA0 hval0
  refine (walk s0 s1 W (kt_of_laid hL)).mono fun e W' ⟨he, bel⟩ => ?_
  subst he
  exact ⟨_, rfl, _, _, _, [], _, [], hW', trodAll_mk1 (shut_bool Tryd.underlying4 _), (trodAll_cons_mk (Below.trod laidOut (by kernel_rfl) (of_decide_eq_true (by kernel_rfl)) k0 bel lt0) (trodAll_cons_mk (Below.trod laidOut (by kernel_rfl) (of_decide_eq_true (by kernel_rfl)) k1 bel lt1) trodAll_mk0)), rfl, bel.frame _, fun h => by cases h⟩

theorem over : Rows.hmacSameRow.holds Tryd.pinned (OpenSpec.ofChange Rows.hmacSameSpec) :=
  OpenClaim.holds_of_wide 5 Tryd.f5 rfl rfl rfl rfl rfl rfl rfl ⟨rfl, rfl, rfl, rfl, rfl⟩ rfl rfl rfl rfl rfl (by kernel_rfl) Tryd.func5 (by kernel_rfl)
    (of_decide_eq_true (by kernel_rfl)) (by unfold Func.isWrapper; first | (rw [if_pos (by decide +kernel)]; kernel_rfl) | (rw [if_neg (by decide +kernel)]; exact ⟨rfl, rfl⟩))
    (fun os started H enc _ => lifted os started H enc)
theorem card : Claim7.holds Tryd.pinned (.plain (OpenSpec.ofChange Rows.hmacSameSpec)) Rows.hmacSameCard :=
  Claim7.holds_tied_plain_at .later [] [.data] true (true, "3a661c15acbfec0852622dd25a1d00ce3abfa0ee5f06be449767b75559b4bf34") false
    over (fun _ h => by cases h) (by kernel_rfl) (fun _ h => by cases h) hmacSame_row_tie rfl ⟨rfl, rfl⟩ (by kernel_rfl) rfl
    (fun f fn hf hfn => by
      obtain rfl : f = 5 := Option.some.inj ((show Tryd.prog.funcNamed "sacristy/sacristylaw06.HmacSame" = some 5 by kernel_rfl).symm.trans hf) |>.symm
      obtain rfl : fn = Tryd.f5 := (Option.some.inj (Tryd.func5.symm.trans hfn)).symm
      exact ⟨by kernel_rfl, fun j t ht => by
        rw [Tryd.params5] at ht
        have hm : t ∈ [9, 9] := by simpa using Array.mem_of_getElem? ht
        have hall : ([9, 9].all fun u => !Tryd.prog.wantsStandIn u) = true := by kernel_rfl
        exact (show Tryd.prog.wantsStandIn t = false by simpa using List.all_eq_true.1 hall t hm)⟩)
    (by kernel_rfl)
end Go.Proofs.YtiihgomjgdmabaaDoor.hmacSameP
namespace Go.Proofs.YtiihgomjgdmabaaDoor
theorem hmacSame_holds : Rows.HmacSameCardSaid := hmacSameP.card
end Go.Proofs.YtiihgomjgdmabaaDoor
