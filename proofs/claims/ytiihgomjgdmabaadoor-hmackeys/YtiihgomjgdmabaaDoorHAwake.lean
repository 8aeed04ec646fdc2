/- What must come, whatever the arguments are: the check of the laws of layer 6. -/
import Derived.Test.YtiihgomjgdmabaaDoorHRef
import Derived.Test.YtiihgomjgdmabaaDoorHTag
import Derived.Test.YtiihgomjgdmabaaDoorSRHex
namespace Go.Proofs.YtiihgomjgdmabaaDoor
open Go.RowKit
set_option linter.unusedVariables false

theorem same_yes (x : List UInt8) (w : World) (hx : x.length < 4611686018427387904) :
    Calls Tryd.prog 11 #[.string ⟨x.toArray⟩, .string ⟨x.toArray⟩] w fun e w' => e = .returned (.bool true) ∧ Below w.heap.size w w' :=
  (same_any x x w hx hx).mono fun e w' ⟨he, hb⟩ => ⟨by rw [he, decide_eq_true rfl], hb⟩
theorem same_no (x y : List UInt8) (w : World) (hx : x.length < 4611686018427387904) (hy : y.length < 4611686018427387904) (h : x ≠ y) :
    Calls Tryd.prog 11 #[.string ⟨x.toArray⟩, .string ⟨y.toArray⟩] w fun e w' => e = .returned (.bool false) ∧ Below w.heap.size w w' :=
  (same_any x y w hx hy).mono fun e w' ⟨he, hb⟩ => ⟨by rw [he, decide_eq_false h], hb⟩
set_option maxRecDepth 100000 in
set_option maxHeartbeats 2000000 in
theorem awake6_any (w : World) (kT : KT w) : Calls Tryd.prog 6 #[] w fun e w' => e = .returned (.bool true) ∧ Below w.heap.size w w' := by
  have hl : (⟨(hm [107] (keyT 1 2)).toArray⟩ : ByteArray).size = 32 := by simp only [ByteArray.size, List.size_toArray]; exact hm_length _ _
  go_enter Tryd.func6, Tryd.ntmps6
  (repeat ((fail_if_success (with_reducible show Code.wp _ (Code.region _ _ _) _ _ _)); go_step))
  apply wp_region_mixp [] [_] trivial List.nodup_nil
  · intro p
    refine mx_val (.bool false) (fun _ => rfl) ?_
    simp only [Act.put, List.setIfInBounds_toArray, List.set_cons_zero]
    refine mx_end ?_
    intro w2 hkw hrw hnew hdis
    have sb := hkw.below w.heap.size (Nat.le_refl _) (by simp)
    clear hkw hrw hnew hdis
    replace kT := kT.below sb
    (repeat ((fail_if_success (with_reducible show Code.wp _ (Code.region _ _ _) _ _ _)); go_step))
    refine wp_region_qp ?_
    refine qw_callK (by rfl) 7 _ _ rfl Tryd.func7 (by kernel_rfl) #[.string ⟨kJ.toArray⟩, .string ⟨sJ.toArray⟩] rfl _ (fun w' hb => tag_any kJ sJ w' (by decide) (by decide) (kT.below hb)) ?_
    simp only [Act.put, pb, pc, pd]
    refine qw_call (by rfl) 12 _ _ rfl Tryd.func12 (by kernel_rfl) #[.string ⟨(hm kJ sJ).toArray⟩] rfl _ (fun w' => rhex_any (hm kJ sJ) w' (by rw [hm_length]; decide)) ?_
    simp only [Act.put, pb, pc, pd]
    refine qw_value (by rfl) (.bool true) (x_eqS _ _ _ _ rfl ⟨(hexL (hm kJ sJ)).toArray⟩ _ rfl rfl (by rw [hm_jefe, hex_jefe])) ?_
    simp only [Act.put, pb, pc, pd]
    refine qw_move (by rfl) rfl rfl ?_
    simp only [Act.put, pb, pc, pd]
    refine qw_call (by rfl) 11 _ _ rfl Tryd.func11 (by kernel_rfl) #[.string ⟨#[97, 98]⟩, .string ⟨#[97, 98]⟩] rfl _ (fun w' => same_yes [97, 98] w' (by decide)) ?_
    simp only [Act.put, pb, pc, pd]
    refine qw_pick true (v := .bool true) (by rfl) rfl rfl rfl ?_
    simp only [Act.put, pb, pc, pd]
    refine qw_move (by rfl) rfl rfl ?_
    simp only [Act.put, pb, pc, pd]
    refine qw_call (by rfl) 11 _ _ rfl Tryd.func11 (by kernel_rfl) #[.string ⟨#[97, 98]⟩, .string ⟨#[97, 99]⟩] rfl _ (fun w' => same_no [97, 98] [97, 99] w' (by decide) (by decide) (by decide)) ?_
    simp only [Act.put, pb, pc, pd]
    refine qw_value (by rfl) (.bool true) (exec_not _ _ rfl false rfl) ?_
    simp only [Act.put, pb, pc, pd]
    refine qw_pick true (v := .bool true) (by rfl) rfl rfl rfl ?_
    simp only [Act.put, pb, pc, pd]
    refine qw_move (by rfl) rfl rfl ?_
    simp only [Act.put, pb, pc, pd]
    refine qw_callK (by rfl) 9 _ _ rfl Tryd.func9 (by kernel_rfl) #[.string ⟨#[107]⟩, .int .i64 1, .int .i64 2] rfl _ (fun w' hb => key_any [107] 1 2 w' (by decide) (kT.below hb)) ?_
    simp only [Act.put, pb, pc, pd]
    refine qw_value (by rfl) (.int .i64 32) (fun w' => (x_lenS _ _ rfl ⟨(hm [107] (keyT 1 2)).toArray⟩ rfl Tryd.underlying9 w').trans (by rw [hl]; rfl)) ?_
    simp only [Act.put, pb, pc, pd]
    refine qw_value (by rfl) (.bool true) (x_eqI _ _ _ _ rfl .i64 32 32 rfl rfl true rfl) ?_
    simp only [Act.put, pb, pc, pd]
    refine qw_pick true (v := .bool true) (by rfl) rfl rfl rfl ?_
    simp only [Act.put, pb, pc, pd]
    refine qw_asg (by rfl) rfl rfl ?_
    simp only [Act.put, List.setIfInBounds_toArray, List.set_cons_zero]
    refine qw_nil ?_
    intro w3 hqb
    replace sb := below_on sb (Nat.le_refl _) hqb
    clear hqb
    go_wp2
    go_ret
    exact ⟨rfl, sb⟩
  · rfl
end Go.Proofs.YtiihgomjgdmabaaDoor
