/- The document's Of: the digits of a number of 512 bits. -/
import Derived.Test.YtmmjjohnejimdaaDTypes
namespace Go.Proofs.Ytmmjjohnejimdaa
open Go.RowKit

/-- The digits that stand behind k turns of Of's loop. -/
def ofF (L H k i : Nat) : Nat := if i < k then dg L i else if 16 ≤ i ∧ i < 16 + k then dg H (i - 16) else 0
theorem ofF_zero (L H : Nat) : digF (ofF L H 0) = digC 0 := digF_congr _ _ fun i _ => by rw [dg_zero]; unfold ofF; rw [if_neg (by omega), if_neg (by omega)]
theorem ofF_full (L H : Nat) (hL : L < 2 ^ 256) : digF (ofF L H 16) = digC (L + 2 ^ 256 * H) :=
  digC_parts L H hL _ (fun i hi => by unfold ofF; rw [if_pos hi]) (fun i hi => by unfold ofF; rw [if_neg (by omega), if_pos (by omega), show 16 + i - 16 = i by omega])
theorem ofF_step (L H k : Nat) (hk : k < 16) : ((digF (ofF L H k)).setIfInBounds k (.int .i64 (dg L k : Nat))).setIfInBounds (16 + k) (.int .i64 (dg H k : Nat)) = digF (ofF L H (k + 1)) := by
  rw [digF_set (ofF L H k) (fun i => if i = k then dg L k else ofF L H k i) k _ (fun i _ => rfl)]
  refine digF_set _ _ _ _ fun i hi => ?_
  unfold ofF
  by_cases h1 : i = 16 + k
  · subst h1
    rw [if_pos rfl, if_neg (by omega), if_pos (by omega), show 16 + k - 16 = k by omega]
  · rw [if_neg h1]
    by_cases h2 : i = k
    · subst h2; rw [if_pos rfl, if_pos (by omega)]
    · rw [if_neg h2]
      by_cases h3 : i < k
      · rw [if_pos h3, if_pos (by omega)]
      · rw [if_neg h3, if_neg (by omega)]
        by_cases h4 : 16 ≤ i ∧ i < 16 + k
        · rw [if_pos h4, if_pos (by omega)]
        · rw [if_neg h4, if_neg (by omega)]

set_option maxRecDepth 100000 in
set_option maxHeartbeats 400000 in
theorem dof_any (L H : Nat) (w : World) (hL : L < 2 ^ 256) :
    Calls Try.prog 39 #[.agg (natC L), .agg (natC H)] w fun e w' => e = .returned (.agg (digC (L + 2 ^ 256 * H))) ∧ Below w.heap.size w w' := by
  have HL : Hid (L < 2 ^ 256) := hL
  clear hL
  go_enter Try.func39, Try.ntmps39
  go_wp2_with (first
    | refine wpList_box_row rfl 24 _ rfl _ rfl ?_
    | refine wpList_alloc_row rfl 50 rfl _ zero_dig ?_
    | refine wpList_build_zero rfl 50 rfl _ built_dig ?_
    | refine wpList_store_new rfl 50 _ _ rfl _ rfl rfl _ _ (by rw [digC_size]; exact size_dig) (by simp only [digC_size]) (digC_one _) ?_)
  have s0 : Row ((((w.alloc (.cells (natC L) 24)).alloc (.cells (natC H) 24)).alloc (.cells (digC 0) 50)).alloc (.cells (digC 0) 50)) w.heap.size (natC L) 24 := (by repeat (first | (refine Row.here ?_; first | (with_reducible rfl) | (simp; done)) | refine Row.alloc ?_ _))
  have s1 : Row ((((w.alloc (.cells (natC L) 24)).alloc (.cells (natC H) 24)).alloc (.cells (digC 0) 50)).alloc (.cells (digC 0) 50)) (w.heap.size + 1) (natC H) 24 := (by repeat (first | (refine Row.here ?_; first | (with_reducible rfl) | (simp; done)) | refine Row.alloc ?_ _))
  have s2 : Row ((((w.alloc (.cells (natC L) 24)).alloc (.cells (natC H) 24)).alloc (.cells (digC 0) 50)).alloc (.cells (digC 0) 50)) (w.heap.size + 1 + 1) (digC 0) 50 := (by repeat (first | (refine Row.here ?_; first | (with_reducible rfl) | (simp; done)) | refine Row.alloc ?_ _))
  have s3 : Row ((((w.alloc (.cells (natC L) 24)).alloc (.cells (natC H) 24)).alloc (.cells (digC 0) 50)).alloc (.cells (digC 0) 50)) (w.heap.size + 1 + 1 + 1) (digC 0) 50 := (by repeat (first | (refine Row.here ?_; first | (with_reducible rfl) | (simp; done)) | refine Row.alloc ?_ _))
  have s4 : Below w.heap.size w ((((w.alloc (.cells (natC L) 24)).alloc (.cells (natC H) 24)).alloc (.cells (digC 0) 50)).alloc (.cells (digC 0) 50)) := (by repeat (first | exact Below.refl _ _ | refine Below.alloc ?_ (by simp <;> omega) _))
  generalize ((((w.alloc (.cells (natC L) 24)).alloc (.cells (natC H) 24)).alloc (.cells (digC 0) 50)).alloc (.cells (digC 0) 50)) = W at *
  go_loopg [6] 16 (fun g s6 wr => ∃ k : Nat, k + g = 16 ∧ s6 = .int .i64 k ∧ Row wr w.heap.size (natC L) 24 ∧ Row wr (w.heap.size + 1) (natC H) 24 ∧ Row wr (w.heap.size + 1 + 1) (digC 0) 50 ∧ Row wr (w.heap.size + 1 + 1 + 1) (digF (ofF L H k)) 50 ∧ Below w.heap.size w wr)
  case atStart => exact ⟨0, by omega, rfl, s0, s1, s2, by rw [ofF_zero]; exact s3, s4⟩
  case round =>
    obtain ⟨k, hk, rfl, r0, r1, r2, r3, hb⟩ := hrel
    clear s0 s1 s2 s3 s4
    cases gk with
    | zero =>
      obtain rfl : k = 16 := by omega
      rw [ofF_full L H HL.out] at r3
      clear hk
      have hx : ¬ ((16 : Int) < 16) := by omega
      go_wp2_with (first
        | refine wpList_loadR rfl 50 _ rfl _ rfl r3 32 _ Try.underlying50 (by rw [digC_size]; exact size_dig) ?_
        | refine wpList_storeR rfl 50 _ _ rfl _ _ rfl rfl r2 (by rw [digC_size]; exact size_dig) (by simp only [digC_size]) (digC_one _) ?_)
      exact ret_row rfl _ rfl (r2.setRow _) 32 _ Try.underlying50 (by rw [digC_size]; exact size_dig) rfl ⟨rfl, below_setRow hb (by omega) _⟩
    | succ g =>
      have hlt : (k : Int) < 16 := by omega
      have hc0 := cell_nat r0 (k / 4) (by omega)
      have hc1 := cell_nat r1 (k / 4) (by omega)
      have hc3 := cell_digF r3 k (by omega)
      have hc4 := cell_digF r3 (16 + k) (by omega)
      have hf3 := r3.frozen k
      have hf4 := r3.frozen (16 + k)
      have hl := lm_lt L (k / 4)
      have hh := lm_lt H (k / 4)
      have R : Aside (Row wr w.heap.size (natC L) 24 ∧ Row wr (w.heap.size + 1) (natC H) 24 ∧ Row wr (w.heap.size + 1 + 1) (digC 0) 50 ∧ Row wr (w.heap.size + 1 + 1 + 1) (digF (ofF L H k)) 50 ∧ Below w.heap.size w wr) := ⟨r0, r1, r2, r3, hb⟩
      have e1 := limb_digit L k
      have e2 := limb_digit H k
      have d1 := dg_lt L k
      have d2 := dg_lt H k
      clear r0 r1 r2 r3 hb
      go_wp2
      obtain ⟨r0, r1, r2, r3, hb⟩ := R.out
      go_roundg g
      case measure => omega
      case rel =>
        refine ⟨k + 1, by omega, by go_num, (r0.setCell_far _ _ _ (by omega)).setCell_far _ _ _ (by omega), (r1.setCell_far _ _ _ (by omega)).setCell_far _ _ _ (by omega), (r2.setCell_far _ _ _ (by omega)).setCell_far _ _ _ (by omega), ?_, below_setCell (below_setCell hb (by omega) _ _) (by omega) _ _⟩
        have := (r3.setCell k (.int .i64 (dg L k : Nat))).setCell (16 + k) (.int .i64 (dg H k : Nat))
        rw [ofF_step L H k (by omega)] at this
        exact this
end Go.Proofs.Ytmmjjohnejimdaa
