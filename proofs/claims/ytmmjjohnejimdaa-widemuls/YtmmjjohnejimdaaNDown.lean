/- nat.Down. -/
import Derived.Test.YtmmjjohnejimdaaNUp
namespace Go.Proofs.Ytmmjjohnejimdaa
open Go.RowKit

set_option maxRecDepth 100000 in
set_option maxHeartbeats 1000000 in
theorem ndown_in (A L f : Nat) (w : World) (hf : f < 64) (hL : L < 4) (h1 : 1 ≤ 64 * L + f) (hA : A < 2 ^ 256) :
    Calls Try.prog 63 #[.agg (natC A), .int .i64 (64 * L + f : Nat)] w fun e w' => e = .returned (.agg (natC (A / 2 ^ (64 * L + f)))) ∧ Below w.heap.size w w' := by
  have hk1 : ¬ (((64 * L + f : Nat) : Int) < 1) := by omega
  have hk2 : ¬ ((256 : Int) ≤ ((64 * L + f : Nat) : Int)) := by omega
  have hq : ((64 * L + f : Nat) : Int) / 64 = (L : Int) := by omega
  have hr : ((64 * L + f : Nat) : Int) % 64 = (f : Int) := by omega
  have HK : Hid (∃ k : Nat, k = 64 * L + f) := ⟨_, rfl⟩
  obtain ⟨k, hk⟩ := HK.out
  rw [← hk] at hk1 hk2 hq hr ⊢
  have HK : Hid (k = 64 * L + f ∧ 1 ≤ 64 * L + f) := ⟨hk, h1⟩
  clear hk h1
  have HA : Hid (A < 2 ^ 256) := hA
  clear hA
  go_enter Try.func63, Try.ntmps63
  go_wp2_with (first
    | refine wpList_box_row rfl 24 _ rfl _ rfl ?_
    | refine wpList_alloc_row rfl 24 rfl _ zero_nat ?_)
  go_loopg [22] (4 - L) (fun g s21 wr => ∃ j : Nat, j + g = 4 - L ∧ s21 = .int .i64 j ∧ Row wr w.heap.size (natC A) 24 ∧ Row wr (w.heap.size + 1) (natC 0) 24 ∧ Row wr (w.heap.size + 1 + 1) (natC (A / 2 ^ k % 2 ^ (64 * j))) 24 ∧ Below w.heap.size w wr)
  case atStart =>
    refine ⟨0, by omega, rfl, Row.two rfl, Row.one (by simp), ?_, below_alloc3 _ _ _⟩
    rw [show A / 2 ^ k % 2 ^ (64 * 0) = 0 by simp [Nat.mod_one]]
    exact Row.here (by simp)
  case round =>
    obtain ⟨j, hj, rfl, r0, r1, r2, hb⟩ := hrel
    cases gk with
    | zero =>
      obtain rfl : j = 4 - L := by omega
      have hdl : A / 2 ^ k < 2 ^ (64 * (4 - L)) := by
        refine Nat.div_lt_of_lt_mul (Nat.lt_of_lt_of_le HA.out ?_)
        rw [← Nat.pow_add]
        exact Nat.pow_le_pow_right (by decide) (by have := HK.out.1; omega)
      rw [Nat.mod_eq_of_lt hdl] at r2
      clear hdl
      clear hj
      have hx : ¬ (((4 - L : Nat) : Int) < 4 - L) := by omega
      have hx' : ((4 - L : Nat) : Int) = 4 - L := by omega
      rw [hx']
      have hx'' : ¬ ((4 : Int) - L < 4 - L) := by omega
      clear hx hx'
      go_wp2_with (first
        | refine wpList_loadR rfl 24 _ rfl _ rfl r2 4 _ Try.underlying24 (by exact size_nat) ?_
        | refine wpList_storeR rfl 24 _ _ rfl _ _ rfl rfl r1 (by exact size_nat) (by simp only [natC_size]) (natC_one _) ?_)
      exact ret_row rfl _ rfl (r1.setRow _) 4 _ Try.underlying24 (by exact size_nat) rfl ⟨by rw [HK.out.1], below_setRow hb (by omega) _⟩
    | succ g =>
      have hlt : (j : Int) < 4 - L := by omega
      have hj4 : (j : Int) < 4 := by omega
      have hjL : (j : Int) + L < 4 := by omega
      have hc0 := cell_nat r0 (j + L) (by omega)
      have hc2 := cell_nat r2 j (by omega)
      have hf2 := r2.frozen j
      have R : Aside (Row wr w.heap.size (natC A) 24 ∧ Row wr (w.heap.size + 1) (natC 0) 24 ∧ Row wr (w.heap.size + 1 + 1) (natC (A / 2 ^ k % 2 ^ (64 * j))) 24 ∧ Below w.heap.size w wr) := ⟨r0, r1, r2, hb⟩
      by_cases hj0 : (j : Int) + L + 1 < 4
      · have hc1 := cell_nat r0 (j + L + 1) (by omega)
        clear r0 r1 r2 hb
        go_wp2
        go_region
        go_wp2
        obtain ⟨r0, r1, r2, hb⟩ := R.out
        go_roundg g
        case measure => omega
        case rel =>
          refine ⟨j + 1, by omega, by go_num, ((r0.setCell_far _ _ _ (by omega)).setCell_far _ _ _ (by omega)).drew, ((r1.setCell_far _ _ _ (by omega)).setCell_far _ _ _ (by omega)).drew, ?_, (below_setCell (below_setCell hb (by omega) _ _) (by omega) _ _).drew⟩
          have := ((r2.setCell j (.int .u64 (downV A f (j + L) : Nat))).setCell j (.int .u64 (downW A f (j + L) : Nat))).drew
          rw [Array.setIfInBounds_setIfInBounds, natC_limb (A / 2 ^ k) j _ (by omega) (by rw [HK.out.1, down_limb A L f j hf])] at this
          rw [down_or, down_val]
          exact this
      · clear r0 r1 r2 hb
        have HT : Hid (downW A f (j + L) = downV A f (j + L)) := downW_top A f _ (by rw [show j + L + 1 = 4 by omega]; exact lm_four A HA.out)
        go_wp2
        obtain ⟨r0, r1, r2, hb⟩ := R.out
        go_roundg g
        case measure => omega
        case rel =>
          refine ⟨j + 1, by omega, by go_num, r0.setCell_far _ _ _ (by omega), r1.setCell_far _ _ _ (by omega), ?_, below_setCell hb (by omega) _ _⟩
          have := r2.setCell j (.int .u64 (downV A f (j + L) : Nat))
          rw [natC_limb (A / 2 ^ k) j _ (by omega) (by rw [HK.out.1, down_limb A L f j hf, HT.out])] at this
          rw [down_val]
          exact this

set_option maxRecDepth 100000 in
set_option maxHeartbeats 1000000 in
theorem ndown_low (A : Nat) (k : Int) (w : World) (h : k < 1) :
    Calls Try.prog 63 #[.agg (natC A), .int .i64 k] w fun e w' => e = .returned (.agg (natC A)) ∧ Below w.heap.size w w' := by
  have rA : Row ((w.alloc (.cells (natC A) 24)).alloc (.cells (natC 0) 24)) w.heap.size (natC A) 24 := Row.one rfl
  have rR : Row ((w.alloc (.cells (natC A) 24)).alloc (.cells (natC 0) 24)) (w.heap.size + 1) (natC 0) 24 := Row.here (by simp)
  go_enter Try.func63, Try.ntmps63
  go_wp2_with (first
    | refine wpList_box_row rfl 24 _ rfl _ rfl ?_
    | refine wpList_alloc_row rfl 24 rfl _ zero_nat ?_
    | refine wpList_loadR rfl 24 _ rfl _ rfl rA 4 _ Try.underlying24 (by exact size_nat) ?_
    | refine wpList_storeR rfl 24 _ _ rfl _ _ rfl rfl rR (by exact size_nat) (by simp only [natC_size]) (natC_one _) ?_)
  exact ret_row rfl _ rfl (rR.setRow _) 4 _ Try.underlying24 (by exact size_nat) rfl ⟨rfl, below_setRow (below_alloc2 _ _) (by omega) _⟩
set_option maxRecDepth 100000 in
set_option maxHeartbeats 1000000 in
theorem ndown_high (A : Nat) (k : Int) (w : World) (h : 256 ≤ k) :
    Calls Try.prog 63 #[.agg (natC A), .int .i64 k] w fun e w' => e = .returned (.agg (natC 0)) ∧ Below w.heap.size w w' := by
  have rR : Row ((w.alloc (.cells (natC A) 24)).alloc (.cells (natC 0) 24)) (w.heap.size + 1) (natC 0) 24 := Row.here (by simp)
  have h1 : ¬ k < 1 := by omega
  go_enter Try.func63, Try.ntmps63
  go_wp2_with (first
    | refine wpList_box_row rfl 24 _ rfl _ rfl ?_
    | refine wpList_alloc_row rfl 24 rfl _ zero_nat ?_
    | refine wpList_build_zero rfl 24 rfl _ built_nat ?_
    | refine wpList_storeR rfl 24 _ _ rfl _ _ rfl rfl rR (by exact size_nat) (by simp only [natC_size]) (natC_one _) ?_)
  exact ret_row rfl _ rfl (rR.setRow _) 4 _ Try.underlying24 (by exact size_nat) rfl ⟨rfl, below_setRow (below_alloc2 _ _) (by omega) _⟩
theorem ndown_any (A : Nat) (k : Int) (w : World) (hA : A < 2 ^ 256) :
    Calls Try.prog 63 #[.agg (natC A), .int .i64 k] w fun e w' => e = .returned (.agg (natC (A / 2 ^ k.toNat))) ∧ Below w.heap.size w w' := by
  by_cases h0 : k < 1
  · rw [show k.toNat = 0 by omega, Nat.pow_zero, Nat.div_one]
    exact ndown_low A k w h0
  · by_cases h1 : 256 ≤ k
    · rw [Nat.div_eq_of_lt (Nat.lt_of_lt_of_le hA (Nat.pow_le_pow_right (by decide) (by omega)))]
      exact ndown_high A k w h1
    · obtain ⟨K, rfl⟩ := Int.eq_ofNat_of_zero_le (show 0 ≤ k by omega)
      rw [Int.toNat_natCast]
      have := ndown_in A (K / 64) (K % 64) w (Nat.mod_lt _ (by decide)) (by omega) (by omega) hA
      rw [show 64 * (K / 64) + K % 64 = K by omega] at this
      exact this
end Go.Proofs.Ytmmjjohnejimdaa
