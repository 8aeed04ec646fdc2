/- wide.InvMod where m is 0 or 1; what it hands back otherwise. -/
import Derived.Test.YtmmjjohnejimdaaWInvMath
namespace Go.Proofs.Ytmmjjohnejimdaa
open Go.RowKit

/-- What InvMod hands back, and its error. -/
def invZ (A M : Nat) : Nat := if M < 2 then 0 else if Nat.gcd A M = 1 then invV A M else 0
def errV (A M : Nat) : Int := if M < 2 then 1 else if Nat.gcd A M = 1 then 0 else 3
theorem natC_one' : natC ((1 : Int).toNat) = natC 1 := rfl
theorem sub_far (M f : Nat) (h : f ≤ M) (hM : M < 2 ^ 256) : natC (less M f) = natC (M - f) := by
  refine (natC_eq _ _).2 ?_
  unfold less
  rw [show M + (2 ^ 256 - f) = M - f + 2 ^ 256 * 1 by omega, Nat.add_mul_mod_self_left]

set_option maxRecDepth 100000 in
set_option maxHeartbeats 2000000 in
theorem winv_arg (A M : Nat) (w : World) (hM : M < 2) :
    Calls Try.prog 25 #[.agg (natC A), .agg (natC M)] w fun e w' => e = .returned (.tuple #[.agg (natC 0), .int .i64 1]) ∧ Below w.heap.size w w' := by
  have rM : Row (((w.alloc (.cells (natC A) 24)).alloc (.cells (natC M) 24)).alloc (.cells (natC 0) 24)) (w.heap.size + 1) (natC M) 24 := (by repeat (first | (refine Row.here ?_; first | (with_reducible rfl) | (simp; done)) | refine Row.alloc ?_ _))
  have rZ : Row (((w.alloc (.cells (natC A) 24)).alloc (.cells (natC M) 24)).alloc (.cells (natC 0) 24)) (w.heap.size + 1 + 1) (natC 0) 24 := (by repeat (first | (refine Row.here ?_; first | (with_reducible rfl) | (simp; done)) | refine Row.alloc ?_ _))
  have bW := below_alloc3 (w := w) (.cells (natC A) 24) (.cells (natC M) 24) (.cells (natC 0) 24)
  have hof := fun w' => nof_any 1 w' (by omega)
  rw [natC_one'] at hof
  have hm : M = 0 ∨ M = 1 := by omega
  clear hM
  rcases hm with rfl | rfl
  · go_enter Try.func25, Try.ntmps25
    go_wp2_with (first
      | refine wpList_box_row rfl 24 _ rfl _ rfl ?_
      | refine wpList_alloc_row rfl 24 rfl _ zero_nat ?_)
    refine (hof _).mono ?_
    rintro e w1 ⟨rfl, hb1⟩
    have qM := (rM.belowAll hb1).alloc (.cells (natC 1) 24)
    have qZ := (rZ.belowAll hb1).alloc (.cells (natC 1) 24)
    have b1 := below_on bW (Nat.le_refl _) hb1
    have b2 := b1.alloc b1.size (.cells (natC 1) 24)
    clear rM rZ bW hb1 b1 hof
    go_wp2_with (first
      | refine wpList_alloc_row rfl 24 rfl _ zero_nat ?_
      | refine wpList_build_zero rfl 24 rfl _ built_nat ?_
      | refine wpList_store_new rfl 24 _ _ rfl _ rfl rfl _ _ (by exact size_nat) (by simp only [natC_size]) (natC_one _) ?_
      | refine wpList_loadR rfl 24 _ rfl _ rfl qM 4 _ Try.underlying24 (by exact size_nat) ?_
      | refine wpList_value rfl (.bool true) ((exec_eql_nat _ _ _ rfl 0 0 rfl rfl _).trans (by simp)) ?_
      | refine wpList_storeR rfl 24 _ _ rfl _ _ rfl rfl qZ (by exact size_nat) (by simp only [natC_size]) (natC_one _) ?_)
    exact ret_row2 rfl _ rfl (qZ.setRow (natC 0)) 4 _ Try.underlying24 (by exact size_nat) rfl _ rfl ⟨rfl, below_setRow b2 (by omega) _⟩
  · go_enter Try.func25, Try.ntmps25
    go_wp2_with (first
      | refine wpList_box_row rfl 24 _ rfl _ rfl ?_
      | refine wpList_alloc_row rfl 24 rfl _ zero_nat ?_)
    refine (hof _).mono ?_
    rintro e w1 ⟨rfl, hb1⟩
    have qM := (rM.belowAll hb1).alloc (.cells (natC 1) 24)
    have qZ := (rZ.belowAll hb1).alloc (.cells (natC 1) 24)
    have q1 := Row.new w1 (natC 1) 24
    have b1 := below_on bW (Nat.le_refl _) hb1
    have b2 := b1.alloc b1.size (.cells (natC 1) 24)
    clear rM rZ bW hb1 b1 hof
    go_wp2_with (first
      | refine wpList_alloc_row rfl 24 rfl _ zero_nat ?_
      | refine wpList_build_zero rfl 24 rfl _ built_nat ?_
      | refine wpList_store_new rfl 24 _ _ rfl _ rfl rfl _ _ (by exact size_nat) (by simp only [natC_size]) (natC_one _) ?_
      | refine wpList_loadR rfl 24 _ rfl _ rfl qM 4 _ Try.underlying24 (by exact size_nat) ?_
      | refine wpList_value rfl (.bool false) ((exec_eql_nat _ _ _ rfl 1 0 rfl rfl _).trans (by simp)) ?_
      | refine wpList_loadRg (by rfl) 24 _ rfl _ rfl qM 4 _ Try.underlying24 (by exact size_nat) ?_
      | refine wpList_loadRg (by rfl) 24 _ rfl _ rfl q1 4 _ Try.underlying24 (by exact size_nat) ?_
      | refine wpList_valueg (by rfl) (.bool true) ((exec_eql_nat _ _ _ rfl 1 1 rfl rfl _).trans (by simp)) ?_
      | refine wpList_storeR rfl 24 _ _ rfl _ _ rfl rfl qZ (by exact size_nat) (by simp only [natC_size]) (natC_one _) ?_)
    exact ret_row2 rfl _ rfl (qZ.setRow (natC 0)) 4 _ Try.underlying24 (by exact size_nat) rfl _ rfl ⟨rfl, below_setRow b2 (by omega) _⟩
end Go.Proofs.Ytmmjjohnejimdaa
