/- nat.Int, and the document's Sub. -/
import Derived.Test.YtmmjjohnejimdaaNSmall
namespace Go.Proofs.Ytmmjjohnejimdaa
open Go.RowKit

/-- A natural as an int, if it is one. -/
def lowI (A : Nat) : Int := if A < 9223372036854775808 then A else 0
def lowB (A : Nat) : Bool := decide (A < 9223372036854775808)

theorem lm_zero (A : Nat) : lm A 0 = A % 18446744073709551616 := by unfold lm; simp

theorem bitLen_63 (A : Nat) : bitLen A ≤ 63 ↔ A < 9223372036854775808 := by
  have h := bitLen_spec A
  constructor
  · intro hl
    exact Nat.lt_of_lt_of_le h.1 (Nat.pow_le_pow_right (by decide) hl)
  · intro hA
    unfold bitLen
    split
    · omega
    · rename_i h0
      have := (Nat.log2_lt h0).2 (show A < 2 ^ 63 from hA)
      omega
/-- The document's rest is what 'less' says. -/
theorem less_flip (A B : Nat) (hB : B < 2 ^ 256) : A + (flip B + 1) = less A B := by
  unfold flip less
  rw [Nat.mod_eq_of_lt hB]
  omega

set_option maxRecDepth 100000 in
set_option maxHeartbeats 1000000 in
theorem rsub_any (A B : Nat) (w : World) (hA : A < 2 ^ 256) (hB : B < 2 ^ 256) :
    Calls Try.prog 50 #[.agg (natC A), .agg (natC B)] w fun e w' => e = .returned (.tuple #[.agg (natC (less A B)), .int .i64 (bN A B 256 : Nat)]) ∧ Below w.heap.size w w' := by
  have rA : Row (((w.alloc (.cells (natC A) 24)).alloc (.cells (natC B) 24)).alloc (.cells (natC 0) 24)) w.heap.size (natC A) 24 := Row.two rfl
  have rB : Row (((w.alloc (.cells (natC A) 24)).alloc (.cells (natC B) 24)).alloc (.cells (natC 0) 24)) (w.heap.size + 1) (natC B) 24 := Row.one (by simp)
  have rR : Row (((w.alloc (.cells (natC A) 24)).alloc (.cells (natC B) 24)).alloc (.cells (natC 0) 24)) (w.heap.size + 1 + 1) (natC 0) 24 := Row.here (by simp)
  have HS : Hid (natC (A + (flip B + 1)) = natC (less A B)) := by show _ = _; rw [less_flip A B hB]
  have HN : Hid (bN A B 256 = if A < B then 1 else 0) := by show _ = _; unfold bN; rw [Nat.mod_eq_of_lt hA, Nat.mod_eq_of_lt hB]
  have HA : Hid (A < 2 ^ 256) := hA
  have HB : Hid (B < 2 ^ 256) := hB
  have bW := below_alloc3 (w := w) (.cells (natC A) 24) (.cells (natC B) 24) (.cells (natC 0) 24)
  clear hA hB
  have key : ∀ (neg : Bool), decide (cmpI A B < 0) = neg →
      Calls Try.prog 50 #[.agg (natC A), .agg (natC B)] w fun e w' => e = .returned (.tuple #[.agg (natC (less A B)), .int .i64 (cond neg 1 0)]) ∧ Below w.heap.size w w' := by
    intro neg hneg
    have HG : Hid (decide (cmpI A B < 0) = neg) := hneg
    clear hneg HN
    go_enter Try.func50, Try.ntmps50
    go_wp2_with (first
      | refine wpList_box_row rfl 24 _ rfl _ rfl ?_
      | refine wpList_alloc_row rfl 24 rfl _ zero_nat ?_
      | refine wpList_loadR rfl 24 _ rfl _ rfl rB 4 _ Try.underlying24 (by exact size_nat) ?_)
    refine (rnot_any _ _).mono ?_
    rintro e w2 ⟨rfl, hb2⟩
    go_wp2_with fail
    refine (rint_any 1 _ (by omega)).mono ?_
    rintro e w3 ⟨rfl, hb3⟩
    go_wp2_with fail
    refine (radd_any _ _ _).mono ?_
    rintro e w4 ⟨rfl, hb4⟩
    have rA4 := ((rA.belowAll hb2).belowAll hb3).belowAll hb4
    have rB4 := ((rB.belowAll hb2).belowAll hb3).belowAll hb4
    have rR4 := ((rR.belowAll hb2).belowAll hb3).belowAll hb4
    have b4 := below_on (below_on (below_on bW (Nat.le_refl _) hb2) (Nat.le_refl _) hb3) (Nat.le_refl _) hb4
    clear rA rB rR bW hb2 hb3 hb4
    have r5 := Row.new w4 (natC (flip B + 1)) 24
    have rA5 := rA4.alloc (.cells (natC (flip B + 1)) 24)
    have rB5 := rB4.alloc (.cells (natC (flip B + 1)) 24)
    have rR5 := rR4.alloc (.cells (natC (flip B + 1)) 24)
    have b5 := b4.alloc b4.size (.cells (natC (flip B + 1)) 24)
    clear rA4 rB4 rR4 b4
    go_wp2_with (first
      | refine wpList_alloc_row rfl 24 rfl _ zero_nat ?_
      | refine wpList_store_new rfl 24 _ _ rfl _ rfl rfl _ _ (by exact size_nat) (by simp only [natC_size]) (natC_one _) ?_
      | refine wpList_loadR rfl 24 _ rfl _ rfl rA5 4 _ Try.underlying24 (by exact size_nat) ?_
      | refine wpList_loadR rfl 24 _ rfl _ rfl r5 4 _ Try.underlying24 (by exact size_nat) ?_)
    generalize w4.alloc (.cells (natC (flip B + 1)) 24) = w5 at *
    refine (radd_any _ _ _).mono ?_
    rintro e w6 ⟨rfl, hb6⟩
    rw [HS.out]
    have rA7 := (rA5.belowAll hb6).alloc (.cells (natC (less A B)) 24)
    have rB7 := (rB5.belowAll hb6).alloc (.cells (natC (less A B)) 24)
    have rR7 := (rR5.belowAll hb6).alloc (.cells (natC (less A B)) 24)
    have b6 := below_on b5 (Nat.le_refl _) hb6
    have b7 := b6.alloc b6.size (.cells (natC (less A B)) 24)
    have r7 := Row.new w6 (natC (less A B)) 24
    clear rA5 rB5 rR5 b5 hb6 b6 r5
    go_wp2_with (first
      | refine wpList_alloc_row rfl 24 rfl _ zero_nat ?_
      | refine wpList_store_new rfl 24 _ _ rfl _ rfl rfl _ _ (by exact size_nat) (by simp only [natC_size]) (natC_one _) ?_
      | refine wpList_loadR rfl 24 _ rfl _ rfl rA7 4 _ Try.underlying24 (by exact size_nat) ?_
      | refine wpList_loadR rfl 24 _ rfl _ rfl rB7 4 _ Try.underlying24 (by exact size_nat) ?_)
    generalize w6.alloc (.cells (natC (less A B)) 24) = w7 at *
    refine (rcmp_any _ _ _ HA.out HB.out).mono ?_
    rintro e w8 ⟨rfl, hb8⟩
    have rR8 := rR7.belowAll hb8
    have b8 := below_on b7 (Nat.le_refl _) hb8
    have r8 := r7.belowAll hb8
    clear rA7 rB7 rR7 b7 r7 hb8
    cases neg
    · have h3 : ¬ cmpI A B < 0 := of_decide_eq_false HG.out
      go_wp2_with (first
        | refine wpList_loadR rfl 24 _ rfl _ rfl r8 4 _ Try.underlying24 (by exact size_nat) ?_
        | refine wpList_storeR rfl 24 _ _ rfl _ _ rfl rfl rR8 (by exact size_nat) (by simp only [natC_size]) (natC_one _) ?_)
      exact ret_row2 rfl _ rfl (rR8.setRow _) 4 _ Try.underlying24 (by exact size_nat) rfl _ rfl ⟨rfl, below_setRow b8 (by omega) _⟩
    · have h3 : cmpI A B < 0 := of_decide_eq_true HG.out
      go_wp2_with (first
        | refine wpList_loadR rfl 24 _ rfl _ rfl r8 4 _ Try.underlying24 (by exact size_nat) ?_
        | refine wpList_storeR rfl 24 _ _ rfl _ _ rfl rfl rR8 (by exact size_nat) (by simp only [natC_size]) (natC_one _) ?_)
      exact ret_row2 rfl _ rfl (rR8.setRow _) 4 _ Try.underlying24 (by exact size_nat) rfl _ rfl ⟨rfl, below_setRow b8 (by omega) _⟩
  refine (key _ rfl).mono fun e w' ⟨he, hb⟩ => ⟨?_, hb⟩
  rw [he, HN.out]
  unfold cmpI
  by_cases hlt : A < B
  · rw [if_pos hlt, if_pos hlt]; rfl
  · rw [if_neg hlt, if_neg hlt]
    by_cases hgt : B < A
    · rw [if_pos hgt]; rfl
    · rw [if_neg hgt]; rfl
end Go.Proofs.Ytmmjjohnejimdaa
