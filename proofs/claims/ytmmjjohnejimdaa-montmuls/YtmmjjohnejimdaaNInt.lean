/- The rows of powers: naturals side by side, and how far they are kept. -/
import Derived.Test.YtmmjjohnejimdaaMixSl
import Derived.Test.YtmmjjohnejimdaaMTypes
import Derived.Test.YtmmjjohnejimdaaNSmall
namespace Go.Proofs.Ytmmjjohnejimdaa
open Go.RowKit

/-- Naturals, four cells each. -/
def nsC (n : Nat) (f : Nat → Nat) : Array Value := Array.ofFn (n := 4 * n) fun i => .int .u64 (lm (f (i / 4)) (i % 4) : Nat)
theorem nsC_size (n : Nat) (f : Nat → Nat) : (nsC n f).size = 4 * n := by simp [nsC]
theorem nsC_get (n : Nat) (f : Nat → Nat) (i : Nat) (h : i < 4 * n) : (nsC n f)[i]? = some (.int .u64 (lm (f (i / 4)) (i % 4) : Nat)) := by simp [nsC, h]
theorem nsC_part (n : Nat) (f : Nat → Nat) (k : Nat) (h : k < n) (off : Nat) (ho : off = 4 * k) : ∀ j v, (natC (f k)).toList[j]? = some v → (nsC n f)[off + j]? = some v := by
  subst ho
  refine part4 ?_ ?_ ?_ ?_
  · rw [nsC_get n f _ (by omega), show (4 * k + 0) / 4 = k by omega, show (4 * k + 0) % 4 = 0 by omega]
  · rw [nsC_get n f _ (by omega), show (4 * k + 1) / 4 = k by omega, show (4 * k + 1) % 4 = 1 by omega]
  · rw [nsC_get n f _ (by omega), show (4 * k + 2) / 4 = k by omega, show (4 * k + 2) % 4 = 2 by omega]
  · rw [nsC_get n f _ (by omega), show (4 * k + 3) / 4 = k by omega, show (4 * k + 3) % 4 = 3 by omega]
theorem nsC_congr (n : Nat) (f g : Nat → Nat) (h : ∀ k, k < n → f k = g k) : nsC n f = nsC n g := by
  apply Array.ext_getElem?
  intro i
  by_cases hi : i < 4 * n
  · rw [nsC_get n f i hi, nsC_get n g i hi, h _ (by omega)]
  · rw [Array.getElem?_eq_none (by rw [nsC_size]; omega), Array.getElem?_eq_none (by rw [nsC_size]; omega)]
theorem nsC_put (n : Nat) (f g : Nat → Nat) (k : Nat) (h : k < n) (off : Nat) (ho : off = 4 * k) (N : Nat) (hg : ∀ j, j < n → g j = if j = k then N else f j) : putL (nsC n f) off (natC N).toList = nsC n g := by
  subst ho
  apply Array.ext_getElem?
  intro i
  rw [putL_get _ _ _ _ (by rw [nsC_size, natC_list]; simp; omega)]
  have hl : (natC N).toList.length = 4 := rfl
  rw [hl]
  by_cases hi : i < 4 * n
  · rw [nsC_get n g i hi, hg _ (by omega)]
    by_cases e : i / 4 = k
    · rw [if_pos (by omega), if_pos e]
      have hj : i - 4 * k < 4 := by omega
      rw [show i % 4 = i - 4 * k by omega, Array.getElem?_toList]
      exact natC_get N _ hj
    · rw [if_neg (by omega), if_neg e, nsC_get n f i hi]
  · rw [if_neg (by omega), Array.getElem?_eq_none (by rw [nsC_size]; omega), Array.getElem?_eq_none (by rw [nsC_size]; omega)]
/-- Integers, one cell each. -/
def isC (n : Nat) (u : Nat → Nat) : Array Value := Array.ofFn (n := n) fun i => .int .i64 (u i : Nat)
theorem isC_size (n : Nat) (u : Nat → Nat) : (isC n u).size = n := by simp [isC]
theorem isC_get (n : Nat) (u : Nat → Nat) (i : Nat) (h : i < n) : (isC n u)[i]? = some (.int .i64 (u i : Nat)) := by simp [isC, h]
theorem isC_put (n : Nat) (u v : Nat → Nat) (k N : Nat) (hv : ∀ j, j < n → v j = if j = k then N else u j) : (isC n u).setIfInBounds k (.int .i64 (N : Nat)) = isC n v := by
  apply Array.ext_getElem?
  intro i
  by_cases hi : i < n
  · rw [Array.getElem?_setIfInBounds, isC_get n v i hi, hv i hi]
    by_cases e : k = i
    · subst e; simp [isC_size, hi]
    · rw [if_neg e, isC_get n u i hi, if_neg (fun x => e x.symm)]
  · rw [Array.getElem?_eq_none (by simp [isC_size]; omega), Array.getElem?_eq_none (by rw [isC_size]; omega)]
theorem made_ns (n m : Nat) (z : Array Value) (hz : ∀ i, i < z.size → z[i]! = .int .u64 0) (hs : 0 < z.size) (hm : m = 4 * n) : madeCells z m = nsC n fun _ => 0 := by
  subst hm
  apply Array.ext_getElem?
  intro i
  by_cases hi : i < 4 * n
  · rw [nsC_get n _ i hi]
    unfold madeCells
    rw [Array.getElem?_map, Array.getElem?_range, if_pos hi, Option.map_some, hz _ (Nat.mod_lt _ hs)]
    simp [lm]
  · rw [Array.getElem?_eq_none (by rw [size_madeCells]; omega), Array.getElem?_eq_none (by rw [nsC_size]; omega)]
theorem made_is (n : Nat) : madeCells #[.int .i64 0] n = isC n fun _ => 0 := by
  apply Array.ext_getElem?
  intro i
  by_cases hi : i < n
  · rw [isC_get n _ i hi]
    unfold madeCells
    rw [Array.getElem?_map, Array.getElem?_range, if_pos hi, Option.map_some]
    simp [Nat.mod_one]
  · rw [Array.getElem?_eq_none (by rw [size_madeCells]; omega), Array.getElem?_eq_none (by rw [isC_size]; omega)]
theorem Kept.trans {S S' : List Nat} {w w1 w2 : World} (h : Kept S w w1) (h' : Kept S' w1 w2) (hs : ∀ g ∈ S', g ∈ S ∨ w.heap.size ≤ g) : Kept S w w2 :=
  ⟨h'.os.trans h.os, h'.tape.trans h.tape, h'.output.trans h.output, Nat.le_trans h.size h'.size, fun b hb hn => (h'.block b (Nat.lt_of_lt_of_le hb h.size) fun hm => by
    rcases hs b hm with h1 | h1
    · exact hn h1
    · omega).trans (h.block b hb hn)⟩
theorem Kept.refl (S : List Nat) (w : World) : Kept S w w := ⟨rfl, rfl, rfl, Nat.le_refl _, fun _ _ _ => rfl⟩
/-- The form of a power. -/
def fpw (M b j : Nat) : Nat := b ^ j * 2 ^ 256 % M
/-- What is kept: the forms of the powers up to u. -/
def kfU (M : Nat) (b u : Nat → Nat) (i : Nat) : Nat := if 1 ≤ i % 16 ∧ i % 16 ≤ u (i / 16) then fpw M (b (i / 16)) (i % 16) else 0
theorem kfU_at (M : Nat) (b u : Nat → Nat) (k j : Nat) (h1 : 1 ≤ j) (h2 : j ≤ u k) (h3 : j < 16) : kfU M b u (16 * k + j) = fpw M (b k) j := by
  unfold kfU
  rw [show (16 * k + j) % 16 = j by omega, show (16 * k + j) / 16 = k by omega, if_pos ⟨h1, h2⟩]
theorem kfU_next (M : Nat) (b u : Nat → Nat) (k m : Nat) (hm : m < 15) (hu : u k = m) (i : Nat) : kfU M b (upd u k (m + 1)) i = if i = 16 * k + (m + 1) then fpw M (b k) (m + 1) else kfU M b u i := by
  unfold kfU
  by_cases e : i / 16 = k
  · subst e
    rw [upd_same]
    by_cases e2 : i = 16 * (i / 16) + (m + 1)
    · rw [if_pos e2, show i % 16 = m + 1 by omega, if_pos ⟨by omega, Nat.le_refl _⟩]
    · rw [if_neg e2, hu]
      by_cases e3 : 1 ≤ i % 16 ∧ i % 16 ≤ m
      · rw [if_pos e3, if_pos ⟨e3.1, by omega⟩]
      · rw [if_neg e3, if_neg (by omega)]
  · rw [upd_other u _ e, if_neg (show ¬ i = 16 * k + (m + 1) by omega)]
theorem fpw_lt (M b j : Nat) (h : 2 ≤ M) : fpw M b j < M := Nat.mod_lt _ (by omega)
theorem fpw_next (M b j : Nat) (h : M % 2 = 1) (h2 : 2 ≤ M) : mt (fpw M b j) (fpw M b 1) M = fpw M b (j + 1) := by
  have e : b ^ (j + 1) * 2 ^ 256 = b ^ j * 2 ^ 256 * b := by rw [Nat.pow_succ b j, Nat.mul_assoc, Nat.mul_comm b, ← Nat.mul_assoc]
  unfold fpw
  rw [Nat.pow_one, mt_form _ _ _ h h2, Nat.mod_mul_mod, e]
end Go.Proofs.Ytmmjjohnejimdaa
/- nat.Int, and the document's Sub. -/
namespace Go.Proofs.Ytmmjjohnejimdaa
open Go.RowKit

/-- A natural as an int, if it is one. -/
def lowI (A : Nat) : Int := if A < 9223372036854775808 then A else 0
def lowB (A : Nat) : Bool := decide (A < 9223372036854775808)

theorem lm_zero (A : Nat) : lm A 0 = A % 18446744073709551616 := by unfold lm; simp

theorem bitLen_63 (A : Nat) : bitLen A ≤ 63 ↔ A < 9223372036854775808 := by
  have h := bitLen_spec A
  constructor
  · intro hl
    exact Nat.lt_of_lt_of_le h.1 (Nat.pow_le_pow_right (by decide) hl)
  · intro hA
    unfold bitLen
    split
    · omega
    · rename_i h0
      have := (Nat.log2_lt h0).2 (show A < 2 ^ 63 from hA)
      omega
/-- The document's rest is what 'less' says. -/
theorem less_flip (A B : Nat) (hB : B < 2 ^ 256) : A + (flip B + 1) = less A B := by
  unfold flip less
  rw [Nat.mod_eq_of_lt hB]
  omega

set_option maxRecDepth 100000 in
set_option maxHeartbeats 1000000 in
theorem rsub_any (A B : Nat) (w : World) (hA : A < 2 ^ 256) (hB : B < 2 ^ 256) :
    Calls Try.prog 50 #[.agg (natC A), .agg (natC B)] w fun e w' => e = .returned (.tuple #[.agg (natC (less A B)), .int .i64 (bN A B 256 : Nat)]) ∧ Below w.heap.size w w' := by
  have rA : Row (((w.alloc (.cells (natC A) 24)).alloc (.cells (natC B) 24)).alloc (.cells (natC 0) 24)) w.heap.size (natC A) 24 := Row.two rfl
  have rB : Row (((w.alloc (.cells (natC A) 24)).alloc (.cells (natC B) 24)).alloc (.cells (natC 0) 24)) (w.heap.size + 1) (natC B) 24 := Row.one (by simp)
  have rR : Row (((w.alloc (.cells (natC A) 24)).alloc (.cells (natC B) 24)).alloc (.cells (natC 0) 24)) (w.heap.size + 1 + 1) (natC 0) 24 := Row.here (by simp)
  have HS : Hid (natC (A + (flip B + 1)) = natC (less A B)) := by show _ = _; rw [less_flip A B hB]
  have HN : Hid (bN A B 256 = if A < B then 1 else 0) := by show _ = _; unfold bN; rw [Nat.mod_eq_of_lt hA, Nat.mod_eq_of_lt hB]
  have HA : Hid (A < 2 ^ 256) := hA
  have HB : Hid (B < 2 ^ 256) := hB
  have bW := below_alloc3 (w := w) (.cells (natC A) 24) (.cells (natC B) 24) (.cells (natC 0) 24)
  clear hA hB
  have key : ∀ (neg : Bool), decide (cmpI A B < 0) = neg →
      Calls Try.prog 50 #[.agg (natC A), .agg (natC B)] w fun e w' => e = .returned (.tuple #[.agg (natC (less A B)), .int .i64 (cond neg 1 0)]) ∧ Below w.heap.size w w' := by
    intro neg hneg
    have HG : Hid (decide (cmpI A B < 0) = neg) := hneg
    clear hneg HN
    go_enter Try.func50, Try.ntmps50
    go_wp2_with (first
      | refine wpList_box_row rfl 24 _ rfl _ rfl ?_
      | refine wpList_alloc_row rfl 24 rfl _ zero_nat ?_
      | refine wpList_loadR rfl 24 _ rfl _ rfl rB 4 _ Try.underlying24 (by exact size_nat) ?_)
    refine (rnot_any _ _).mono ?_
    rintro e w2 ⟨rfl, hb2⟩
    go_wp2_with fail
    refine (rint_any 1 _ (by omega)).mono ?_
    rintro e w3 ⟨rfl, hb3⟩
    go_wp2_with fail
    refine (radd_any _ _ _).mono ?_
    rintro e w4 ⟨rfl, hb4⟩
    have rA4 := ((rA.belowAll hb2).belowAll hb3).belowAll hb4
    have rB4 := ((rB.belowAll hb2).belowAll hb3).belowAll hb4
    have rR4 := ((rR.belowAll hb2).belowAll hb3).belowAll hb4
    have b4 := below_on (below_on (below_on bW (Nat.le_refl _) hb2) (Nat.le_refl _) hb3) (Nat.le_refl _) hb4
    clear rA rB rR bW hb2 hb3 hb4
    have r5 := Row.new w4 (natC (flip B + 1)) 24
    have rA5 := rA4.alloc (.cells (natC (flip B + 1)) 24)
    have rB5 := rB4.alloc (.cells (natC (flip B + 1)) 24)
    have rR5 := rR4.alloc (.cells (natC (flip B + 1)) 24)
    have b5 := b4.alloc b4.size (.cells (natC (flip B + 1)) 24)
    clear rA4 rB4 rR4 b4
    go_wp2_with (first
      | refine wpList_alloc_row rfl 24 rfl _ zero_nat ?_
      | refine wpList_store_new rfl 24 _ _ rfl _ rfl rfl _ _ (by exact size_nat) (by simp only [natC_size]) (natC_one _) ?_
      | refine wpList_loadR rfl 24 _ rfl _ rfl rA5 4 _ Try.underlying24 (by exact size_nat) ?_
      | refine wpList_loadR rfl 24 _ rfl _ rfl r5 4 _ Try.underlying24 (by exact size_nat) ?_)
    generalize w4.alloc (.cells (natC (flip B + 1)) 24) = w5 at *
    refine (radd_any _ _ _).mono ?_
    rintro e w6 ⟨rfl, hb6⟩
    rw [HS.out]
    have rA7 := (rA5.belowAll hb6).alloc (.cells (natC (less A B)) 24)
    have rB7 := (rB5.belowAll hb6).alloc (.cells (natC (less A B)) 24)
    have rR7 := (rR5.belowAll hb6).alloc (.cells (natC (less A B)) 24)
    have b6 := below_on b5 (Nat.le_refl _) hb6
    have b7 := b6.alloc b6.size (.cells (natC (less A B)) 24)
    have r7 := Row.new w6 (natC (less A B)) 24
    clear rA5 rB5 rR5 b5 hb6 b6 r5
    go_wp2_with (first
      | refine wpList_alloc_row rfl 24 rfl _ zero_nat ?_
      | refine wpList_store_new rfl 24 _ _ rfl _ rfl rfl _ _ (by exact size_nat) (by simp only [natC_size]) (natC_one _) ?_
      | refine wpList_loadR rfl 24 _ rfl _ rfl rA7 4 _ Try.underlying24 (by exact size_nat) ?_
      | refine wpList_loadR rfl 24 _ rfl _ rfl rB7 4 _ Try.underlying24 (by exact size_nat) ?_)
    generalize w6.alloc (.cells (natC (less A B)) 24) = w7 at *
    refine (rcmp_any _ _ _ HA.out HB.out).mono ?_
    rintro e w8 ⟨rfl, hb8⟩
    have rR8 := rR7.belowAll hb8
    have b8 := below_on b7 (Nat.le_refl _) hb8
    have r8 := r7.belowAll hb8
    clear rA7 rB7 rR7 b7 r7 hb8
    cases neg
    · have h3 : ¬ cmpI A B < 0 := of_decide_eq_false HG.out
      go_wp2_with (first
        | refine wpList_loadR rfl 24 _ rfl _ rfl r8 4 _ Try.underlying24 (by exact size_nat) ?_
        | refine wpList_storeR rfl 24 _ _ rfl _ _ rfl rfl rR8 (by exact size_nat) (by simp only [natC_size]) (natC_one _) ?_)
      exact ret_row2 rfl _ rfl (rR8.setRow _) 4 _ Try.underlying24 (by exact size_nat) rfl _ rfl ⟨rfl, below_setRow b8 (by omega) _⟩
    · have h3 : cmpI A B < 0 := of_decide_eq_true HG.out
      go_wp2_with (first
        | refine wpList_loadR rfl 24 _ rfl _ rfl r8 4 _ Try.underlying24 (by exact size_nat) ?_
        | refine wpList_storeR rfl 24 _ _ rfl _ _ rfl rfl rR8 (by exact size_nat) (by simp only [natC_size]) (natC_one _) ?_)
      exact ret_row2 rfl _ rfl (rR8.setRow _) 4 _ Try.underlying24 (by exact size_nat) rfl _ rfl ⟨rfl, below_setRow b8 (by omega) _⟩
  refine (key _ rfl).mono fun e w' ⟨he, hb⟩ => ⟨?_, hb⟩
  rw [he, HN.out]
  unfold cmpI
  by_cases hlt : A < B
  · rw [if_pos hlt, if_pos hlt]; rfl
  · rw [if_neg hlt, if_neg hlt]
    by_cases hgt : B < A
    · rw [if_pos hgt]; rfl
    · rw [if_neg hgt]; rfl
end Go.Proofs.Ytmmjjohnejimdaa
