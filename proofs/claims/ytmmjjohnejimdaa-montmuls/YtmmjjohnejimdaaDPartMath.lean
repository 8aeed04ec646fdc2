/- The document's below: are digits below others? -/
import Derived.Test.YtmmjjohnejimdaaDTypes
import Derived.Test.YtmmjjohnejimdaaQuiet
namespace Go.Proofs.Ytmmjjohnejimdaa
open Go.RowKit

theorem div_digit (A k : Nat) : A / 2 ^ (16 * k) = 65536 * (A / 2 ^ (16 * (k + 1))) + dg A k := by
  rw [pow_digit, ← Nat.div_div_eq_div_mul]
  unfold dg
  omega
theorem far_any (A n m k : Nat) (hk : k = n + m) (h : A < 2 ^ n * 2 ^ m) : A / 2 ^ k = 0 := by
  subst hk
  rw [Nat.pow_add]
  exact Nat.div_eq_of_lt h
theorem lt_of_div {A B P : Nat} (h : A / P < B / P) : A < B := by
  rcases Nat.lt_or_ge A B with h1 | h1
  · exact h1
  · have := Nat.div_le_div_right (c := P) h1; omega

set_option maxRecDepth 100000 in
set_option maxHeartbeats 400000 in
theorem below_any (A B : Nat) (w : World) (hA : A < 2 ^ 256 * 2 ^ 256) (hB : B < 2 ^ 256 * 2 ^ 256) :
    Calls Try.prog 66 #[.agg (digC A), .agg (digC B)] w fun e w' => e = .returned (.bool (decide (A < B))) ∧ Below w.heap.size w w' := by
  have h0 : Hid (A / 2 ^ (16 * 32) = B / 2 ^ (16 * 32)) := (far_any A 256 256 (16 * 32) rfl hA).trans (far_any B 256 256 (16 * 32) rfl hB).symm
  clear hA hB
  go_enter Try.func66, Try.ntmps66
  go_wp2_with (first
    | refine wpList_box_row rfl 50 _ rfl _ rfl ?_)
  have s0 : Row ((w.alloc (.cells (digC A) 50)).alloc (.cells (digC B) 50)) w.heap.size (digC A) 50 := ((Row.here (by first | rfl | simp only [alloc_size])).alloc _)
  have s1 : Row ((w.alloc (.cells (digC A) 50)).alloc (.cells (digC B) 50)) (w.heap.size + 1) (digC B) 50 := (Row.here (by first | rfl | simp only [alloc_size]))
  have s2 := below_alloc2 (w := w) (.cells (digC A) 50) (.cells (digC B) 50)
  generalize (w.alloc (.cells (digC A) 50)).alloc (.cells (digC B) 50) = W at *
  go_loopg [5] 32 (fun g s5 wr => s5 = .int .i64 ((g : Int) - 1) ∧ g ≤ 32 ∧ A / 2 ^ (16 * g) = B / 2 ^ (16 * g) ∧ Row wr w.heap.size (digC A) 50 ∧ Row wr (w.heap.size + 1) (digC B) 50 ∧ Below w.heap.size w wr)
  case atStart => exact ⟨rfl, Nat.le_refl _, h0.out, s0, s1, s2⟩
  case round =>
    obtain ⟨rfl, hle, hdiv, r0, r1, hb⟩ := hrel
    clear s0 s1 s2 h0
    cases gk with
    | zero =>
      rw [Nat.mul_zero, Nat.pow_zero, Nat.div_one, Nat.div_one] at hdiv
      subst hdiv
      clear hle
      have hx : ¬ ((0 : Int) ≤ -1) := by omega
      go_wp2
      go_ret
      exact ⟨by simp, hb⟩
    | succ g =>
      have dA := div_digit A g
      have dB := div_digit B g
      rw [hdiv] at dA
      have hc0 := cell_dig r0 g (by omega)
      have hc1 := cell_dig r1 g (by omega)
      rw [show ((g + 1 : Nat) : Int) - 1 = (g : Int) by omega]
      have hgl : (g : Int) < 32 := by omega
      clear hdiv
      generalize dg A g = x at *
      generalize dg B g = y at *
      have R : Aside (A / 2 ^ (16 * g) = 65536 * (B / 2 ^ (16 * (g + 1))) + x ∧ B / 2 ^ (16 * g) = 65536 * (B / 2 ^ (16 * (g + 1))) + y ∧ Row wr w.heap.size (digC A) 50 ∧ Row wr (w.heap.size + 1) (digC B) 50 ∧ Below w.heap.size w wr) := ⟨dA, dB, r0, r1, hb⟩
      clear dA dB r0 r1 hb
      rcases Nat.lt_trichotomy x y with h | h | h
      · have h1 : (x : Int) < y := by omega
        have h2 : ¬ ((x : Int) = y) := by omega
        go_wp2
        go_quiet (fail)
        go_wp2
        go_quiet (fail)
        go_wp2
        obtain ⟨e1, e2, r0, r1, hb⟩ := R.out
        go_ret
        have hlt : A < B := lt_of_div (P := 2 ^ (16 * g)) (by omega)
        exact ⟨by simp [hlt], below_dn (below_dn hb _) _⟩
      · subst h
        go_wp2
        go_quiet (fail)
        go_wp2
        obtain ⟨e1, e2, r0, r1, hb⟩ := R.out
        go_roundg g
        case measure => omega
        case rel => exact ⟨rfl, by omega, by omega, r0, r1, below_dn hb _⟩
      · have h1 : ¬ ((x : Int) < y) := by omega
        have h2 : ¬ ((x : Int) = y) := by omega
        go_wp2
        go_quiet (fail)
        go_wp2
        go_quiet (fail)
        go_wp2
        obtain ⟨e1, e2, r0, r1, hb⟩ := R.out
        go_ret
        have hlt : B < A := lt_of_div (P := 2 ^ (16 * g)) (by omega)
        exact ⟨by simp; omega, below_dn (below_dn hb _) _⟩
end Go.Proofs.Ytmmjjohnejimdaa
/- Plain mathematics: a division bit by bit. -/
namespace Go.Proofs.Ytmmjjohnejimdaa

/-- What is left, and how often, behind the bits from g on. -/
def pR (A M g : Nat) : Nat := A / 2 ^ g % M
def pQ (A M g : Nat) : Nat := 2 ^ g * (A / 2 ^ g / M)
def pB (A g : Nat) : Nat := A / 2 ^ g % 2
theorem pB_le (A g : Nat) : pB A g ≤ 1 := by unfold pB; omega
theorem pR_zero (A M g : Nat) (h : A / 2 ^ g = 0) : pR A M g = 0 := by unfold pR; rw [h, Nat.zero_mod]
theorem pQ_zero (A M g : Nat) (h : A / 2 ^ g = 0) : pQ A M g = 0 := by unfold pQ; rw [h, Nat.zero_div, Nat.mul_zero]
theorem pR_far (A M : Nat) (h : A < 2 ^ 256 * 2 ^ 256) : pR A M 512 = 0 := pR_zero A M 512 (far_any A 256 256 512 rfl h)
theorem pQ_far (A M : Nat) (h : A < 2 ^ 256 * 2 ^ 256) : pQ A M 512 = 0 := pQ_zero A M 512 (far_any A 256 256 512 rfl h)
theorem pR_end (A M : Nat) : pR A M 0 = A % M := by unfold pR; rw [Nat.pow_zero, Nat.div_one]
theorem pQ_end (A M : Nat) : pQ A M 0 = A / M := by unfold pQ; rw [Nat.pow_zero, Nat.div_one, Nat.one_mul]
theorem p_half (A g : Nat) : A / 2 ^ g = 2 * (A / 2 ^ (g + 1)) + pB A g := by
  unfold pB
  rw [Nat.pow_succ, ← Nat.div_div_eq_div_mul]; omega
/-- The bit, as Go asks for it. -/
theorem pB_go (A g : Nat) : bits .and .i64 ((dg A (g / 16) / 2 ^ (g % 16) : Nat) : Int) 1 = (pB A g : Int) := by
  have hd := dg_lt A (g / 16)
  have h2 : dg A (g / 16) / 2 ^ (g % 16) ≤ dg A (g / 16) := Nat.div_le_self _ _
  rw [show (1 : Int) = ((1 : Nat) : Int) from rfl, i64_and_nat _ _ (by omega) (by decide), Nat.and_one_is_mod]
  congr 1
  have h3 : (dg A (g / 16)).testBit (g % 16) = A.testBit g := by
    rw [dg_testBit, show 16 * (g / 16) + g % 16 = g by omega]
    simp [Nat.mod_lt]
  rw [Nat.testBit_eq_decide_div_mod_eq, Nat.testBit_eq_decide_div_mod_eq] at h3
  unfold pB
  have h4 := decide_eq_decide.1 h3
  omega
theorem p_less (A M g r : Nat) (hM : 0 < M) (hr : r = 2 * pR A M (g + 1) + pB A g) (h : r < M) : pR A M g = r ∧ pQ A M g = pQ A M (g + 1) := by
  subst hr
  unfold pR pQ at *
  rw [p_half A g]
  have hd := Nat.div_add_mod (A / 2 ^ (g + 1)) M
  generalize A / 2 ^ (g + 1) = X at *
  generalize pB A g = b at *
  have e : 2 * X + b = M * (2 * (X / M)) + (2 * (X % M) + b) := by rw [← Nat.mul_assoc, Nat.mul_comm M 2, Nat.mul_assoc]; omega
  refine ⟨?_, ?_⟩
  · rw [e, Nat.mul_add_mod, Nat.mod_eq_of_lt h]
  · rw [e, Nat.mul_add_div hM, Nat.div_eq_of_lt h, Nat.add_zero, Nat.pow_succ, Nat.mul_assoc]
theorem p_more (A M g r : Nat) (hM : 0 < M) (hr : r = 2 * pR A M (g + 1) + pB A g) (h : M ≤ r) : pR A M g = r - M ∧ pQ A M g = pQ A M (g + 1) + 2 ^ g := by
  subst hr
  have hb := pB_le A g
  unfold pR pQ at *
  rw [p_half A g]
  have hd := Nat.div_add_mod (A / 2 ^ (g + 1)) M
  have hm := Nat.mod_lt (A / 2 ^ (g + 1)) hM
  generalize A / 2 ^ (g + 1) = X at *
  generalize pB A g = b at *
  have e : 2 * X + b = M * (2 * (X / M) + 1) + (2 * (X % M) + b - M) := by rw [Nat.mul_add, ← Nat.mul_assoc, Nat.mul_comm M 2, Nat.mul_assoc]; omega
  have hl : 2 * (X % M) + b - M < M := by omega
  refine ⟨?_, ?_⟩
  · rw [e, Nat.mul_add_mod, Nat.mod_eq_of_lt hl]
  · rw [e, Nat.mul_add_div hM, Nat.div_eq_of_lt hl, Nat.add_zero, Nat.mul_add, Nat.mul_one, Nat.pow_succ, Nat.mul_assoc]
theorem p_bound (A M g : Nat) (hM : 0 < M) (h2 : M < 2 ^ 256) : 2 * pR A M (g + 1) + pB A g < 2 ^ 256 * 2 ^ 256 := by
  have hb := pB_le A g
  have hm : pR A M (g + 1) < M := Nat.mod_lt _ hM
  have : (2 : Nat) ^ 256 * 2 ≤ 2 ^ 256 * 2 ^ 256 := Nat.mul_le_mul_left _ (by decide)
  omega
/-- One bit more, in its digit. -/
theorem p_set (X g : Nat) : (digC (2 ^ (g + 1) * X)).setIfInBounds (g / 16) (.int .i64 ((dg (2 ^ (g + 1) * X) (g / 16) ||| 2 ^ (g % 16) : Nat) : Int)) = digC (2 ^ (g + 1) * X + 2 ^ g) := by
  refine digF_set _ _ _ _ fun i _ => ?_
  have hlt : 2 ^ g < 2 ^ (g + 1) := Nat.pow_lt_pow_of_lt (by decide) (by omega)
  have hor := Nat.two_pow_add_eq_or_of_lt hlt X
  apply Nat.eq_of_testBit_eq
  intro j
  rw [hor]
  by_cases h1 : i = g / 16
  · subst h1
    rw [if_pos rfl, dg_testBit, Nat.testBit_or, Nat.testBit_or, dg_testBit, Nat.testBit_two_pow, Nat.testBit_two_pow]
    by_cases hj : j < 16
    · simp only [hj, decide_true, Bool.true_and]
      congr 1
      exact decide_eq_decide.2 (by omega)
    · simp [hj, show ¬ g % 16 = j by omega]
  · rw [if_neg h1, dg_testBit, Nat.testBit_or, dg_testBit, Nat.testBit_two_pow]
    by_cases hj : j < 16
    · simp [show ¬ g = 16 * i + j by omega]
    · simp [hj]
theorem p_or (L g : Nat) (hL : L < 65536) : bits .or .i64 (L : Int) (IntKind.i64.wrap (((1 : Nat) : Int) * 2 ^ (g % 16))) = ((L ||| 2 ^ (g % 16) : Nat) : Int) := by
  rw [show (((1 : Nat) : Int) * 2 ^ (g % 16)) = 2 ^ (g % 16) by simp]
  exact or_bit_i L (g % 16) (by omega) (by omega)
end Go.Proofs.Ytmmjjohnejimdaa
