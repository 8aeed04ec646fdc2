/- The document's below: are digits below others? -/
import Derived.Test.YtmmjjohnejimdaaDTypes
import Derived.Test.YtmmjjohnejimdaaQuiet
namespace Go.Proofs.Ytmmjjohnejimdaa
open Go.RowKit

theorem div_digit (A k : Nat) : A / 2 ^ (16 * k) = 65536 * (A / 2 ^ (16 * (k + 1))) + dg A k := by
  rw [pow_digit, ← Nat.div_div_eq_div_mul]
  unfold dg
  omega
theorem far_any (A n m k : Nat) (hk : k = n + m) (h : A < 2 ^ n * 2 ^ m) : A / 2 ^ k = 0 := by
  subst hk
  rw [Nat.pow_add]
  exact Nat.div_eq_of_lt h
theorem lt_of_div {A B P : Nat} (h : A / P < B / P) : A < B := by
  rcases Nat.lt_or_ge A B with h1 | h1
  · exact h1
  · have := Nat.div_le_div_right (c := P) h1; omega

set_option maxRecDepth 100000 in
set_option maxHeartbeats 400000 in
theorem below_any (A B : Nat) (w : World) (hA : A < 2 ^ 256 * 2 ^ 256) (hB : B < 2 ^ 256 * 2 ^ 256) :
    Calls Try.prog 66 #[.agg (digC A), .agg (digC B)] w fun e w' => e = .returned (.bool (decide (A < B))) ∧ Below w.heap.size w w' := by
  have h0 : Hid (A / 2 ^ (16 * 32) = B / 2 ^ (16 * 32)) := (far_any A 256 256 (16 * 32) rfl hA).trans (far_any B 256 256 (16 * 32) rfl hB).symm
  clear hA hB
  go_enter Try.func66, Try.ntmps66
  go_wp2_with (first
    | refine wpList_box_row rfl 50 _ rfl _ rfl ?_)
  have s0 : Row ((w.alloc (.cells (digC A) 50)).alloc (.cells (digC B) 50)) w.heap.size (digC A) 50 := ((Row.here (by first | rfl | simp only [alloc_size])).alloc _)
  have s1 : Row ((w.alloc (.cells (digC A) 50)).alloc (.cells (digC B) 50)) (w.heap.size + 1) (digC B) 50 := (Row.here (by first | rfl | simp only [alloc_size]))
  have s2 := below_alloc2 (w := w) (.cells (digC A) 50) (.cells (digC B) 50)
  generalize (w.alloc (.cells (digC A) 50)).alloc (.cells (digC B) 50) = W at *
  go_loopg [5] 32 (fun g s5 wr => s5 = .int .i64 ((g : Int) - 1) ∧ g ≤ 32 ∧ A / 2 ^ (16 * g) = B / 2 ^ (16 * g) ∧ Row wr w.heap.size (digC A) 50 ∧ Row wr (w.heap.size + 1) (digC B) 50 ∧ Below w.heap.size w wr)
  case atStart => exact ⟨rfl, Nat.le_refl _, h0.out, s0, s1, s2⟩
  case round =>
    obtain ⟨rfl, hle, hdiv, r0, r1, hb⟩ := hrel
    clear s0 s1 s2 h0
    cases gk with
    | zero =>
      rw [Nat.mul_zero, Nat.pow_zero, Nat.div_one, Nat.div_one] at hdiv
      subst hdiv
      clear hle
      have hx : ¬ ((0 : Int) ≤ -1) := by omega
      go_wp2
      go_ret
      exact ⟨by simp, hb⟩
    | succ g =>
      have dA := div_digit A g
      have dB := div_digit B g
      rw [hdiv] at dA
      have hc0 := cell_dig r0 g (by omega)
      have hc1 := cell_dig r1 g (by omega)
      rw [show ((g + 1 : Nat) : Int) - 1 = (g : Int) by omega]
      have hgl : (g : Int) < 32 := by omega
      clear hdiv
      generalize dg A g = x at *
      generalize dg B g = y at *
      have R : Aside (A / 2 ^ (16 * g) = 65536 * (B / 2 ^ (16 * (g + 1))) + x ∧ B / 2 ^ (16 * g) = 65536 * (B / 2 ^ (16 * (g + 1))) + y ∧ Row wr w.heap.size (digC A) 50 ∧ Row wr (w.heap.size + 1) (digC B) 50 ∧ Below w.heap.size w wr) := ⟨dA, dB, r0, r1, hb⟩
      clear dA dB r0 r1 hb
      rcases Nat.lt_trichotomy x y with h | h | h
      · have h1 : (x : Int) < y := by omega
        have h2 : ¬ ((x : Int) = y) := by omega
        go_wp2
        go_quiet (fail)
        go_wp2
        go_quiet (fail)
        go_wp2
        obtain ⟨e1, e2, r0, r1, hb⟩ := R.out
        go_ret
        have hlt : A < B := lt_of_div (P := 2 ^ (16 * g)) (by omega)
        exact ⟨by simp [hlt], below_dn (below_dn hb _) _⟩
      · subst h
        go_wp2
        go_quiet (fail)
        go_wp2
        obtain ⟨e1, e2, r0, r1, hb⟩ := R.out
        go_roundg g
        case measure => omega
        case rel => exact ⟨rfl, by omega, by omega, r0, r1, below_dn hb _⟩
      · have h1 : ¬ ((x : Int) < y) := by omega
        have h2 : ¬ ((x : Int) = y) := by omega
        go_wp2
        go_quiet (fail)
        go_wp2
        go_quiet (fail)
        go_wp2
        obtain ⟨e1, e2, r0, r1, hb⟩ := R.out
        go_ret
        have hlt : B < A := lt_of_div (P := 2 ^ (16 * g)) (by omega)
        exact ⟨by simp; omega, below_dn (below_dn hb _) _⟩
end Go.Proofs.Ytmmjjohnejimdaa
