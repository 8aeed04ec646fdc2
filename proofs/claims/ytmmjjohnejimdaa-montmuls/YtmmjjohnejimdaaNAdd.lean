/- Plain mathematics: sums and rests, limb by limb. -/
import Derived.Test.YtmmjjohnejimdaaTypes
import Derived.Test.YtmmjjohnejimdaaQuiet
import Derived.Deep.RegionLaw
namespace Go.Proofs.Ytmmjjohnejimdaa

theorem lm_mod (N k i : Nat) : lm (N % 2 ^ (64 * k)) i = if i < k then lm N i else 0 := by
  apply Nat.eq_of_testBit_eq
  intro j
  rw [lm_testBit, Nat.testBit_mod_two_pow]
  split
  · rw [lm_testBit]
    by_cases hj : j < 64
    · simp [hj, show 64 * i + j < 64 * k by omega]
    · simp [hj]
  · rw [Nat.zero_testBit]
    by_cases hj : j < 64
    · simp [show ¬ 64 * i + j < 64 * k by omega]
    · simp [hj]
theorem natC_limb (N k v : Nat) (hk : k < 4) (hv : v = lm N k) : (natC (N % 2 ^ (64 * k))).setIfInBounds k (.int .u64 v) = natC (N % 2 ^ (64 * (k + 1))) := by
  subst hv
  refine natC_set _ _ _ _ hk ?_ ?_
  · rw [lm_mod, if_pos (by omega)]
  · intro i _ hne
    rw [lm_mod, lm_mod]
    by_cases h : i < k
    · rw [if_pos (by omega), if_pos h]
    · rw [if_neg (by omega), if_neg h]
/-- What goes over, as a number. -/
def cN (A B k : Nat) : Nat := if carry A B k = true then 1 else 0
theorem cN_le (A B k : Nat) : cN A B k ≤ 1 := by unfold cN; split <;> omega
theorem cN_eq (A B k : Nat) : cN A B k = if 2 ^ k ≤ A % 2 ^ k + B % 2 ^ k then 1 else 0 := by unfold cN carry; simp
theorem pow_limb (k : Nat) : 2 ^ (64 * (k + 1)) = 2 ^ (64 * k) * 18446744073709551616 := by
  rw [show 64 * (k + 1) = 64 * k + 64 by omega, Nat.pow_add]
theorem add_limb (A B k : Nat) : lm (A + B) k = (lm A k + lm B k + cN A B (64 * k)) % 18446744073709551616 := by
  have hP := Nat.two_pow_pos (64 * k)
  rw [cN_eq]
  show (A + B) / 2 ^ (64 * k) % 18446744073709551616 = (A / 2 ^ (64 * k) % 18446744073709551616 + B / 2 ^ (64 * k) % 18446744073709551616 + _) % 18446744073709551616
  rw [add_div A B _ hP]
  omega
theorem mod_limb (A k : Nat) : A % 2 ^ (64 * (k + 1)) = A % 2 ^ (64 * k) + 2 ^ (64 * k) * lm A k := by
  rw [pow_limb, Nat.mod_mul]; rfl
theorem add_carry (A B k : Nat) : cN A B (64 * (k + 1)) = (lm A k + lm B k + cN A B (64 * k)) / 18446744073709551616 := by
  have hP := Nat.two_pow_pos (64 * k)
  have ha := Nat.mod_lt A hP
  have hb := Nat.mod_lt B hP
  have la := lm_lt A k
  have lb := lm_lt B k
  rw [cN_eq, cN_eq, mod_limb, mod_limb, pow_limb]
  generalize lm A k = x at *
  generalize lm B k = y at *
  generalize 2 ^ (64 * k) = P at *
  generalize A % P = a at *
  generalize B % P = b at *
  have key : ∀ u v : Nat, u ≤ v → P * u ≤ P * v := fun u v h => Nat.mul_le_mul_left P h
  have e1 : P * (x + y) = P * x + P * y := Nat.mul_add P x y
  by_cases hc : P ≤ a + b
  · rw [if_pos hc]
    by_cases hm : 18446744073709551616 ≤ x + y + 1
    · have := key 18446744073709551616 (x + y + 1) hm
      rw [Nat.mul_add, Nat.mul_one] at this
      rw [if_pos (by omega)]; omega
    · have := key (x + y + 2) 18446744073709551616 (by omega)
      rw [Nat.mul_add] at this
      rw [if_neg (by omega)]; omega
  · rw [if_neg hc]
    by_cases hm : 18446744073709551616 ≤ x + y
    · have := key 18446744073709551616 (x + y) hm
      rw [if_pos (by omega)]; omega
    · have := key (x + y + 1) 18446744073709551616 (by omega)
      rw [Nat.mul_add, Nat.mul_one] at this
      rw [if_neg (by omega)]; omega

/-- What is borrowed at bit k when B is taken from A. -/
def bN (A B k : Nat) : Nat := if A % 2 ^ k < B % 2 ^ k then 1 else 0
theorem bN_le (A B k : Nat) : bN A B k ≤ 1 := by unfold bN; split <;> omega
theorem sub_borrow (A B k : Nat) : bN A B (64 * (k + 1)) = if lm A k < lm B k + bN A B (64 * k) then 1 else 0 := by
  have hP := Nat.two_pow_pos (64 * k)
  have ha := Nat.mod_lt A hP
  have hb := Nat.mod_lt B hP
  unfold bN
  rw [mod_limb, mod_limb]
  generalize lm A k = x at *
  generalize lm B k = y at *
  generalize 2 ^ (64 * k) = P at *
  generalize A % P = a at *
  generalize B % P = b at *
  have key : ∀ u v : Nat, u ≤ v → P * u ≤ P * v := fun u v h => Nat.mul_le_mul_left P h
  obtain ⟨c, hc, e⟩ : ∃ c, (if a < b then 1 else 0) = c ∧ ((a < b ∧ c = 1) ∨ (¬ a < b ∧ c = 0)) := ⟨_, rfl, by
    by_cases hc : a < b
    · exact .inl ⟨hc, if_pos hc⟩
    · exact .inr ⟨hc, if_neg hc⟩⟩
  rw [hc]
  rcases Nat.lt_trichotomy x y with h | h | h
  · have := key (x + 1) y h
    rw [Nat.mul_add, Nat.mul_one] at this
    rw [if_pos (by omega), if_pos (by omega)]
  · subst h
    rcases e with ⟨e1, e2⟩ | ⟨e1, e2⟩
    · rw [if_pos (by omega), if_pos (by omega)]
    · rw [if_neg (by omega), if_neg (by omega)]
  · have := key (y + 1) x h
    rw [Nat.mul_add, Nat.mul_one] at this
    rw [if_neg (by omega), if_neg (by omega)]
/-- A less B, modulo 2^256. -/
def less (A B : Nat) : Nat := A + (2 ^ 256 - B)
theorem less_div (A B Q P : Nat) (hP : 0 < P) (hB : B < P * Q) : (A + (P * Q - B)) / P = A / P + Q - B / P - if A % P < B % P then 1 else 0 := by
  have ha := Nat.div_add_mod A P
  have hb := Nat.div_add_mod B P
  have ma := Nat.mod_lt A hP
  have mb := Nat.mod_lt B hP
  have hbQ : B / P < Q := Nat.div_lt_of_lt_mul hB
  generalize A / P = x at *
  generalize B / P = y at *
  generalize A % P = a at *
  generalize B % P = b at *
  obtain ⟨z, rfl⟩ : ∃ z, Q = y + 1 + z := ⟨Q - (y + 1), by omega⟩
  have e : P * (y + 1 + z) = P * y + P + P * z := by rw [Nat.mul_add, Nat.mul_add, Nat.mul_one]
  split
  · have : A + (P * (y + 1 + z) - B) = P * (x + z) + (P + a - b) := by have e2 : P * (x + z) = P * x + P * z := Nat.mul_add _ _ _; omega
    rw [this, Nat.mul_add_div hP, Nat.div_eq_of_lt (by omega)]
    omega
  · have e2 : P * (x + z + 1) = P * x + P * z + P := by rw [Nat.mul_add, Nat.mul_add, Nat.mul_one]
    have : A + (P * (y + 1 + z) - B) = P * (x + z + 1) + (a - b) := by omega
    rw [this, Nat.mul_add_div hP, Nat.div_eq_of_lt (by omega)]
    omega
theorem sub_limb (A B k : Nat) (hk : k < 4) (hB : B < 2 ^ 256) : lm (less A B) k = (lm A k + 18446744073709551616 - lm B k - bN A B (64 * k)) % 18446744073709551616 := by
  have hP := Nat.two_pow_pos (64 * k)
  have hQ : 2 ^ 256 = 2 ^ (64 * k) * (2 ^ (64 * (3 - k)) * 18446744073709551616) := by
    rw [← Nat.mul_assoc, ← Nat.pow_add, show 18446744073709551616 = 2 ^ 64 from rfl, ← Nat.pow_add]
    congr 1; omega
  unfold less bN lm
  rw [hQ] at hB ⊢
  rw [less_div A B _ _ hP hB]
  have hbQ : B / 2 ^ (64 * k) < 2 ^ (64 * (3 - k)) * 18446744073709551616 := Nat.div_lt_of_lt_mul hB
  generalize A / 2 ^ (64 * k) = x at *
  generalize B / 2 ^ (64 * k) = y at *
  generalize 2 ^ (64 * (3 - k)) = z at *
  split <;> omega
end Go.Proofs.Ytmmjjohnejimdaa
/- nat.Add and nat.Sub: the limbs' sums and rests, carried. -/
namespace Go.Proofs.Ytmmjjohnejimdaa
open Go.RowKit

theorem find_add64 : Extern.find Try.f60 = some add64Entry := by kernel_rfl
theorem next_add64 : Extern.findNext Try.f60 = none := by kernel_rfl
theorem find_sub64 : Extern.find Try.f68 = some sub64Entry := by kernel_rfl
theorem next_sub64 : Extern.findNext Try.f68 = none := by kernel_rfl
set_option maxRecDepth 100000 in
set_option maxHeartbeats 400000 in
theorem nadd_any (A B : Nat) (w : World) :
    Calls Try.prog 46 #[.agg (natC A), .agg (natC B)] w fun e w' => e = .returned (.tuple #[.agg (natC (A + B)), .int .i64 (cN A B 256 : Nat)]) ∧ Below w.heap.size w w' := by
  go_enter Try.func46, Try.ntmps46
  go_wp2_with (first
    | refine wpList_box_row rfl 24 _ rfl _ rfl ?_
    | refine wpList_alloc_row rfl 24 rfl _ zero_nat ?_)
  go_loopg [7, 9] 4 (fun g s7 s9 wr => ∃ k : Nat, k + g = 4 ∧ s7 = .int .u64 (cN A B (64 * k)) ∧ s9 = .int .i64 k ∧ Row wr w.heap.size (natC A) 24 ∧ Row wr (w.heap.size + 1) (natC B) 24 ∧ Row wr (w.heap.size + 1 + 1) (natC 0) 24 ∧ Row wr (w.heap.size + 1 + 1 + 1) (natC ((A + B) % 2 ^ (64 * k))) 24 ∧ Below w.heap.size w wr)
  case atStart =>
    refine ⟨0, by omega, by rw [show cN A B (64 * 0) = 0 by unfold cN; rw [show carry A B (64 * 0) = false from carry_zero A B]; rfl]; rfl, rfl, (Row.two rfl).alloc _, Row.two (by simp), Row.one (by simp), ?_, (below_alloc3 _ _ _).alloc (by simp; omega) _⟩
    rw [show (A + B) % 2 ^ (64 * 0) = 0 by simp [Nat.mod_one]]
    exact Row.here (by simp)
  case round =>
    obtain ⟨k, hk, rfl, rfl, r0, r1, r2, r3, hb⟩ := hrel
    cases gk with
    | zero =>
      obtain rfl : k = 4 := by omega
      rw [show (A + B) % 2 ^ (64 * 4) = (A + B) % 2 ^ 256 from rfl, natC_full] at r3
      clear hk
      have hx : ¬ ((4 : Int) < 4) := by omega
      have hcl := cN_le A B (64 * 4)
      rw [show 64 * 4 = 256 from rfl] at hcl ⊢
      have HC : Hid (∃ c, cN A B 256 = c) := ⟨_, rfl⟩
      obtain ⟨c, hC⟩ := HC.out
      rw [hC] at hcl ⊢
      have HC : Hid (cN A B 256 = c) := hC
      clear hC
      go_wp2_with (first
        | refine wpList_loadR rfl 24 _ rfl _ rfl r3 4 _ Try.underlying24 (by exact size_nat) ?_
        | refine wpList_storeR rfl 24 _ _ rfl _ _ rfl rfl r2 (by exact size_nat) (by simp only [natC_size]) (natC_one _) ?_)
      refine ret_row2 rfl _ rfl (r2.setRow _) 4 _ Try.underlying24 (by exact size_nat) rfl _ rfl ⟨by rw [HC.out]; rfl, below_setRow hb (by omega) _⟩
    | succ g =>
      have hlt : (k : Int) < 4 := by omega
      have hc0 := cell_nat r0 k (by omega)
      have hc1 := cell_nat r1 k (by omega)
      have hc3 := cell_nat r3 k (by omega)
      have hf3 := r3.frozen k
      have R : Aside (Row wr w.heap.size (natC A) 24 ∧ Row wr (w.heap.size + 1) (natC B) 24 ∧ Row wr (w.heap.size + 1 + 1) (natC 0) 24 ∧ Row wr (w.heap.size + 1 + 1 + 1) (natC ((A + B) % 2 ^ (64 * k))) 24 ∧ Below w.heap.size w wr) := ⟨r0, r1, r2, r3, hb⟩
      clear r0 r1 r2 r3 hb
      have hcl := cN_le A B (64 * k)
      have hl := add_limb A B k
      have hs := add_carry A B k
      generalize cN A B (64 * k) = c at *
      have S : Aside (lm (A + B) k = addV (lm A k) (lm B k) c ∧ cN A B (64 * (k + 1)) = addC (lm A k) (lm B k) c) := ⟨hl, hs⟩
      clear hl hs
      go_wp2
      go_region_law (refine step_extern (by rfl) 60 _ _ (by rfl) Try.func60 (by kernel_rfl) (by kernel_rfl) next_add64 find_add64 #[.int .u64 (lm A k), .int .u64 (lm B k), .int .u64 c] (by rfl) _ (run_add64_nat _ _ _ hcl _) ?_)
      all_goals
        go_wp2
        obtain ⟨r0, r1, r2, r3, hb⟩ := R.out
        obtain ⟨hl, hs⟩ := S.out
        go_roundg g
        case measure => omega
        case rel =>
          refine ⟨k + 1, by omega, by rw [hs], by go_num, (r0.setCell_far _ _ _ (by omega)).drew, (r1.setCell_far _ _ _ (by omega)).drew, (r2.setCell_far _ _ _ (by omega)).drew, ?_, (below_setCell hb (by omega) _ _).drew⟩
          have := (r3.setCell k (.int .u64 (addV (lm A k) (lm B k) c : Nat))).drew
          rw [natC_limb (A + B) k _ (by omega) hl.symm] at this
          exact this

set_option maxRecDepth 100000 in
set_option maxHeartbeats 400000 in
theorem nsub_any (A B : Nat) (w : World) (hB : B < 2 ^ 256) :
    Calls Try.prog 49 #[.agg (natC A), .agg (natC B)] w fun e w' => e = .returned (.tuple #[.agg (natC (less A B)), .int .i64 (bN A B 256 : Nat)]) ∧ Below w.heap.size w w' := by
  have HB : Hid (B < 2 ^ 256) := hB
  clear hB
  go_enter Try.func49, Try.ntmps49
  go_wp2_with (first
    | refine wpList_box_row rfl 24 _ rfl _ rfl ?_
    | refine wpList_alloc_row rfl 24 rfl _ zero_nat ?_)
  go_loopg [7, 9] 4 (fun g s7 s9 wr => ∃ k : Nat, k + g = 4 ∧ s7 = .int .u64 (bN A B (64 * k)) ∧ s9 = .int .i64 k ∧ Row wr w.heap.size (natC A) 24 ∧ Row wr (w.heap.size + 1) (natC B) 24 ∧ Row wr (w.heap.size + 1 + 1) (natC 0) 24 ∧ Row wr (w.heap.size + 1 + 1 + 1) (natC ((less A B) % 2 ^ (64 * k))) 24 ∧ Below w.heap.size w wr)
  case atStart =>
    refine ⟨0, by omega, by rw [show bN A B (64 * 0) = 0 by simp [bN, Nat.mod_one]]; rfl, rfl, (Row.two rfl).alloc _, Row.two (by simp), Row.one (by simp), ?_, (below_alloc3 _ _ _).alloc (by simp; omega) _⟩
    rw [show (less A B) % 2 ^ (64 * 0) = 0 by simp [Nat.mod_one]]
    exact Row.here (by simp)
  case round =>
    obtain ⟨k, hk, rfl, rfl, r0, r1, r2, r3, hb⟩ := hrel
    cases gk with
    | zero =>
      obtain rfl : k = 4 := by omega
      rw [show (less A B) % 2 ^ (64 * 4) = (less A B) % 2 ^ 256 from rfl, natC_full] at r3
      clear hk
      have hx : ¬ ((4 : Int) < 4) := by omega
      have hcl := bN_le A B (64 * 4)
      rw [show 64 * 4 = 256 from rfl] at hcl ⊢
      have HC : Hid (∃ c, bN A B 256 = c) := ⟨_, rfl⟩
      obtain ⟨c, hC⟩ := HC.out
      rw [hC] at hcl ⊢
      have HC : Hid (bN A B 256 = c) := hC
      clear hC
      go_wp2_with (first
        | refine wpList_loadR rfl 24 _ rfl _ rfl r3 4 _ Try.underlying24 (by exact size_nat) ?_
        | refine wpList_storeR rfl 24 _ _ rfl _ _ rfl rfl r2 (by exact size_nat) (by simp only [natC_size]) (natC_one _) ?_)
      refine ret_row2 rfl _ rfl (r2.setRow _) 4 _ Try.underlying24 (by exact size_nat) rfl _ rfl ⟨by rw [HC.out]; rfl, below_setRow hb (by omega) _⟩
    | succ g =>
      have hlt : (k : Int) < 4 := by omega
      have hc0 := cell_nat r0 k (by omega)
      have hc1 := cell_nat r1 k (by omega)
      have hc3 := cell_nat r3 k (by omega)
      have hf3 := r3.frozen k
      have R : Aside (Row wr w.heap.size (natC A) 24 ∧ Row wr (w.heap.size + 1) (natC B) 24 ∧ Row wr (w.heap.size + 1 + 1) (natC 0) 24 ∧ Row wr (w.heap.size + 1 + 1 + 1) (natC ((less A B) % 2 ^ (64 * k))) 24 ∧ Below w.heap.size w wr) := ⟨r0, r1, r2, r3, hb⟩
      clear r0 r1 r2 r3 hb
      have hcl := bN_le A B (64 * k)
      have hl := sub_limb A B k (by omega) HB.out
      have hs := sub_borrow A B k
      generalize bN A B (64 * k) = c at *
      have S : Aside (lm (less A B) k = subV (lm A k) (lm B k) c ∧ bN A B (64 * (k + 1)) = subB (lm A k) (lm B k) c) := ⟨hl, hs⟩
      clear hl hs
      go_wp2
      go_region_law (refine step_extern (by rfl) 68 _ _ (by rfl) Try.func68 (by kernel_rfl) (by kernel_rfl) next_sub64 find_sub64 #[.int .u64 (lm A k), .int .u64 (lm B k), .int .u64 c] (by rfl) _ (run_sub64 _ _ _ hcl _) ?_)
      all_goals
        go_wp2
        obtain ⟨r0, r1, r2, r3, hb⟩ := R.out
        obtain ⟨hl, hs⟩ := S.out
        go_roundg g
        case measure => omega
        case rel =>
          refine ⟨k + 1, by omega, by rw [hs], by go_num, (r0.setCell_far _ _ _ (by omega)).drew, (r1.setCell_far _ _ _ (by omega)).drew, (r2.setCell_far _ _ _ (by omega)).drew, ?_, (below_setCell hb (by omega) _ _).drew⟩
          have := (r3.setCell k (.int .u64 (subV (lm A k) (lm B k) c : Nat))).drew
          rw [natC_limb (less A B) k _ (by omega) hl.symm] at this
          exact this
end Go.Proofs.Ytmmjjohnejimdaa
