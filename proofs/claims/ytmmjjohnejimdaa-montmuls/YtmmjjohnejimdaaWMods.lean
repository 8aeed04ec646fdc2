/- mont's inverse: the limb that makes 1 of an odd one, modulo 2^64. -/
import Derived.Test.YtmmjjohnejimdaaMTypes
import Derived.Test.YtmmjjohnejimdaaWRem
namespace Go.Proofs.Ytmmjjohnejimdaa
open Go.RowKit

/-- One turn of Newton's way. -/
def nw (m x : Nat) : Int := IntKind.u64.wrap ((x : Int) * IntKind.u64.wrap (2 - IntKind.u64.wrap ((m : Int) * x)))
theorem wrap_dvd (z : Int) : (18446744073709551616 : Int) ∣ z - IntKind.u64.wrap z := by
  rw [IntKind.wrap_u64]; omega
theorem nw_core (m x a b c : Int) (h1 : (18446744073709551616 : Int) ∣ m * x - a) (h2 : (18446744073709551616 : Int) ∣ 2 - a - b) (h3 : (18446744073709551616 : Int) ∣ x * b - c) : (18446744073709551616 : Int) ∣ (m * c - 1) + (m * x - 1) * (m * x - 1) := by
  obtain ⟨p, hp⟩ := h1
  obtain ⟨q, hq⟩ := h2
  obtain ⟨r, hr⟩ := h3
  refine ⟨m * (x * p) - m * (x * q) - m * r, ?_⟩
  have e1 : b = 2 - m * x + 18446744073709551616 * p - 18446744073709551616 * q := by omega
  have e2 : c = x * b - 18446744073709551616 * r := by omega
  rw [e2, e1]
  simp only [Int.mul_sub, Int.sub_mul, Int.mul_add]
  have a1 : m * (x * (m * x)) = m * x * (m * x) := by rw [Int.mul_assoc]
  have a2 : m * (x * (18446744073709551616 * p)) = 18446744073709551616 * (m * (x * p)) := by rw [Int.mul_left_comm x, Int.mul_left_comm m]
  have a3 : m * (x * (18446744073709551616 * q)) = 18446744073709551616 * (m * (x * q)) := by rw [Int.mul_left_comm x, Int.mul_left_comm m]
  have a4 : m * (18446744073709551616 * r) = 18446744073709551616 * (m * r) := by rw [Int.mul_left_comm]
  have a5 : m * (x * 2) = 2 * (m * x) := by rw [Int.mul_comm x, Int.mul_left_comm]
  rw [a1, a2, a3, a4, a5]
  omega
theorem nw_step (m x : Nat) (P P' : Int) (hx : P ∣ (m : Int) * x - 1) (h1 : P' ∣ P * P) (h2 : P' ∣ 18446744073709551616) : P' ∣ (m : Int) * nw m x - 1 := by
  have hk := nw_core (m : Int) (x : Int) _ _ _ (wrap_dvd ((m : Int) * x)) (wrap_dvd (2 - IntKind.u64.wrap ((m : Int) * x))) (wrap_dvd ((x : Int) * IntKind.u64.wrap (2 - IntKind.u64.wrap ((m : Int) * x))))
  have hs : P' ∣ ((m : Int) * x - 1) * ((m : Int) * x - 1) := Int.dvd_trans h1 (Int.mul_dvd_mul hx hx)
  have ht := Int.dvd_sub (Int.dvd_trans h2 hk) hs
  have e : (m : Int) * nw m x - 1 + ((m : Int) * x - 1) * ((m : Int) * x - 1) - ((m : Int) * x - 1) * ((m : Int) * x - 1) = (m : Int) * nw m x - 1 := by omega
  unfold nw at *
  rw [e] at ht
  exact ht
theorem nw_nat (m x : Nat) : ∃ y : Nat, y < 18446744073709551616 ∧ nw m x = (y : Int) := by
  unfold nw
  rw [IntKind.wrap_u64]
  have h0 : 0 ≤ ((x : Int) * IntKind.u64.wrap (2 - IntKind.u64.wrap ((m : Int) * x))) % 18446744073709551616 := Int.emod_nonneg _ (by decide)
  have h1 : ((x : Int) * IntKind.u64.wrap (2 - IntKind.u64.wrap ((m : Int) * x))) % 18446744073709551616 < 18446744073709551616 := Int.emod_lt_of_pos _ (by decide)
  obtain ⟨y, hy⟩ := Int.eq_ofNat_of_zero_le h0
  exact ⟨y, by omega, hy⟩
/-- How many bits are right behind i turns, as a power of two. -/
def nwP : Nat → Int
  | 0 => 8
  | 1 => 64
  | 2 => 4096
  | 3 => 16777216
  | 4 => 281474976710656
  | _ => 18446744073709551616
theorem nw_first (m : Nat) (h : m % 2 = 1) : nwP 0 ∣ (m : Int) * m - 1 := by
  have h8 : m % 8 = 1 ∨ m % 8 = 3 ∨ m % 8 = 5 ∨ m % 8 = 7 := by omega
  have hm : m * m % 8 = 1 := by rw [Nat.mul_mod]; rcases h8 with e | e | e | e <;> rw [e]
  show (8 : Int) ∣ _
  have : ((m * m : Nat) : Int) = (m : Int) * m := Int.natCast_mul m m
  omega
theorem nw_next (m x i : Nat) (hi : i < 5) (hx : nwP i ∣ (m : Int) * x - 1) : nwP (i + 1) ∣ (m : Int) * nw m x - 1 := by
  match i, hi, hx with
  | 0, _, hx => exact nw_step m x 8 64 hx ⟨1, by decide⟩ ⟨288230376151711744, by decide⟩
  | 1, _, hx => exact nw_step m x 64 4096 hx ⟨1, by decide⟩ ⟨4503599627370496, by decide⟩
  | 2, _, hx => exact nw_step m x 4096 16777216 hx ⟨1, by decide⟩ ⟨1099511627776, by decide⟩
  | 3, _, hx => exact nw_step m x 16777216 281474976710656 hx ⟨1, by decide⟩ ⟨65536, by decide⟩
  | 4, _, hx => exact nw_step m x 281474976710656 18446744073709551616 hx ⟨4294967296, by decide⟩ ⟨1, by decide⟩

/-- The limb behind i turns. -/
def nwI (m : Nat) : Nat → Nat
  | 0 => m
  | i + 1 => (nw m (nwI m i)).toNat
theorem nwI_next (m i : Nat) : nw m (nwI m i) = (nwI m (i + 1) : Int) := by
  obtain ⟨y, _, e⟩ := nw_nat m (nwI m i)
  show _ = (((nw m (nwI m i)).toNat : Nat) : Int)
  rw [e, Int.toNat_natCast]
theorem nwI_lt (m i : Nat) (hm : m < 18446744073709551616) : nwI m i < 18446744073709551616 := by
  cases i with
  | zero => exact hm
  | succ i =>
    obtain ⟨y, hy, e⟩ := nw_nat m (nwI m i)
    show (nw m (nwI m i)).toNat < _
    rw [e, Int.toNat_natCast]
    exact hy
theorem nwI_dvd (m : Nat) (h : m % 2 = 1) : ∀ i, i ≤ 5 → nwP i ∣ (m : Int) * nwI m i - 1
  | 0, _ => nw_first m h
  | i + 1, hi => by
    have := nw_next m (nwI m i) i (by omega) (nwI_dvd m h i (by omega))
    rw [nwI_next] at this
    exact this

set_option maxRecDepth 100000 in
set_option maxHeartbeats 400000 in
theorem inverse_any (m : Nat) (w : World) :
    Calls Try.prog 51 #[.int .u64 m] w fun e w' => e = .returned (.int .u64 (nwI m 5 : Nat)) ∧ Below w.heap.size w w' := by
  go_enter Try.func51, Try.ntmps51
  go_wp2_with fail
  go_loopg [3, 5] 5 (fun g s3 s5 wr => ∃ i : Nat, i + g = 5 ∧ s3 = .int .u64 (nwI m i : Nat) ∧ s5 = .int .i64 i ∧ wr = w)
  case atStart => exact ⟨0, by omega, rfl, rfl, rfl⟩
  case round =>
    obtain ⟨i, hi, rfl, rfl, rfl⟩ := hrel
    cases gk with
    | zero =>
      obtain rfl : i = 5 := by omega
      have hx5 : ¬ ((5 : Int) < 5) := by omega
      clear hi
      go_wp2
      go_ret
      exact ⟨rfl, Below.refl _ _⟩
    | succ g =>
      have hlt : (i : Int) < 5 := by omega
      have HD : Hid (nw m (nwI m i) = (nwI m (i + 1) : Int) ∧ i + (g + 1) = 5) := ⟨nwI_next m i, hi⟩
      clear hi
      go_wp2
      go_roundg g
      case measure => omega
      case rel =>
        obtain ⟨h1, h2⟩ := HD.out
        refine ⟨i + 1, by omega, ?_, by go_num, rfl⟩
        rw [← h1]
        rfl
/-- What New lays beside the natural. -/
theorem minus_is (M y : Nat) (hy : (18446744073709551616 : Int) ∣ (lm M 0 : Int) * y - 1) (hl : y < 18446744073709551616) :
    18446744073709551616 - y < 18446744073709551616 ∧ IntKind.u64.wrap (-(y : Int)) = ((18446744073709551616 - y : Nat) : Int) ∧ (18446744073709551616 - y) * M % 18446744073709551616 = 18446744073709551615 := by
  have hlm : lm M 0 = M % 18446744073709551616 := by unfold lm; rw [Nat.mul_zero, Nat.pow_zero, Nat.div_one]
  obtain ⟨q, hq⟩ := hy
  have hy0 : 0 < y := by
    rcases Nat.eq_zero_or_pos y with h0 | h0
    · subst h0; omega
    · exact h0
  refine ⟨by omega, by rw [IntKind.wrap_u64]; omega, ?_⟩
  have h1 : lm M 0 * y % 18446744073709551616 = 1 := by
    have : ((lm M 0 * y : Nat) : Int) = 18446744073709551616 * q + 1 := by rw [Int.natCast_mul]; omega
    omega
  have h2 : y * M % 18446744073709551616 = 1 := by rw [Nat.mul_comm, Nat.mul_mod, ← hlm, Nat.mod_eq_of_lt hl, h1]
  have h3 : (18446744073709551616 - y) * M + y * M = 18446744073709551616 * M := by rw [← Nat.add_mul]; congr 1; omega
  omega
end Go.Proofs.Ytmmjjohnejimdaa
/- wide.Div, AddMod, SubMod, MulMod. -/
namespace Go.Proofs.Ytmmjjohnejimdaa
open Go.RowKit

theorem modZ_full (N M : Nat) (h : M ≠ 0) : modZ N M = N % M := if_neg h
set_option maxRecDepth 100000 in
set_option maxHeartbeats 1000000 in
theorem wadd_any (A B M : Nat) (w : World) (hA : A < 2 ^ 256) (hB : B < 2 ^ 256) (hM : M < 2 ^ 256) :
    Calls Try.prog 18 #[.agg (natC A), .agg (natC B), .agg (natC M)] w fun e w' => e = .returned (.tuple #[.agg (natC (modZ (A + B) M)), .int .i64 (errI M)]) ∧ Below w.heap.size w w' := by
  have r3 : Row ((((w.alloc (.cells (natC A) 24)).alloc (.cells (natC B) 24)).alloc (.cells (natC M) 24)).alloc (.cells (natC 0) 24)) w.heap.size (natC A) 24 := (by repeat (first | (refine Row.here ?_; first | (with_reducible rfl) | (simp; done)) | refine Row.alloc ?_ _))
  have r4 : Row ((((w.alloc (.cells (natC A) 24)).alloc (.cells (natC B) 24)).alloc (.cells (natC M) 24)).alloc (.cells (natC 0) 24)) (w.heap.size + 1) (natC B) 24 := (by repeat (first | (refine Row.here ?_; first | (with_reducible rfl) | (simp; done)) | refine Row.alloc ?_ _))
  have r5 : Row ((((w.alloc (.cells (natC A) 24)).alloc (.cells (natC B) 24)).alloc (.cells (natC M) 24)).alloc (.cells (natC 0) 24)) (w.heap.size + 1 + 1) (natC M) 24 := (by repeat (first | (refine Row.here ?_; first | (with_reducible rfl) | (simp; done)) | refine Row.alloc ?_ _))
  have r6 : Row ((((w.alloc (.cells (natC A) 24)).alloc (.cells (natC B) 24)).alloc (.cells (natC M) 24)).alloc (.cells (natC 0) 24)) (w.heap.size + 1 + 1 + 1) (natC 0) 24 := (by repeat (first | (refine Row.here ?_; first | (with_reducible rfl) | (simp; done)) | refine Row.alloc ?_ _))
  have bW : Below w.heap.size w ((((w.alloc (.cells (natC A) 24)).alloc (.cells (natC B) 24)).alloc (.cells (natC M) 24)).alloc (.cells (natC 0) 24)) := (by repeat (first | exact Below.refl _ _ | refine Below.alloc ?_ (by simp <;> omega) _))
  have hc : cN A B 256 ≤ 1 := cN_le _ _ _
  have hof := fun w' => nof_any (cN A B 256 : Nat) w' (by omega)
  rw [Int.toNat_natCast] at hof
  have hre := fun w' => wrem_any ((A + B) % 2 ^ 256) (cN A B 256) M w' (Nat.mod_lt _ (by decide)) (by omega) hM
  have hsum : cN A B 256 * 2 ^ 256 + (A + B) % 2 ^ 256 = A + B := by
    rw [cN_eq, Nat.mod_eq_of_lt hA, Nat.mod_eq_of_lt hB]
    split <;> omega
  rw [hsum, natC_full] at hre
  have had := fun w' => nadd_any A B w'
  clear hA hB hM hsum
  generalize cN A B 256 = c at *
  generalize modZ (A + B) M = v at *
  generalize A + B = sm at *
  go_enter Try.func18, Try.ntmps18
  go_wp2_with (first
    | refine wpList_box_row rfl 24 _ rfl _ rfl ?_
    | refine wpList_alloc_row rfl 24 rfl _ zero_nat ?_
    | refine wpList_loadR rfl 24 _ rfl _ rfl r3 4 _ Try.underlying24 (by exact size_nat) ?_
    | refine wpList_loadR rfl 24 _ rfl (w.heap.size + 1) (by first | rfl | (unfold Act.eval Act.put; simp; done) | (unfold Act.eval; simp; done)) r4 4 _ Try.underlying24 (by exact size_nat) ?_)
  generalize (((w.alloc (.cells (natC A) 24)).alloc (.cells (natC B) 24)).alloc (.cells (natC M) 24)).alloc (.cells (natC 0) 24) = w1 at *
  refine (had _).mono ?_
  rintro e w2 ⟨rfl, hb2⟩
  have h6 := (r6.belowAll hb2).lt
  have q5 := (r5.belowAll hb2).alloc (.cells (natC sm) 24)
  have q6 := (r6.belowAll hb2).alloc (.cells (natC sm) 24)
  have q8 := Row.new w2 (natC sm) 24
  have b2 := below_on bW (Nat.le_refl _) hb2
  have b3 := b2.alloc b2.size (.cells (natC sm) 24)
  clear r3 r4 r5 r6 bW hb2 b2 had
  go_wp2_with (first
    | refine wpList_alloc_row rfl 24 rfl _ zero_nat ?_
    | refine wpList_store_new rfl 24 _ _ rfl _ rfl rfl _ _ (by exact size_nat) (by simp only [natC_size]) (natC_one _) ?_)
  generalize w2.alloc (.cells (natC sm) 24) = w3 at *
  generalize w2.heap.size = g8 at *
  apply wp_region_mix (by kernel_rfl) [(w.heap.size + 1 + 1 + 1, 24, natC 0)] [_, _, _, _, _, _, _, _, _] ⟨q6, trivial⟩ (by simp <;> omega)
  · intro p
    refine mx_load 24 _ rfl _ rfl q8 (by simp <;> omega) 4 _ Try.underlying24 size_nat ?_
    simp only [Act.put, List.setIfInBounds_toArray, List.set_cons_zero, List.set_cons_succ]
    refine mx_move rfl rfl ?_
    simp only [Act.put, List.setIfInBounds_toArray, List.set_cons_zero, List.set_cons_succ]
    refine mx_call 47 _ _ rfl Try.func47 (by kernel_rfl) #[.int .i64 (c : Nat)] rfl _ hof ?_
    simp only [Act.put, List.setIfInBounds_toArray, List.set_cons_zero, List.set_cons_succ]
    refine mx_load 24 _ rfl _ rfl q5 (by simp <;> omega) 4 _ Try.underlying24 size_nat ?_
    simp only [Act.put, List.setIfInBounds_toArray, List.set_cons_zero, List.set_cons_succ]
    refine mx_call 11 _ _ rfl Try.func11 (by kernel_rfl) #[.agg (natC sm), .agg (natC c), .agg (natC M)] rfl _ hre ?_
    simp only [Act.put, List.setIfInBounds_toArray, List.set_cons_zero, List.set_cons_succ]
    refine mx_ext rfl rfl rfl ?_
    simp only [Act.put, List.setIfInBounds_toArray, List.set_cons_zero, List.set_cons_succ]
    refine mx_ext rfl rfl rfl ?_
    simp only [Act.put, List.setIfInBounds_toArray, List.set_cons_zero, List.set_cons_succ]
    refine mx_put 0 24 _ _ rfl rfl rfl (natC v) rfl (by exact size_nat) (by simp only [natC_size]) (natC_one _) ?_
    simp only [Act.put]
    refine mx_asg rfl rfl ?_
    simp only [Act.put, List.setIfInBounds_toArray, List.set_cons_zero, List.set_cons_succ]
    refine mx_end ?_
    intro w4 hkw hrw _ _
    have r6' : Row w4 (w.heap.size + 1 + 1 + 1) (natC v) 24 := hrw 0 _ rfl
    have hb1 := b3.trans (hkw.below w.heap.size b3.size (by simp <;> omega))
    go_wp2_with fail
    exact ret_row2 rfl _ rfl r6' 4 _ Try.underlying24 (by exact size_nat) rfl _ rfl ⟨rfl, hb1⟩
  · kernel_rfl

set_option maxRecDepth 100000 in
set_option maxHeartbeats 1000000 in
theorem wmulmod_any (A B M : Nat) (w : World) (hA : A < 2 ^ 256) (hB : B < 2 ^ 256) (hM : M < 2 ^ 256) :
    Calls Try.prog 22 #[.agg (natC A), .agg (natC B), .agg (natC M)] w fun e w' => e = .returned (.tuple #[.agg (natC (modZ (A * B) M)), .int .i64 (errI M)]) ∧ Below w.heap.size w w' := by
  have r3 : Row ((((w.alloc (.cells (natC A) 24)).alloc (.cells (natC B) 24)).alloc (.cells (natC M) 24)).alloc (.cells (natC 0) 24)) w.heap.size (natC A) 24 := (by repeat (first | (refine Row.here ?_; first | (with_reducible rfl) | (simp; done)) | refine Row.alloc ?_ _))
  have r4 : Row ((((w.alloc (.cells (natC A) 24)).alloc (.cells (natC B) 24)).alloc (.cells (natC M) 24)).alloc (.cells (natC 0) 24)) (w.heap.size + 1) (natC B) 24 := (by repeat (first | (refine Row.here ?_; first | (with_reducible rfl) | (simp; done)) | refine Row.alloc ?_ _))
  have r5 : Row ((((w.alloc (.cells (natC A) 24)).alloc (.cells (natC B) 24)).alloc (.cells (natC M) 24)).alloc (.cells (natC 0) 24)) (w.heap.size + 1 + 1) (natC M) 24 := (by repeat (first | (refine Row.here ?_; first | (with_reducible rfl) | (simp; done)) | refine Row.alloc ?_ _))
  have r6 : Row ((((w.alloc (.cells (natC A) 24)).alloc (.cells (natC B) 24)).alloc (.cells (natC M) 24)).alloc (.cells (natC 0) 24)) (w.heap.size + 1 + 1 + 1) (natC 0) 24 := (by repeat (first | (refine Row.here ?_; first | (with_reducible rfl) | (simp; done)) | refine Row.alloc ?_ _))
  have bW : Below w.heap.size w ((((w.alloc (.cells (natC A) 24)).alloc (.cells (natC B) 24)).alloc (.cells (natC M) 24)).alloc (.cells (natC 0) 24)) := (by repeat (first | exact Below.refl _ _ | refine Below.alloc ?_ (by simp <;> omega) _))
  have hAB : A * B < 2 ^ 256 * 2 ^ 256 := Nat.mul_lt_mul'' hA hB
  have hre := fun w' => wrem_any ((A * B) % 2 ^ 256) (A * B / 2 ^ 256) M w' (Nat.mod_lt _ (by decide)) (Nat.div_lt_of_lt_mul hAB) hM
  rw [natC_full, Nat.mul_comm (A * B / 2 ^ 256), Nat.div_add_mod] at hre
  have hmu := fun w' => wmul_any A B w' hA hB
  clear hA hB hM hAB
  generalize modZ (A * B) M = v at *
  generalize A * B / 2 ^ 256 = hi at *
  generalize A * B = lo at *
  go_enter Try.func22, Try.ntmps22
  go_wp2_with (first
    | refine wpList_box_row rfl 24 _ rfl _ rfl ?_
    | refine wpList_alloc_row rfl 24 rfl _ zero_nat ?_
    | refine wpList_loadR rfl 24 _ rfl _ rfl r3 4 _ Try.underlying24 (by exact size_nat) ?_
    | refine wpList_loadR rfl 24 _ rfl (w.heap.size + 1) (by first | rfl | (unfold Act.eval Act.put; simp; done) | (unfold Act.eval; simp; done)) r4 4 _ Try.underlying24 (by exact size_nat) ?_)
  generalize (((w.alloc (.cells (natC A) 24)).alloc (.cells (natC B) 24)).alloc (.cells (natC M) 24)).alloc (.cells (natC 0) 24) = w1 at *
  refine (hmu _).mono ?_
  rintro e w3 ⟨rfl, hb2⟩
  have hz := (r6.belowAll hb2).lt
  have a5 : Row ((w3.alloc (.cells (natC 0) 24)).alloc (.cells (natC 0) 24)) w3.heap.size (natC 0) 24 := (by repeat (first | (refine Row.here ?_; first | (with_reducible rfl) | (simp; done)) | refine Row.alloc ?_ _))
  have a6' : Row ((w3.alloc (.cells (natC 0) 24)).alloc (.cells (natC 0) 24)) (w3.heap.size + 1) (natC 0) 24 := (by repeat (first | (refine Row.here ?_; first | (with_reducible rfl) | (simp; done)) | refine Row.alloc ?_ _))
  have a6 := a6'.setRow_far w3.heap.size (natC lo) (by omega)
  have a9 := a6.setRow (natC hi)
  have a8 := (a5.setRow (natC lo)).setRow_far (w3.heap.size + 1) (natC hi) (by omega)
  have aM := ((((r5.belowAll hb2).alloc (.cells (natC 0) 24)).alloc (.cells (natC 0) 24)).setRow_far w3.heap.size (natC lo) (by omega)).setRow_far (w3.heap.size + 1) (natC hi) (by omega)
  have aZ := ((((r6.belowAll hb2).alloc (.cells (natC 0) 24)).alloc (.cells (natC 0) 24)).setRow_far w3.heap.size (natC lo) (by omega)).setRow_far (w3.heap.size + 1) (natC hi) (by omega)
  have b3 := below_on bW (Nat.le_refl _) hb2
  have b5 := below_setRow (below_setRow ((b3.alloc b3.size (.cells (natC 0) 24)).alloc (by have := b3.size; simp; omega) (.cells (natC 0) 24)) (g := w3.heap.size) (by omega) (natC lo)) (g := w3.heap.size + 1) (by omega) (natC hi)
  clear r3 r4 r5 r6 bW hb2 a6' b3 hmu
  go_wp2_with (first
    | refine wpList_alloc_row rfl 24 rfl _ zero_nat ?_
    | refine wpList_storeR rfl 24 _ _ rfl _ _ rfl rfl a5 (by exact size_nat) (by simp only [natC_size]) (natC_one _) ?_
    | refine wpList_storeR rfl 24 _ _ rfl (w3.heap.size + 1) _ (by first | rfl | (unfold Act.eval Act.put; simp; done) | (unfold Act.eval; simp; done)) rfl a6 (by exact size_nat) (by simp only [natC_size]) (natC_one _) ?_
    | refine wpList_loadR rfl 24 _ rfl _ rfl a8 4 _ Try.underlying24 (by exact size_nat) ?_
    | refine wpList_loadR rfl 24 _ rfl _ rfl aM 4 _ Try.underlying24 (by exact size_nat) ?_
    | refine wpList_loadR rfl 24 _ rfl (w3.heap.size + 1) (by first | rfl | (unfold Act.eval Act.put; simp; done) | (unfold Act.eval; simp; done)) a9 4 _ Try.underlying24 (by exact size_nat) ?_)
  refine (hre _).mono ?_
  rintro e w4 ⟨rfl, hb4⟩
  have qZ := aZ.belowAll hb4
  have b6 := below_on b5 (Nat.le_refl _) hb4
  clear a5 a6 a9 a8 aM aZ b5 hb4 hre
  go_wp2_with (first
    | refine wpList_storeR rfl 24 _ _ rfl _ _ rfl rfl qZ (by exact size_nat) (by simp only [natC_size]) (natC_one _) ?_)
  exact ret_row2 rfl _ rfl (qZ.setRow (natC v)) 4 _ Try.underlying24 (by exact size_nat) rfl _ rfl ⟨rfl, below_setRow b6 (by omega) _⟩
end Go.Proofs.Ytmmjjohnejimdaa
