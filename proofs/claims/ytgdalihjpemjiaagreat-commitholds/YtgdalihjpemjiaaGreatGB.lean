import Derived.Test.YtgdalihjpemjiaaGreatGA
import Derived.Deep.DeepCutAuto
set_option maxRecDepth 100000
set_option maxHeartbeats 2000000
namespace Go.Proofs.YtgdalihjpemjiaaGreat
set_option linter.unusedVariables false
open Go.RowKit
theorem rint_no (n : Int) (w : World) (h : n ≤ 0) :
  Calls Tryz.prog 47 #[.int .i64 n] w fun e w' => e = .returned (.agg (natC n.toNat)) ∧ Below w.heap.size w w' := by
 have hg : ¬ (0 < n) := by omega
 have hd : decide (0 < n) = false := by simpa using hg
 go_enter Tryz.func47, Tryz.ntmps47
 go_wp2_with (first
  | refine wpList_alloc_row rfl 40 rfl _ zero_nat ?_
  | refine wpList_alloc_row rfl 116 rfl _ zero_bits ?_
  | refine wpList_build_zero rfl 116 rfl _ built_bits ?_
  | refine wpList_store_new rfl 116 _ _ rfl _ rfl rfl _ _ (by rw [bitC_size]; exact size_bits) (by simp only [bitC_size]) (bitC_one _) ?_)
 go_loopg [4] 0 (fun g s4 wr => s4 = .int .i64 0 ∧ Row wr (w.heap.size + 1) (bitC 0) 116 ∧ Row wr w.heap.size (natC 0) 40 ∧ Below w.heap.size w wr)
 case atStart => exact ⟨rfl, Row.here (by simp), Row.one rfl, below_alloc2 _ _⟩
 case round =>
  obtain ⟨rfl, r0, r1, hb⟩ := hrel
  go_wp2_with (first
   | refine wpList_loadR rfl 116 _ rfl _ rfl r0 256 _ Tryz.underlying116 (by rw [bitC_size]; exact size_bits) ?_
   | (go_at_call 79; refine (rnat_any _ _).mono ?_; rintro e w2 ⟨rfl, hb2⟩; have r5 := r1.belowAll hb2; have b5 := below_on hb (Nat.le_refl _) hb2)
   | refine wpList_storeR rfl 40 _ _ rfl _ _ rfl rfl r5 (by exact size_nat) (by simp only [natC_size]) (natC_one _) ?_)
  rw [show n.toNat = 0 by omega]
  exact ret_row rfl _ rfl (r5.setRow _) 4 _ Tryz.underlying40 (by exact size_nat) rfl ⟨rfl, below_setRow b5 (by omega) _⟩
theorem rint_yes (N : Nat) (w : World) (h0 : 0 < N) (h1 : N < 9223372036854775808) :
  Calls Tryz.prog 47 #[.int .i64 N] w fun e w' => e = .returned (.agg (natC N)) ∧ Below w.heap.size w w' := by
 have hg : (0 : Int) < N := by omega
 have H1 : Hid (N < 9223372036854775808) := h1
 clear h1 h0
 go_enter Tryz.func47, Tryz.ntmps47
 go_wp2_with (first
  | refine wpList_alloc_row rfl 40 rfl _ zero_nat ?_
  | refine wpList_alloc_row rfl 116 rfl _ zero_bits ?_
  | refine wpList_build_zero rfl 116 rfl _ built_bits ?_
  | refine wpList_store_new rfl 116 _ _ rfl _ rfl rfl _ _ (by rw [bitC_size]; exact size_bits) (by simp only [bitC_size]) (bitC_one _) ?_)
 go_loopg [4] 63 (fun g s4 wr => ∃ k : Nat, k + g = 63 ∧ s4 = .int .i64 k ∧ Row wr (w.heap.size + 1) (bitC (N % 2 ^ k)) 116 ∧ Row wr w.heap.size (natC 0) 40 ∧ Below w.heap.size w wr)
 case atStart => exact ⟨0, by omega, rfl, by rw [Nat.pow_zero, Nat.mod_one]; exact Row.here (by simp), Row.one rfl, below_alloc2 _ _⟩
 case round =>
  obtain ⟨k, hk, rfl, r0, r1, hb⟩ := hrel
  cases gk with
  | zero =>
   obtain rfl : k = 63 := by omega
   rw [Nat.mod_eq_of_lt (show N < 2 ^ 63 from H1.out)] at r0
   clear hk
   have hx : ¬ ((63 : Int) < 63) := by omega
   go_wp2_with (first
    | refine wpList_loadR rfl 116 _ rfl _ rfl r0 256 _ Tryz.underlying116 (by rw [bitC_size]; exact size_bits) ?_
    | (go_at_call 79; refine (rnat_any _ _).mono ?_; rintro e w2 ⟨rfl, hb2⟩; have r5 := r1.belowAll hb2; have b5 := below_on hb (Nat.le_refl _) hb2)
    | refine wpList_storeR rfl 40 _ _ rfl _ _ rfl rfl r5 (by exact size_nat) (by simp only [natC_size]) (natC_one _) ?_)
   exact ret_row rfl _ rfl (r5.setRow _) 4 _ Tryz.underlying40 (by exact size_nat) rfl ⟨rfl, below_setRow b5 (by omega) _⟩
  | succ g =>
   have hlt : (k : Int) < 63 := by omega
   have hlt' : (k : Int) < 256 := by omega
   have hc0 := cell_bits r0 k (by omega)
   have hf0 := r0.frozen k
   have R : Aside (Row wr (w.heap.size + 1) (bitC (N % 2 ^ k)) 116 ∧ Row wr w.heap.size (natC 0) 40 ∧ Below w.heap.size w wr) := ⟨r0, r1, hb⟩
   clear r0 r1 hb
   go_wp2
   obtain ⟨r0, r1, hb⟩ := R.out
   go_roundg g
   case measure => omega
   case rel =>
    refine ⟨k + 1, by omega, by go_num, ?_, r1.setCell_far _ _ _ (by omega), below_setCell hb (by omega) _ _⟩
    have := r0.setCell k (.bool (bits BinOp.and IntKind.i64 (↑N / 2 ^ k) 1 == 1))
    rw [bitC_snoc N k _ (bit_test_i _ _ H1.out)] at this
    exact this
theorem rint_any (n : Int) (w : World) (h : n < 9223372036854775808) :
  Calls Tryz.prog 47 #[.int .i64 n] w fun e w' => e = .returned (.agg (natC n.toNat)) ∧ Below w.heap.size w w' := by
 by_cases h0 : n ≤ 0
 ·exact rint_no n w h0
 ·obtain ⟨N, rfl⟩ := Int.eq_ofNat_of_zero_le (show 0 ≤ n by omega)
  rw [Int.toNat_natCast]
  exact rint_yes N w (by omega) (by omega)
def flip (N : Nat) : Nat := 2 ^ 256 - 1 - N % 2 ^ 256
def flipTo (N k : Nat) : Nat := flip N % 2 ^ k + N / 2 ^ k * 2 ^ k
def cmpI (A B : Nat) : Int := if A < B then -1 else if B < A then 1 else 0
theorem bitLen_eq (A g : Nat) (h1 : 2 ^ g ≤ A) (h2 : A < 2 ^ (g + 1)) : bitLen A = g + 1 := by
 have h0 : A ≠ 0 := by have := Nat.two_pow_pos g; omega
 unfold bitLen
 rw [if_neg h0, (Nat.log2_eq_iff h0).2 ⟨h1, h2⟩]
theorem bit_top (A g : Nat) (h2 : A < 2 ^ (g + 1)) : (A.testBit g = true → 2 ^ g ≤ A) ∧ (A.testBit g = false → A < 2 ^ g) := by
 constructor
 ·intro h
  exact Nat.ge_two_pow_of_testBit h
 ·intro h
  rcases bit_cases A g with ⟨_, _, h3⟩ | ⟨h3, _⟩
  ·rw [Nat.mod_eq_of_lt h2] at h3
   rw [h3]
   exact Nat.mod_lt _ (Nat.two_pow_pos g)
  ·rw [h] at h3; cases h3
def bitI (A : Nat) (k : Int) : Int := if 0 ≤ k ∧ k < 256 ∧ A.testBit k.toNat = true then 1 else 0
theorem rlen_any (A : Nat) (w : World) (hA : A < 2 ^ 256) :
  Calls Tryz.prog 81 #[.agg (natC A)] w fun e w' => e = .returned (.int .i64 (bitLen A)) ∧ Below w.heap.size w w' := by
 have HA : Hid (A < 2 ^ 256) := hA
 clear hA
 go_enter Tryz.func81, Tryz.ntmps81
 go_wp2_with (first
  | refine wpList_box_row rfl 40 _ rfl _ rfl ?_
  | refine wpList_loadR rfl 40 _ rfl _ rfl (by first | assumption | (refine Row.here ?_; first | (with_reducible rfl) | (simp; done)) | (refine Row.one ?_; first | (with_reducible rfl) | (simp; done)) | (refine Row.two ?_; first | (with_reducible rfl) | (simp; done))) 4 _ Tryz.underlying40 (by exact size_nat) ?_
  | (go_at_call 82; refine (rof_any _ _).mono ?_; rintro e w2 ⟨rfl, hb2⟩; have hs := hb2.size; have b2 := below_on (below_alloc _) (Nat.le_refl _) hb2; clear hb2)
  | refine wpList_alloc_row rfl 116 rfl _ zero_bits ?_
  | refine wpList_store_new rfl 116 _ _ rfl _ rfl rfl _ _ (by rw [bitC_size]; exact size_bits) (by simp only [bitC_size]) (bitC_one _) ?_)
 have r3 := Row.new w2 (bitC A) 116
 have b3 := b2.alloc b2.size (.cells (bitC A) 116)
 generalize w2.alloc (.cells (bitC A) 116) = w3 at *
 generalize w2.heap.size = r at *
 clear b2 hs
 go_loopg [4] 256 (fun g s4 wr => s4 = .int .i64 ((g : Int) - 1) ∧ A < 2 ^ g ∧ g ≤ 256 ∧ Row wr r (bitC A) 116 ∧ Below w.heap.size w wr)
 case atStart => exact ⟨rfl, HA.out, Nat.le_refl _, r3, b3⟩
 case round =>
  obtain ⟨rfl, hlt, hle, r0, hb⟩ := hrel
  clear r3 b3 HA
  cases gk with
  | zero =>
   obtain rfl : A = 0 := by simpa using hlt
   clear hlt hle
   go_wp2
   go_ret
   exact ⟨rfl, hb⟩
  | succ g =>
   have ht := bit_top A g hlt
   have hq := bitLen_eq A g
   have hc0 := cell_bits r0 g (by omega)
   rw [show ((g + 1 : Nat) : Int) - 1 = (g : Int) by omega]
   have hgl : (g : Int) < 256 := by omega
   cases hbit : A.testBit g
   ·rw [hbit] at hc0
    have R : Aside (A < 2 ^ g ∧ Row wr r (bitC A) 116 ∧ Below w.heap.size w wr) := ⟨ht.2 hbit, r0, hb⟩
    clear ht hq r0 hb hlt hbit
    go_wp2
    obtain ⟨h1, r0, hb⟩ := R.out
    go_roundg g
    case measure => omega
    case rel => exact ⟨rfl, h1, by omega, r0, hb⟩
   ·rw [hbit] at hc0
    have R : Aside (bitLen A = g + 1 ∧ Below w.heap.size w wr) := ⟨hq (ht.1 hbit) hlt, hb⟩
    clear ht hq r0 hb hlt hbit
    go_wp2
    go_ret
    exact ⟨by rw [R.out.1]; rfl, R.out.2⟩
theorem rbit_in (A k : Nat) (w : World) (hk : k < 256) :
  Calls Tryz.prog 101 #[.agg (natC A), .int .i64 k] w fun e w' => e = .returned (.int .i64 (if A.testBit k = true then 1 else 0)) ∧ Below w.heap.size w w' := by
 have hk' : (k : Int) < 256 := by omega
 cases hbit : A.testBit k
 all_goals
  have HB : Hid (A.testBit k = _) := hbit
  clear hbit
  go_enter Tryz.func101, Tryz.ntmps101
  go_wp2_with (first
   | refine wpList_box_row rfl 40 _ rfl _ rfl ?_
   | refine wpList_loadR rfl 40 _ rfl _ rfl (by first | assumption | (refine Row.here ?_; first | (with_reducible rfl) | (simp; done)) | (refine Row.one ?_; first | (with_reducible rfl) | (simp; done)) | (refine Row.two ?_; first | (with_reducible rfl) | (simp; done))) 4 _ Tryz.underlying40 (by exact size_nat) ?_
   | (go_at_call 82; refine (rof_any _ _).mono ?_; rintro e w2 ⟨rfl, hb2⟩; have b2 := (below_on (below_alloc _) (Nat.le_refl _) hb2).alloc (by have := hb2.size; simp at this; omega) (.cells (bitC A) 116); clear hb2; have hc0 := cell_bits (Row.new w2 (bitC A) 116) k hk; rw [HB.out] at hc0)
   | refine wpList_alloc_row rfl 116 rfl _ zero_bits ?_
   | refine wpList_store_new rfl 116 _ _ rfl _ rfl rfl _ _ (by rw [bitC_size]; exact size_bits) (by simp only [bitC_size]) (bitC_one _) ?_)
  go_ret
  exact ⟨rfl, b2⟩
theorem rbit_out (A : Nat) (k : Int) (w : World) (hk : k < 0 ∨ 256 ≤ k) :
  Calls Tryz.prog 101 #[.agg (natC A), .int .i64 k] w fun e w' => e = .returned (.int .i64 0) ∧ Below w.heap.size w w' := by
 rcases hk with hk | hk
 ·have h1 : ¬ (0 ≤ k) := by omega
  have h2 : decide (0 ≤ k) = false := by simpa using h1
  go_enter Tryz.func101, Tryz.ntmps101
  go_wp2_with (first
   | refine wpList_box_row rfl 40 _ rfl _ rfl ?_
   | refine wpList_loadR rfl 40 _ rfl _ rfl (by first | assumption | (refine Row.here ?_; first | (with_reducible rfl) | (simp; done)) | (refine Row.one ?_; first | (with_reducible rfl) | (simp; done)) | (refine Row.two ?_; first | (with_reducible rfl) | (simp; done))) 4 _ Tryz.underlying40 (by exact size_nat) ?_
   | (go_at_call 82; refine (rof_any _ _).mono ?_; rintro e w2 ⟨rfl, hb2⟩; have b2 := (below_on (below_alloc _) (Nat.le_refl _) hb2).alloc (by have := hb2.size; simp at this; omega) (.cells (bitC A) 116); clear hb2)
   | refine wpList_alloc_row rfl 116 rfl _ zero_bits ?_
   | refine wpList_store_new rfl 116 _ _ rfl _ rfl rfl _ _ (by rw [bitC_size]; exact size_bits) (by simp only [bitC_size]) (bitC_one _) ?_)
  go_ret
  exact ⟨rfl, b2⟩
 ·have h1 : ¬ (k < 256) := by omega
  have h2 : decide (k < 256) = false := by simpa using h1
  have h3 : 0 ≤ k := by omega
  go_enter Tryz.func101, Tryz.ntmps101
  go_wp2_with (first
   | refine wpList_box_row rfl 40 _ rfl _ rfl ?_
   | refine wpList_loadR rfl 40 _ rfl _ rfl (by first | assumption | (refine Row.here ?_; first | (with_reducible rfl) | (simp; done)) | (refine Row.one ?_; first | (with_reducible rfl) | (simp; done)) | (refine Row.two ?_; first | (with_reducible rfl) | (simp; done))) 4 _ Tryz.underlying40 (by exact size_nat) ?_
   | (go_at_call 82; refine (rof_any _ _).mono ?_; rintro e w2 ⟨rfl, hb2⟩; have b2 := (below_on (below_alloc _) (Nat.le_refl _) hb2).alloc (by have := hb2.size; simp at this; omega) (.cells (bitC A) 116); clear hb2)
   | refine wpList_alloc_row rfl 116 rfl _ zero_bits ?_
   | refine wpList_store_new rfl 116 _ _ rfl _ rfl rfl _ _ (by rw [bitC_size]; exact size_bits) (by simp only [bitC_size]) (bitC_one _) ?_)
  go_ret
  exact ⟨rfl, b2⟩
theorem rbit_any (A : Nat) (k : Int) (w : World) :
  Calls Tryz.prog 101 #[.agg (natC A), .int .i64 k] w fun e w' => e = .returned (.int .i64 (bitI A k)) ∧ Below w.heap.size w w' := by
 unfold bitI
 by_cases h0 : 0 ≤ k ∧ k < 256
 ·obtain ⟨K, rfl⟩ := Int.eq_ofNat_of_zero_le h0.1
  refine (rbit_in A K w (by omega)).mono fun e w' ⟨he, hb⟩ => ⟨?_, hb⟩
  rw [he, Int.toNat_natCast]
  by_cases hb : A.testBit K = true
  ·rw [if_pos hb, if_pos ⟨h0.1, h0.2, hb⟩]
  ·rw [if_neg hb, if_neg (fun h => hb h.2.2)]
 ·rw [if_neg (fun h => h0 ⟨h.1, h.2.1⟩)]
  exact rbit_out A k w (by omega)
theorem rlow_no (A : Nat) (w : World) (hA : A < 2 ^ 256) (h : 63 < bitLen A) :
  Calls Tryz.prog 50 #[.agg (natC A)] w fun e w' => e = .returned (.tuple #[.int .i64 0, .bool false]) ∧ Below w.heap.size w w' := by
 have HA : Hid (A < 2 ^ 256) := hA
 clear hA
 have h' : (63 : Int) < (bitLen A : Int) := by omega
 clear h
 go_enter Tryz.func50, Tryz.ntmps50
 go_wp2_with (first
  | refine wpList_box_row rfl 40 _ rfl _ rfl ?_
  | refine wpList_loadR rfl 40 _ rfl _ rfl (by first | assumption | (refine Row.here ?_; first | (with_reducible rfl) | (simp; done)) | (refine Row.one ?_; first | (with_reducible rfl) | (simp; done)) | (refine Row.two ?_; first | (with_reducible rfl) | (simp; done))) 4 _ Tryz.underlying40 (by exact size_nat) ?_
  | (go_at_call 81; refine (rlen_any _ _ HA.out).mono ?_; rintro e w2 ⟨rfl, hb2⟩; have b2 := below_on (below_alloc _) (Nat.le_refl _) hb2; clear hb2))
 go_ret2
 exact ⟨rfl, b2⟩
theorem rlow_yes (A : Nat) (w : World) (hA : A < 9223372036854775808) (h : bitLen A ≤ 63) :
  Calls Tryz.prog 50 #[.agg (natC A)] w fun e w' => e = .returned (.tuple #[.int .i64 A, .bool true]) ∧ Below w.heap.size w w' := by
 have HA : Hid (A < 9223372036854775808) := hA
 clear hA
 have h' : ¬ (63 : Int) < (bitLen A : Int) := by omega
 clear h
 go_enter Tryz.func50, Tryz.ntmps50
 go_wp2_with (first
  | refine wpList_box_row rfl 40 _ rfl _ rfl ?_
  | refine wpList_loadR rfl 40 _ rfl _ rfl (by first | assumption | (refine Row.here ?_; first | (with_reducible rfl) | (simp; done)) | (refine Row.one ?_; first | (with_reducible rfl) | (simp; done)) | (refine Row.two ?_; first | (with_reducible rfl) | (simp; done))) 4 _ Tryz.underlying40 (by exact size_nat) ?_
  | (go_at_call 81; refine (rlen_any _ _ (Nat.lt_trans HA.out (by decide))).mono ?_; rintro e w2 ⟨rfl, hb2⟩; have r2 := (Row.here (w := w) (c := natC A) (t := 40) (b := w.heap.size) rfl).belowAll hb2; have b2 := below_on (below_alloc _) (Nat.le_refl _) hb2; clear hb2)
  | refine wpList_loadR rfl 40 _ rfl _ rfl r2 4 _ Tryz.underlying40 (by exact size_nat) ?_
  | (go_at_call 82; refine (rof_any _ _).mono ?_; rintro e w3 ⟨rfl, hb3⟩; have b3 := below_on b2 (Nat.le_refl _) hb3; clear hb3)
  | refine wpList_alloc_row rfl 116 rfl _ zero_bits ?_
  | refine wpList_store_new rfl 116 _ _ rfl _ rfl rfl _ _ (by rw [bitC_size]; exact size_bits) (by simp only [bitC_size]) (bitC_one _) ?_)
 have r3 := Row.new w3 (bitC A) 116
 have b4 := b3.alloc b3.size (.cells (bitC A) 116)
 generalize w3.alloc (.cells (bitC A) 116) = w4 at *
 generalize w3.heap.size = r at *
 clear b2 b3 r2 h'
 go_loopg [4, 6] 63 (fun g s4 s6 wr => ∃ k : Nat, k + g = 63 ∧ s4 = .int .i64 ((A % 2 ^ k : Nat) : Int) ∧ s6 = .int .i64 k ∧ Row wr r (bitC A) 116 ∧ Below w.heap.size w wr)
 case atStart => exact ⟨0, by omega, by rw [Nat.pow_zero, Nat.mod_one]; rfl, rfl, r3, b4⟩
 case round =>
  obtain ⟨k, hk, rfl, rfl, r0, hb⟩ := hrel
  clear r3 b4
  cases gk with
  | zero =>
   obtain rfl : k = 63 := by omega
   rw [Nat.mod_eq_of_lt (show A < 2 ^ 63 from HA.out)]
   clear hk
   have hx : ¬ ((63 : Int) < 63) := by omega
   go_wp2
   go_ret2
   exact ⟨rfl, hb⟩
  | succ g =>
   have hlt : (k : Int) < 63 := by omega
   have hlt' : (k : Int) < 256 := by omega
   have hc0 := cell_bits r0 k (by omega)
   have hm : A % 2 ^ k < 9223372036854775808 := Nat.lt_of_le_of_lt (Nat.mod_le _ _) HA.out
   have hno := mod_snoc_no A k
   have hor := mod_snoc_or A k
   have HM : Hid (A % 2 ^ k < 9223372036854775808) := hm
   cases hbit : A.testBit k
   ·rw [hbit] at hc0
    have R : Aside (A % 2 ^ (k + 1) = A % 2 ^ k ∧ Row wr r (bitC A) 116 ∧ Below w.heap.size w wr) := ⟨hno hbit, r0, hb⟩
    clear hno hor r0 hb hbit hm
    go_wp2
    obtain ⟨h1, r0, hb⟩ := R.out
    go_roundg g
    case measure => omega
    case rel => exact ⟨k + 1, by omega, by rw [h1], by go_num, r0, hb⟩
   ·rw [hbit] at hc0
    have R : Aside (A % 2 ^ k ||| 2 ^ k = A % 2 ^ (k + 1) ∧ Row wr r (bitC A) 116 ∧ Below w.heap.size w wr) := ⟨hor hbit, r0, hb⟩
    clear hno hor r0 hb hbit hm
    go_wp2
    obtain ⟨h1, r0, hb⟩ := R.out
    go_roundg g
    case measure => omega
    case rel => exact ⟨k + 1, by omega, by rw [← h1, ← or_bit_i _ _ HM.out (by omega), IntKind.wrap_i64, Int.natCast_emod]; simp [wrap64], by go_num, r0, hb⟩
end Go.Proofs.YtgdalihjpemjiaaGreat
