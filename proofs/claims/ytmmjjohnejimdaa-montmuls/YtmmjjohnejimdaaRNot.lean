/- The document's Int: an int as a natural. -/
import Derived.Test.YtmmjjohnejimdaaRLen
namespace Go.Proofs.Ytmmjjohnejimdaa
open Go.RowKit

set_option maxRecDepth 100000 in
set_option maxHeartbeats 400000 in
theorem rint_no (n : Int) (w : World) (h : n ≤ 0) :
    Calls Try.prog 48 #[.int .i64 n] w fun e w' => e = .returned (.agg (natC n.toNat)) ∧ Below w.heap.size w w' := by
  have hg : ¬ (0 < n) := by omega
  have hd : decide (0 < n) = false := by simpa using hg
  go_enter Try.func48, Try.ntmps48
  go_wp2_with (first
    | refine wpList_alloc_row rfl 24 rfl _ zero_nat ?_
    | refine wpList_alloc_row rfl 58 rfl _ zero_bits ?_
    | refine wpList_build_zero rfl 58 rfl _ built_bits ?_
    | refine wpList_store_new rfl 58 _ _ rfl _ rfl rfl _ _ (by rw [bitC_size]; exact size_bits) (by simp only [bitC_size]) (bitC_one _) ?_)
  go_loopg [4] 0 (fun g s4 wr => s4 = .int .i64 0 ∧ Row wr (w.heap.size + 1) (bitC 0) 58 ∧ Row wr w.heap.size (natC 0) 24 ∧ Below w.heap.size w wr)
  case atStart => exact ⟨rfl, Row.here (by simp), Row.one rfl, below_alloc2 _ _⟩
  case round =>
    obtain ⟨rfl, r0, r1, hb⟩ := hrel
    go_wp2_with (first
      | refine wpList_loadR rfl 58 _ rfl _ rfl r0 256 _ Try.underlying58 (by rw [bitC_size]; exact size_bits) ?_
      | (go_at_call 45; refine (rnat_any _ _).mono ?_; rintro e w2 ⟨rfl, hb2⟩; have r5 := r1.belowAll hb2; have b5 := below_on hb (Nat.le_refl _) hb2)
      | refine wpList_storeR rfl 24 _ _ rfl _ _ rfl rfl r5 (by exact size_nat) (by simp only [natC_size]) (natC_one _) ?_)
    rw [show n.toNat = 0 by omega]
    exact ret_row rfl _ rfl (r5.setRow _) 4 _ Try.underlying24 (by exact size_nat) rfl ⟨rfl, below_setRow b5 (by omega) _⟩

set_option maxRecDepth 100000 in
set_option maxHeartbeats 400000 in
theorem rint_yes (N : Nat) (w : World) (h0 : 0 < N) (h1 : N < 9223372036854775808) :
    Calls Try.prog 48 #[.int .i64 N] w fun e w' => e = .returned (.agg (natC N)) ∧ Below w.heap.size w w' := by
  have hg : (0 : Int) < N := by omega
  have H1 : Hid (N < 9223372036854775808) := h1
  clear h1 h0
  go_enter Try.func48, Try.ntmps48
  go_wp2_with (first
    | refine wpList_alloc_row rfl 24 rfl _ zero_nat ?_
    | refine wpList_alloc_row rfl 58 rfl _ zero_bits ?_
    | refine wpList_build_zero rfl 58 rfl _ built_bits ?_
    | refine wpList_store_new rfl 58 _ _ rfl _ rfl rfl _ _ (by rw [bitC_size]; exact size_bits) (by simp only [bitC_size]) (bitC_one _) ?_)
  go_loopg [4] 63 (fun g s4 wr => ∃ k : Nat, k + g = 63 ∧ s4 = .int .i64 k ∧ Row wr (w.heap.size + 1) (bitC (N % 2 ^ k)) 58 ∧ Row wr w.heap.size (natC 0) 24 ∧ Below w.heap.size w wr)
  case atStart => exact ⟨0, by omega, rfl, by rw [Nat.pow_zero, Nat.mod_one]; exact Row.here (by simp), Row.one rfl, below_alloc2 _ _⟩
  case round =>
    obtain ⟨k, hk, rfl, r0, r1, hb⟩ := hrel
    cases gk with
    | zero =>
      obtain rfl : k = 63 := by omega
      rw [Nat.mod_eq_of_lt (show N < 2 ^ 63 from H1.out)] at r0
      clear hk
      have hx : ¬ ((63 : Int) < 63) := by omega
      go_wp2_with (first
        | refine wpList_loadR rfl 58 _ rfl _ rfl r0 256 _ Try.underlying58 (by rw [bitC_size]; exact size_bits) ?_
        | (go_at_call 45; refine (rnat_any _ _).mono ?_; rintro e w2 ⟨rfl, hb2⟩; have r5 := r1.belowAll hb2; have b5 := below_on hb (Nat.le_refl _) hb2)
        | refine wpList_storeR rfl 24 _ _ rfl _ _ rfl rfl r5 (by exact size_nat) (by simp only [natC_size]) (natC_one _) ?_)
      exact ret_row rfl _ rfl (r5.setRow _) 4 _ Try.underlying24 (by exact size_nat) rfl ⟨rfl, below_setRow b5 (by omega) _⟩
    | succ g =>
      have hlt : (k : Int) < 63 := by omega
      have hlt' : (k : Int) < 256 := by omega
      have hc0 := cell_bits r0 k (by omega)
      have hf0 := r0.frozen k
      have R : Aside (Row wr (w.heap.size + 1) (bitC (N % 2 ^ k)) 58 ∧ Row wr w.heap.size (natC 0) 24 ∧ Below w.heap.size w wr) := ⟨r0, r1, hb⟩
      clear r0 r1 hb
      go_wp2
      obtain ⟨r0, r1, hb⟩ := R.out
      go_roundg g
      case measure => omega
      case rel =>
        refine ⟨k + 1, by omega, by go_num, ?_, r1.setCell_far _ _ _ (by omega), below_setCell hb (by omega) _ _⟩
        have := r0.setCell k (.bool (bits BinOp.and IntKind.i64 (↑N / 2 ^ k) 1 == 1))
        rw [bitC_snoc N k _ (bit_test_i _ _ H1.out)] at this
        exact this
theorem rint_any (n : Int) (w : World) (h : n < 9223372036854775808) :
    Calls Try.prog 48 #[.int .i64 n] w fun e w' => e = .returned (.agg (natC n.toNat)) ∧ Below w.heap.size w w' := by
  by_cases h0 : n ≤ 0
  · exact rint_no n w h0
  · obtain ⟨N, rfl⟩ := Int.eq_ofNat_of_zero_le (show 0 ≤ n by omega)
    rw [Int.toNat_natCast]
    exact rint_yes N w (by omega) (by omega)
end Go.Proofs.Ytmmjjohnejimdaa
/- The document's Not: all bits turned. -/
namespace Go.Proofs.Ytmmjjohnejimdaa
open Go.RowKit

/-- All 256 bits turned. -/
def flip (N : Nat) : Nat := 2 ^ 256 - 1 - N % 2 ^ 256
theorem flip_bit (N i : Nat) (h : i < 256) : (flip N).testBit i = !N.testBit i := by
  unfold flip
  have hlt : N % 2 ^ 256 < 2 ^ 256 := Nat.mod_lt _ (Nat.two_pow_pos _)
  rw [Nat.sub_sub, Nat.add_comm 1, Nat.testBit_two_pow_sub_succ hlt, Nat.testBit_mod_two_pow]
  simp [h]
/-- The first k bits turned. -/
def flipTo (N k : Nat) : Nat := flip N % 2 ^ k + N / 2 ^ k * 2 ^ k
theorem flipTo_bit (N k i : Nat) : (flipTo N k).testBit i = if i < k then (flip N).testBit i else N.testBit i := by
  unfold flipTo
  rw [Nat.add_comm, Nat.mul_comm, Nat.testBit_two_pow_mul_add _ (Nat.mod_lt _ (Nat.two_pow_pos k))]
  split
  · rw [Nat.testBit_mod_two_pow]; simp [*]
  · rw [Nat.testBit_div_two_pow]; congr 1; omega

set_option maxRecDepth 100000 in
set_option maxHeartbeats 400000 in
theorem rnot_any (N : Nat) (w : World) :
    Calls Try.prog 69 #[.agg (natC N)] w fun e w' => e = .returned (.agg (natC (flip N))) ∧ Below w.heap.size w w' := by
  go_enter Try.func69, Try.ntmps69
  go_wp2_with (first
    | refine wpList_box_row rfl 24 _ rfl _ rfl ?_
    | refine wpList_alloc_row rfl 24 rfl _ zero_nat ?_
    | refine wpList_loadR rfl 24 _ rfl _ rfl (by first | assumption | (refine Row.here ?_; first | (with_reducible rfl) | (simp; done)) | (refine Row.one ?_; first | (with_reducible rfl) | (simp; done)) | (refine Row.two ?_; first | (with_reducible rfl) | (simp; done))) 4 _ Try.underlying24 (by exact size_nat) ?_
    | (go_at_call 44; refine (rof_any _ _).mono ?_; rintro e w2 ⟨rfl, hb2⟩; have hs := hb2.size; have r2 := (Row.here (w := w.alloc (.cells (natC N) 24)) (c := natC 0) (t := 24) (b := w.heap.size + 1) (by simp)).belowAll hb2; have b2 := below_on (below_alloc2 _ _) (Nat.le_refl _) hb2; clear hb2)
    | refine wpList_alloc_row rfl 58 rfl _ zero_bits ?_
    | refine wpList_store_new rfl 58 _ _ rfl _ rfl rfl _ _ (by rw [bitC_size]; exact size_bits) (by simp only [bitC_size]) (bitC_one _) ?_)
  have r3 := Row.new w2 (bitC N) 58
  have r2' := r2.alloc (.cells (bitC N) 58)
  have hr := r2.lt
  have b3 := b2.alloc (by have := b2.size; omega) (.cells (bitC N) 58)
  generalize w2.alloc (.cells (bitC N) 58) = w3 at *
  generalize w2.heap.size = r at *
  clear r2 b2 hs
  go_loopg [4] 256 (fun g s4 wr => ∃ k : Nat, k + g = 256 ∧ s4 = .int .i64 k ∧ Row wr r (bitC (flipTo N k)) 58 ∧ Row wr (w.heap.size + 1) (natC 0) 24 ∧ Below w.heap.size w wr)
  case atStart => exact ⟨0, by omega, rfl, by rw [show flipTo N 0 = N by simp [flipTo, Nat.mod_one]]; exact r3, r2', b3⟩
  case round =>
    obtain ⟨k, hk, rfl, r0, r1, hb⟩ := hrel
    clear r3 r2' b3
    cases gk with
    | zero =>
      obtain rfl : k = 256 := by omega
      rw [show bitC (flipTo N 256) = bitC (flip N) by rw [← bitC_set (flipTo N 256) (flip N) 256 true (fun i hi => by rw [if_neg (by omega), flipTo_bit, if_pos hi])]; rw [Array.setIfInBounds_eq_of_size_le (by rw [bitC_size]; omega)]] at r0
      clear hk
      have hx : ¬ ((256 : Int) < 256) := by omega
      go_wp2_with (first
        | refine wpList_loadR rfl 58 _ rfl _ rfl r0 256 _ Try.underlying58 (by rw [bitC_size]; exact size_bits) ?_
        | (go_at_call 45; refine (rnat_any _ _).mono ?_; rintro e w2 ⟨rfl, hb2⟩; have r5 := r1.belowAll hb2; have b5 := below_on hb (Nat.le_refl _) hb2)
        | refine wpList_storeR rfl 24 _ _ rfl _ _ rfl rfl r5 (by exact size_nat) (by simp only [natC_size]) (natC_one _) ?_)
      exact ret_row rfl _ rfl (r5.setRow _) 4 _ Try.underlying24 (by exact size_nat) rfl ⟨rfl, below_setRow b5 (by omega) _⟩
    | succ g =>
      have hlt : (k : Int) < 256 := by omega
      have hc0 := cell_bits r0 k (by omega)
      have hf0 := r0.frozen k
      have hbit : (flipTo N k).testBit k = N.testBit k := by rw [flipTo_bit, if_neg (by omega)]
      rw [hbit] at hc0
      have R : Aside (Row wr r (bitC (flipTo N k)) 58 ∧ Row wr (w.heap.size + 1) (natC 0) 24 ∧ Below w.heap.size w wr) := ⟨r0, r1, hb⟩
      clear r0 r1 hb hbit
      go_wp2
      obtain ⟨r0, r1, hb⟩ := R.out
      go_roundg g
      case measure => omega
      case rel =>
        refine ⟨k + 1, by omega, by go_num, ?_, r1.setCell_far _ _ _ (by omega), below_setCell hb (by omega) _ _⟩
        have := r0.setCell k (.bool (!N.testBit k))
        rw [bitC_set (flipTo N k) (flipTo N (k + 1)) k _ (fun i hi => by
          rw [flipTo_bit, flipTo_bit]
          by_cases e : i = k
          · subst e; rw [if_pos (by omega), if_pos rfl, flip_bit _ _ (by omega)]
          · rw [if_neg e]
            by_cases h1 : i < k
            · rw [if_pos (by omega), if_pos h1]
            · rw [if_neg (by omega), if_neg h1])] at this
        exact this
end Go.Proofs.Ytmmjjohnejimdaa
