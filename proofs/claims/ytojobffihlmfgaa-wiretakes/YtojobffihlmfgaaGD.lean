/- The document's Up and Down: a natural times two, by two, so often. -/
import Derived.Test.YtojobffihlmfgaaGA
import Derived.Test.YtojobffihlmfgaaGB
namespace Go.Proofs.Ytojobffihlmfgaa
open Go.RowKit
theorem up_bit (A n k : Nat) : (A * 2 ^ n).testBit k = (decide (n ≤ k) && A.testBit (k - n)) := by
 rw [Nat.mul_comm, Nat.testBit_two_pow_mul]
set_option maxRecDepth 100000 in
set_option maxHeartbeats 400000 in
theorem rup_any (A : Nat) (n : Int) (w : World) :
  Calls Try.prog 39 #[.agg (natC A), .int .i64 n] w fun e w' => e = .returned (.agg (natC (A * 2 ^ n.toNat))) ∧ Below w.heap.size w w' := by
 go_enter Try.func39, Try.ntmps39
 go_wp2_with (first
  | refine wpList_box_row rfl 51 _ rfl _ rfl ?_
  | refine wpList_alloc_row rfl 51 rfl _ zero_nat ?_
  | refine wpList_loadR rfl 51 _ rfl _ rfl (by first | assumption | (refine Row.here ?_; first | (with_reducible rfl) | (simp; done)) | (refine Row.one ?_; first | (with_reducible rfl) | (simp; done)) | (refine Row.two ?_; first | (with_reducible rfl) | (simp; done))) 4 _ Try.underlying51 (by exact size_nat) ?_
  | (go_at_call 62; refine (rof_any _ _).mono ?_; rintro e w2 ⟨rfl, hb2⟩; have hs := hb2.size; have r2 := (Row.here (w := w.alloc (.cells (natC A) 51)) (c := natC 0) (t := 51) (b := w.heap.size + 1) (by simp)).belowAll hb2; have b2 := below_on (below_alloc2 _ _) (Nat.le_refl _) hb2; clear hb2)
  | refine wpList_alloc_row rfl 97 rfl _ zero_bits ?_
  | refine wpList_build_zero rfl 97 rfl _ built_bits ?_
  | refine wpList_store_new rfl 97 _ _ rfl _ rfl rfl _ _ (by rw [bitC_size]; exact size_bits) (by simp only [bitC_size]) (bitC_one _) ?_)
 have r3 : Row ((w2.alloc (.cells (bitC A) 97)).alloc (.cells (bitC 0) 97)) w2.heap.size (bitC A) 97 := Row.one rfl
 have r4 : Row ((w2.alloc (.cells (bitC A) 97)).alloc (.cells (bitC 0) 97)) (w2.heap.size + 1) (bitC 0) 97 := Row.here (by simp)
 have r2' := (r2.alloc (.cells (bitC A) 97)).alloc (.cells (bitC 0) 97)
 have hr := r2.lt
 have b3 := (b2.alloc (by have := b2.size; omega) (.cells (bitC A) 97)).alloc (by have := b2.size; simp; omega) (.cells (bitC 0) 97)
 generalize (w2.alloc (.cells (bitC A) 97)).alloc (.cells (bitC 0) 97) = w3 at *
 generalize w2.heap.size = r at *
 clear r2 b2 hs
 go_loopg [7] 256 (fun g s7 wr => ∃ k : Nat, k + g = 256 ∧ s7 = .int .i64 k ∧ Row wr r (bitC A) 97 ∧ Row wr (r + 1) (bitC ((A * 2 ^ n.toNat) % 2 ^ k)) 97 ∧ Row wr (w.heap.size + 1) (natC 0) 51 ∧ Below w.heap.size w wr)
 case atStart => exact ⟨0, by omega, rfl, r3, by rw [Nat.pow_zero, Nat.mod_one]; exact r4, r2', b3⟩
 case round =>
  obtain ⟨k, hk, rfl, r0, r1, r5, hb⟩ := hrel
  clear r3 r4 r2' b3
  cases gk with
  | zero =>
   obtain rfl : k = 256 := by omega
   rw [bitC_full] at r1
   clear hk
   have hx : ¬ ((256 : Int) < 256) := by omega
   go_wp2_with (first
    | refine wpList_loadR rfl 97 _ rfl _ rfl r1 256 _ Try.underlying97 (by rw [bitC_size]; exact size_bits) ?_
    | (go_at_call 63; refine (rnat_any _ _).mono ?_; rintro e w2 ⟨rfl, hb2⟩; have r6 := r5.belowAll hb2; have b6 := below_on hb (Nat.le_refl _) hb2)
    | refine wpList_storeR rfl 51 _ _ rfl _ _ rfl rfl r6 (by exact size_nat) (by simp only [natC_size]) (natC_one _) ?_)
   exact ret_row rfl _ rfl (r6.setRow _) 4 _ Try.underlying51 (by exact size_nat) rfl ⟨rfl, below_setRow b6 (by omega) _⟩
  | succ g =>
   have hlt : (k : Int) < 256 := by omega
   have hc1 := cell_bits r1 k (by omega)
   have hf1 := r1.frozen k
   have hbit := up_bit A n.toNat k
   have R : Aside ((A * 2 ^ n.toNat).testBit k = (A * 2 ^ n.toNat).testBit k ∧ Row wr r (bitC A) 97 ∧ Row wr (r + 1) (bitC ((A * 2 ^ n.toNat) % 2 ^ k)) 97 ∧ Row wr (w.heap.size + 1) (natC 0) 51 ∧ Below w.heap.size w wr) := ⟨rfl, r0, r1, r5, hb⟩
   by_cases hn : 0 < n
   ·by_cases hle : n ≤ (k : Int)
    ·have hc0 := cell_bits r0 ((k : Int) - n).toNat (by omega)
     have HB : Aside (A.testBit ((k : Int) - n).toNat = (A * 2 ^ n.toNat).testBit k) := by
      show _ = _
      rw [hbit, show ((k : Int) - n).toNat = k - n.toNat by omega, decide_eq_true (show n.toNat ≤ k by omega), Bool.true_and]
     clear r0 r1 r5 hb hbit
     have hmin : min n 256 = n := by omega
     go_wp2
     obtain ⟨_, r0, r1, r5, hb⟩ := R.out
     go_roundg g
     case measure => omega
     case rel => exact ⟨k + 1, by omega, by go_num, r0.setCell_far _ _ _ (by omega), by rw [← bitC_snoc (A * 2 ^ n.toNat) k _ HB.out]; exact r1.setCell _ _, r5.setCell_far _ _ _ (by omega), below_setCell hb (by omega) _ _⟩
    ·have HB : Aside (false = (A * 2 ^ n.toNat).testBit k) := by
      show _ = _
      rw [hbit, decide_eq_false (show ¬ n.toNat ≤ k by omega), Bool.false_and]
     clear r0 r1 r5 hb hbit
     by_cases h256 : n ≤ 256
     ·have hmin : min n 256 = n := by omega
      have hneg : ¬ (0 ≤ (k : Int) - n) := by omega
      go_wp2
      obtain ⟨_, r0, r1, r5, hb⟩ := R.out
      go_roundg g
      case measure => omega
      case rel => exact ⟨k + 1, by omega, by go_num, r0.setCell_far _ _ _ (by omega), by rw [← bitC_snoc (A * 2 ^ n.toNat) k _ HB.out]; exact r1.setCell _ _, r5.setCell_far _ _ _ (by omega), below_setCell hb (by omega) _ _⟩
     ·have hmin : min n 256 = 256 := by omega
      have hneg : ¬ (0 ≤ (k : Int) - 256) := by omega
      go_wp2
      obtain ⟨_, r0, r1, r5, hb⟩ := R.out
      go_roundg g
      case measure => omega
      case rel => exact ⟨k + 1, by omega, by go_num, r0.setCell_far _ _ _ (by omega), by rw [← bitC_snoc (A * 2 ^ n.toNat) k _ HB.out]; exact r1.setCell _ _, r5.setCell_far _ _ _ (by omega), below_setCell hb (by omega) _ _⟩
   ·have hc0 := cell_bits r0 k (by omega)
    have HB : Aside (A.testBit k = (A * 2 ^ n.toNat).testBit k) := by
     show _ = _
     rw [show n.toNat = 0 by omega, Nat.pow_zero, Nat.mul_one]
    clear r0 r1 r5 hb hbit
    go_wp2
    obtain ⟨_, r0, r1, r5, hb⟩ := R.out
    go_roundg g
    case measure => omega
    case rel => exact ⟨k + 1, by omega, by go_num, r0.setCell_far _ _ _ (by omega), by rw [← bitC_snoc (A * 2 ^ n.toNat) k _ HB.out]; exact r1.setCell _ _, r5.setCell_far _ _ _ (by omega), below_setCell hb (by omega) _ _⟩
end Go.Proofs.Ytojobffihlmfgaa
/- nat.Up. -/
namespace Go.Proofs.Ytojobffihlmfgaa
open Go.RowKit
/-- A limb of A times 2^(64 L + f): what the limb below pushes over lies beneath. -/
def upV (A f j : Nat) : Nat := lm A j * 2 ^ f % 18446744073709551616
def upW (A f j : Nat) : Nat := upV A f j ||| lm A (j - 1) / 2 ^ (64 - f)
/-- A limb of A by 2^(64 L + f). -/
def downV (A f i : Nat) : Nat := lm A i / 2 ^ f
def downW (A f i : Nat) : Nat := downV A f i ||| lm A (i + 1) * 2 ^ (64 - f) % 18446744073709551616
end Go.Proofs.Ytojobffihlmfgaa
/- nat.Down. -/
namespace Go.Proofs.Ytojobffihlmfgaa
open Go.RowKit
end Go.Proofs.Ytojobffihlmfgaa
