/- nat.Add and nat.Sub: the limbs' sums and rests, carried. -/
import Derived.Test.YtmmjjohnejimdaaTypes
import Derived.Test.YtmmjjohnejimdaaLimb
import Derived.Test.YtmmjjohnejimdaaInv
import Derived.Deep.RegionLaw
namespace Go.Proofs.Ytmmjjohnejimdaa
open Go.RowKit

theorem find_add64 : Extern.find Try.f60 = some add64Entry := by kernel_rfl
theorem next_add64 : Extern.findNext Try.f60 = none := by kernel_rfl
theorem find_sub64 : Extern.find Try.f68 = some sub64Entry := by kernel_rfl
theorem next_sub64 : Extern.findNext Try.f68 = none := by kernel_rfl
set_option maxRecDepth 100000 in
set_option maxHeartbeats 400000 in
theorem nadd_any (A B : Nat) (w : World) :
    Calls Try.prog 46 #[.agg (natC A), .agg (natC B)] w fun e w' => e = .returned (.tuple #[.agg (natC (A + B)), .int .i64 (cN A B 256 : Nat)]) ∧ Below w.heap.size w w' := by
  go_enter Try.func46, Try.ntmps46
  go_wp2_with (first
    | refine wpList_box_row rfl 24 _ rfl _ rfl ?_
    | refine wpList_alloc_row rfl 24 rfl _ zero_nat ?_)
  go_loopg [7, 9] 4 (fun g s7 s9 wr => ∃ k : Nat, k + g = 4 ∧ s7 = .int .u64 (cN A B (64 * k)) ∧ s9 = .int .i64 k ∧ Row wr w.heap.size (natC A) 24 ∧ Row wr (w.heap.size + 1) (natC B) 24 ∧ Row wr (w.heap.size + 1 + 1) (natC 0) 24 ∧ Row wr (w.heap.size + 1 + 1 + 1) (natC ((A + B) % 2 ^ (64 * k))) 24 ∧ Below w.heap.size w wr)
  case atStart =>
    refine ⟨0, by omega, by rw [show cN A B (64 * 0) = 0 by unfold cN; rw [show carry A B (64 * 0) = false from carry_zero A B]; rfl]; rfl, rfl, (Row.two rfl).alloc _, Row.two (by simp), Row.one (by simp), ?_, (below_alloc3 _ _ _).alloc (by simp; omega) _⟩
    rw [show (A + B) % 2 ^ (64 * 0) = 0 by simp [Nat.mod_one]]
    exact Row.here (by simp)
  case round =>
    obtain ⟨k, hk, rfl, rfl, r0, r1, r2, r3, hb⟩ := hrel
    cases gk with
    | zero =>
      obtain rfl : k = 4 := by omega
      rw [show (A + B) % 2 ^ (64 * 4) = (A + B) % 2 ^ 256 from rfl, natC_full] at r3
      clear hk
      have hx : ¬ ((4 : Int) < 4) := by omega
      have hcl := cN_le A B (64 * 4)
      rw [show 64 * 4 = 256 from rfl] at hcl ⊢
      have HC : Hid (∃ c, cN A B 256 = c) := ⟨_, rfl⟩
      obtain ⟨c, hC⟩ := HC.out
      rw [hC] at hcl ⊢
      have HC : Hid (cN A B 256 = c) := hC
      clear hC
      go_wp2_with (first
        | refine wpList_loadR rfl 24 _ rfl _ rfl r3 4 _ Try.underlying24 (by exact size_nat) ?_
        | refine wpList_storeR rfl 24 _ _ rfl _ _ rfl rfl r2 (by exact size_nat) (by simp only [natC_size]) (natC_one _) ?_)
      refine ret_row2 rfl _ rfl (r2.setRow _) 4 _ Try.underlying24 (by exact size_nat) rfl _ rfl ⟨by rw [HC.out]; rfl, below_setRow hb (by omega) _⟩
    | succ g =>
      have hlt : (k : Int) < 4 := by omega
      have hc0 := cell_nat r0 k (by omega)
      have hc1 := cell_nat r1 k (by omega)
      have hc3 := cell_nat r3 k (by omega)
      have hf3 := r3.frozen k
      have R : Aside (Row wr w.heap.size (natC A) 24 ∧ Row wr (w.heap.size + 1) (natC B) 24 ∧ Row wr (w.heap.size + 1 + 1) (natC 0) 24 ∧ Row wr (w.heap.size + 1 + 1 + 1) (natC ((A + B) % 2 ^ (64 * k))) 24 ∧ Below w.heap.size w wr) := ⟨r0, r1, r2, r3, hb⟩
      clear r0 r1 r2 r3 hb
      have hcl := cN_le A B (64 * k)
      have hl := add_limb A B k
      have hs := add_carry A B k
      generalize cN A B (64 * k) = c at *
      have S : Aside (lm (A + B) k = addV (lm A k) (lm B k) c ∧ cN A B (64 * (k + 1)) = addC (lm A k) (lm B k) c) := ⟨hl, hs⟩
      clear hl hs
      go_wp2
      go_region_law (refine step_extern (by rfl) 60 _ _ (by rfl) Try.func60 (by kernel_rfl) (by kernel_rfl) next_add64 find_add64 #[.int .u64 (lm A k), .int .u64 (lm B k), .int .u64 c] (by rfl) _ (run_add64_nat _ _ _ hcl _) ?_)
      all_goals
        go_wp2
        obtain ⟨r0, r1, r2, r3, hb⟩ := R.out
        obtain ⟨hl, hs⟩ := S.out
        go_roundg g
        case measure => omega
        case rel =>
          refine ⟨k + 1, by omega, by rw [hs], by go_num, (r0.setCell_far _ _ _ (by omega)).drew, (r1.setCell_far _ _ _ (by omega)).drew, (r2.setCell_far _ _ _ (by omega)).drew, ?_, (below_setCell hb (by omega) _ _).drew⟩
          have := (r3.setCell k (.int .u64 (addV (lm A k) (lm B k) c : Nat))).drew
          rw [natC_limb (A + B) k _ (by omega) hl.symm] at this
          exact this

set_option maxRecDepth 100000 in
set_option maxHeartbeats 400000 in
theorem nsub_any (A B : Nat) (w : World) (hB : B < 2 ^ 256) :
    Calls Try.prog 49 #[.agg (natC A), .agg (natC B)] w fun e w' => e = .returned (.tuple #[.agg (natC (less A B)), .int .i64 (bN A B 256 : Nat)]) ∧ Below w.heap.size w w' := by
  have HB : Hid (B < 2 ^ 256) := hB
  clear hB
  go_enter Try.func49, Try.ntmps49
  go_wp2_with (first
    | refine wpList_box_row rfl 24 _ rfl _ rfl ?_
    | refine wpList_alloc_row rfl 24 rfl _ zero_nat ?_)
  go_loopg [7, 9] 4 (fun g s7 s9 wr => ∃ k : Nat, k + g = 4 ∧ s7 = .int .u64 (bN A B (64 * k)) ∧ s9 = .int .i64 k ∧ Row wr w.heap.size (natC A) 24 ∧ Row wr (w.heap.size + 1) (natC B) 24 ∧ Row wr (w.heap.size + 1 + 1) (natC 0) 24 ∧ Row wr (w.heap.size + 1 + 1 + 1) (natC ((less A B) % 2 ^ (64 * k))) 24 ∧ Below w.heap.size w wr)
  case atStart =>
    refine ⟨0, by omega, by rw [show bN A B (64 * 0) = 0 by simp [bN, Nat.mod_one]]; rfl, rfl, (Row.two rfl).alloc _, Row.two (by simp), Row.one (by simp), ?_, (below_alloc3 _ _ _).alloc (by simp; omega) _⟩
    rw [show (less A B) % 2 ^ (64 * 0) = 0 by simp [Nat.mod_one]]
    exact Row.here (by simp)
  case round =>
    obtain ⟨k, hk, rfl, rfl, r0, r1, r2, r3, hb⟩ := hrel
    cases gk with
    | zero =>
      obtain rfl : k = 4 := by omega
      rw [show (less A B) % 2 ^ (64 * 4) = (less A B) % 2 ^ 256 from rfl, natC_full] at r3
      clear hk
      have hx : ¬ ((4 : Int) < 4) := by omega
      have hcl := bN_le A B (64 * 4)
      rw [show 64 * 4 = 256 from rfl] at hcl ⊢
      have HC : Hid (∃ c, bN A B 256 = c) := ⟨_, rfl⟩
      obtain ⟨c, hC⟩ := HC.out
      rw [hC] at hcl ⊢
      have HC : Hid (bN A B 256 = c) := hC
      clear hC
      go_wp2_with (first
        | refine wpList_loadR rfl 24 _ rfl _ rfl r3 4 _ Try.underlying24 (by exact size_nat) ?_
        | refine wpList_storeR rfl 24 _ _ rfl _ _ rfl rfl r2 (by exact size_nat) (by simp only [natC_size]) (natC_one _) ?_)
      refine ret_row2 rfl _ rfl (r2.setRow _) 4 _ Try.underlying24 (by exact size_nat) rfl _ rfl ⟨by rw [HC.out]; rfl, below_setRow hb (by omega) _⟩
    | succ g =>
      have hlt : (k : Int) < 4 := by omega
      have hc0 := cell_nat r0 k (by omega)
      have hc1 := cell_nat r1 k (by omega)
      have hc3 := cell_nat r3 k (by omega)
      have hf3 := r3.frozen k
      have R : Aside (Row wr w.heap.size (natC A) 24 ∧ Row wr (w.heap.size + 1) (natC B) 24 ∧ Row wr (w.heap.size + 1 + 1) (natC 0) 24 ∧ Row wr (w.heap.size + 1 + 1 + 1) (natC ((less A B) % 2 ^ (64 * k))) 24 ∧ Below w.heap.size w wr) := ⟨r0, r1, r2, r3, hb⟩
      clear r0 r1 r2 r3 hb
      have hcl := bN_le A B (64 * k)
      have hl := sub_limb A B k (by omega) HB.out
      have hs := sub_borrow A B k
      generalize bN A B (64 * k) = c at *
      have S : Aside (lm (less A B) k = subV (lm A k) (lm B k) c ∧ bN A B (64 * (k + 1)) = subB (lm A k) (lm B k) c) := ⟨hl, hs⟩
      clear hl hs
      go_wp2
      go_region_law (refine step_extern (by rfl) 68 _ _ (by rfl) Try.func68 (by kernel_rfl) (by kernel_rfl) next_sub64 find_sub64 #[.int .u64 (lm A k), .int .u64 (lm B k), .int .u64 c] (by rfl) _ (run_sub64 _ _ _ hcl _) ?_)
      all_goals
        go_wp2
        obtain ⟨r0, r1, r2, r3, hb⟩ := R.out
        obtain ⟨hl, hs⟩ := S.out
        go_roundg g
        case measure => omega
        case rel =>
          refine ⟨k + 1, by omega, by rw [hs], by go_num, (r0.setCell_far _ _ _ (by omega)).drew, (r1.setCell_far _ _ _ (by omega)).drew, (r2.setCell_far _ _ _ (by omega)).drew, ?_, (below_setCell hb (by omega) _ _).drew⟩
          have := (r3.setCell k (.int .u64 (subV (lm A k) (lm B k) c : Nat))).drew
          rw [natC_limb (less A B) k _ (by omega) hl.symm] at this
          exact this
end Go.Proofs.Ytmmjjohnejimdaa
