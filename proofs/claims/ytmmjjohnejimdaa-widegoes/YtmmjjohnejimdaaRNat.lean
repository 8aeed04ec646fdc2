/- The document's Nat: the natural of bits. -/
import Derived.Test.YtmmjjohnejimdaaTypes
namespace Go.Proofs.Ytmmjjohnejimdaa
open Go.RowKit

set_option maxRecDepth 100000 in
set_option maxHeartbeats 400000 in
theorem rnat_any (N : Nat) (w : World) :
    Calls Try.prog 45 #[.agg (bitC N)] w fun e w' => e = .returned (.agg (natC N)) ∧ Below w.heap.size w w' := by
  go_enter Try.func45, Try.ntmps45
  go_wp2_with (first
    | refine wpList_box_row rfl 58 _ rfl _ rfl ?_
    | refine wpList_alloc_row rfl 24 rfl _ zero_nat ?_
    | refine wpList_build_zero rfl 24 rfl _ built_nat ?_
    | refine wpList_store_new rfl 24 _ _ rfl _ rfl rfl _ _ (by exact size_nat) (by simp only [natC_size]) (natC_one _) ?_)
  go_loopg [4] 256 (fun g s4 wr => ∃ k : Nat, k + g = 256 ∧ s4 = .int .i64 k ∧ Row wr w.heap.size (bitC N) 58 ∧ Row wr (w.heap.size + 1) (natC 0) 24 ∧ Row wr (w.heap.size + 1 + 1) (natC (N % 2 ^ k)) 24 ∧ Below w.heap.size w wr)
  case atStart => exact ⟨0, by omega, rfl, ((Row.here rfl).alloc _).alloc _, (Row.here (by simp)).alloc _, by rw [Nat.pow_zero, Nat.mod_one]; exact Row.here (by simp), (((Below.refl _ _).alloc (Nat.le_refl _) _).alloc (by simp) _).alloc (by simp; omega) _⟩
  case round =>
    obtain ⟨k, hk, rfl, r0, r1, r2, hb⟩ := hrel
    cases gk with
    | zero =>
      obtain rfl : k = 256 := by omega
      rw [natC_full] at r2
      clear hk
      have hx : ¬ ((256 : Int) < 256) := by omega
      go_wp2_with (first
        | refine wpList_load_row rfl 24 _ rfl _ rfl 24 _ (0, 0) _ r2 Try.underlying24 rfl (by exact size_nat) ?_
        | refine wpList_store_row rfl 24 _ _ rfl _ (natC N) rfl rfl 24 (natC 0) r1 (by exact size_nat) (by rfl) (natC_one _) ?_)
      exact ret_row rfl _ rfl (r1.setRow _) 4 _ Try.underlying24 (by exact size_nat) rfl ⟨rfl, below_setRow hb (by omega) _⟩
    | succ g =>
      have hlt : (k : Int) < 256 := by omega
      have hc0 := cell_bits r0 k (by omega)
      have hc2 := cell_nat r2 (k / 64) (by omega)
      have hf2 := r2.frozen (k / 64)
      have hlm := lm_lt (N % 2 ^ k) (k / 64)
      have R : Aside (Row wr w.heap.size (bitC N) 58 ∧ Row wr (w.heap.size + 1) (natC 0) 24 ∧ Row wr (w.heap.size + 1 + 1) (natC (N % 2 ^ k)) 24 ∧ Below w.heap.size w wr) := ⟨r0, r1, r2, hb⟩
      clear r0 r1 r2 hb
      cases hbit : N.testBit k
      · rw [hbit] at hc0
        go_wp2
        obtain ⟨r0, r1, r2, hb⟩ := R.out
        go_roundg g
        case measure => omega
        case rel => exact ⟨k + 1, by omega, by go_num, r0, r1, by rw [mod_snoc_no N k hbit]; exact r2, hb⟩
      · rw [hbit] at hc0
        go_wp2
        go_region
        go_wp2
        obtain ⟨r0, r1, r2, hb⟩ := R.out
        go_roundg g
        case measure => omega
        case rel =>
          refine ⟨k + 1, by omega, by go_num, (r0.setCell_far _ _ _ (by omega)).drew, (r1.setCell_far _ _ _ (by omega)).drew, ?_, (below_setCell hb (by omega) _ _).drew⟩
          have := r2.setCell (k / 64) (.int .u64 ((lm (N % 2 ^ k) (k / 64) ||| 2 ^ (k % 64) : Nat) : Int))
          rw [natC_snoc N k hbit (by omega)] at this
          rw [or_bit _ _ hlm (by omega)]
          exact this.drew
end Go.Proofs.Ytmmjjohnejimdaa
