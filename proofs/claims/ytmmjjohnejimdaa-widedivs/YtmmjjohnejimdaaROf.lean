/- The document's Of: the bits of a natural. -/
import Derived.Test.YtmmjjohnejimdaaTypes


namespace Go.Proofs.Ytmmjjohnejimdaa
open Go.RowKit






set_option maxRecDepth 100000 in
set_option maxHeartbeats 400000 in
theorem rof_any (N : Nat) (w : World) :
    Calls Try.prog 44 #[.agg (natC N)] w fun e w' => e = .returned (.agg (bitC N)) ∧ Below w.heap.size w w' := by
  go_enter Try.func44, Try.ntmps44
  go_wp2_with (first
    | refine wpList_box_row rfl 24 _ rfl _ rfl ?_
    | refine wpList_alloc_row rfl 58 rfl _ zero_bits ?_
    | refine wpList_build_zero rfl 58 rfl _ built_bits ?_
    | (refine wpList_store_row rfl 58 _ _ rfl _ (bitC 0) rfl rfl 58 (bitC 0) (heap_alloc_new _ _) (by rw [bitC_size]; exact size_bits) rfl (bitC_one _) ?_))
  have s0 : Row ((((w.alloc (.cells (natC N) 24)).alloc (.cells (bitC 0) 58)).alloc (.cells (bitC 0) 58)).setRow (w.heap.size + 1 + 1) (bitC 0)) w.heap.size (natC N) 24 :=
    (((Row.new w _ _).alloc _).alloc _).setRow_far _ _ (by omega)
  have s1 : Row ((((w.alloc (.cells (natC N) 24)).alloc (.cells (bitC 0) 58)).alloc (.cells (bitC 0) 58)).setRow (w.heap.size + 1 + 1) (bitC 0)) (w.heap.size + 1) (bitC 0) 58 :=
    by have := (Row.new (w.alloc (.cells (natC N) 24)) (bitC 0) 58).alloc (.cells (bitC 0) 58); rw [alloc_size] at this; exact this.setRow_far _ _ (by omega)
  have s2 : Row ((((w.alloc (.cells (natC N) 24)).alloc (.cells (bitC 0) 58)).alloc (.cells (bitC 0) 58)).setRow (w.heap.size + 1 + 1) (bitC 0)) (w.heap.size + 1 + 1) (bitC 0) 58 :=
    by have := Row.new ((w.alloc (.cells (natC N) 24)).alloc (.cells (bitC 0) 58)) (bitC 0) 58; rw [alloc_size, alloc_size] at this; exact this.setRow _
  have s3 : Below w.heap.size w ((((w.alloc (.cells (natC N) 24)).alloc (.cells (bitC 0) 58)).alloc (.cells (bitC 0) 58)).setRow (w.heap.size + 1 + 1) (bitC 0)) :=
    below_setRow ((((Below.refl _ _).alloc (Nat.le_refl _) _).alloc (by simp) _).alloc (by simp; omega) _) (by omega) _
  go_loopg [4] 256 (fun g s4 wr => ∃ k : Nat, k + g = 256 ∧ s4 = .int .i64 k ∧ Row wr w.heap.size (natC N) 24 ∧ Row wr (w.heap.size + 1) (bitC 0) 58 ∧ Row wr (w.heap.size + 1 + 1) (bitC (N % 2 ^ k)) 58 ∧ Below w.heap.size w wr)
  case atStart => exact ⟨0, by omega, rfl, s0, s1, by simpa [Nat.mod_one] using s2, s3⟩
  case round =>
    obtain ⟨k, hk, rfl, r0, r1, r2, hb⟩ := hrel
    cases gk with
    | zero =>
      obtain rfl : k = 256 := by omega
      rw [bitC_full] at r2
      clear s0 s1 s2 s3 hk
      have hx : ¬ ((256 : Int) < 256) := by omega
      go_wp2_with (first
        | refine wpList_load_row rfl 58 _ rfl _ rfl 58 _ (0, 0) _ r2 Try.underlying58 rfl (by rw [bitC_size]; exact size_bits) ?_
        | refine wpList_store_row rfl 58 _ _ rfl _ (bitC N) rfl rfl 58 (bitC 0) r1 (by rw [bitC_size]; exact size_bits) (by rw [bitC_size, bitC_size]) (bitC_one _) ?_)
      refine ret_row rfl _ rfl (r1.setRow _) 256 _ Try.underlying58 (by rw [bitC_size]; exact size_bits) rfl ⟨rfl, below_setRow hb (by omega) _⟩
    | succ g =>
      have hlt : (k : Int) < 256 := by omega
      have hc0 : wr.cell? ⟨w.heap.size, k / 64, none⟩ = some (.int .u64 (lm N (k / 64))) := by rw [r0.cell]; exact natC_get _ _ (by omega)
      have hc2 : wr.cell? ⟨w.heap.size + 1 + 1, k, none⟩ = some (.bool ((N % 2 ^ k).testBit k)) := by rw [r2.cell]; exact bitC_get _ _ (by omega)
      have hf2 := r2.frozen k
      have hlm := lm_lt N (k / 64)
      have R : Aside (Row wr w.heap.size (natC N) 24 ∧ Row wr (w.heap.size + 1) (bitC 0) 58 ∧ Row wr (w.heap.size + 1 + 1) (bitC (N % 2 ^ k)) 58 ∧ Below w.heap.size w wr) := ⟨r0, r1, r2, hb⟩
      clear s0 s1 s2 s3 r0 r1 r2 hb
      go_wp2
      obtain ⟨r0, r1, r2, hb⟩ := R.out
      go_roundg g
      case measure => omega
      case rel =>
        refine ⟨k + 1, by omega, by go_num, r0.setCell_far _ _ _ (by omega), r1.setCell_far _ _ _ (by omega), ?_, below_setCell hb (by omega) _ _⟩
        have := r2.setCell k (.bool (bits BinOp.and IntKind.u64 (↑(lm N (k / 64)) / 2 ^ (k % 64)) 1 == 1))
        rw [bitC_snoc N k _ (by rw [bit_test _ _ hlm, lm_bit])] at this
        exact this
end Go.Proofs.Ytmmjjohnejimdaa
