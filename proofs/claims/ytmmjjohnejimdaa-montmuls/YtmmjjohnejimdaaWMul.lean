/- wide.Mul. -/
import Derived.Test.YtmmjjohnejimdaaWTimes
namespace Go.Proofs.Ytmmjjohnejimdaa
open Go.RowKit

theorem mu_lt (A B k : Nat) (hA : A < 2 ^ 256) : (A * lm B k + muH A B k) / 2 ^ 256 < 18446744073709551616 := by
  have h1 := muH_lt A B k hA
  have h2 := lm_lt B k
  refine Nat.div_lt_of_lt_mul ?_
  have : A * lm B k ≤ (2 ^ 256 - 1) * 18446744073709551615 := Nat.mul_le_mul (by omega) (by omega)
  omega

set_option maxRecDepth 100000 in
set_option maxHeartbeats 1000000 in
theorem wmul_any (A B : Nat) (w : World) (hA : A < 2 ^ 256) (hB : B < 2 ^ 256) :
    Calls Try.prog 9 #[.agg (natC A), .agg (natC B)] w fun e w' => e = .returned (.tuple #[.agg (natC (A * B)), .agg (natC (A * B / 2 ^ 256))]) ∧ Below w.heap.size w w' := by
  have HC : Hid (muH A B 4 = A * B / 2 ^ 256) := muH_four A B hB
  have HA : Hid (A < 2 ^ 256) := hA
  clear hA hB
  go_enter Try.func9, Try.ntmps9
  go_wp2_with (first
    | refine wpList_box_row rfl 24 _ rfl _ rfl ?_
    | refine wpList_alloc_row rfl 24 rfl _ zero_nat ?_)
  go_loopg [11] 4 (fun g s11 wr => ∃ k : Nat, k + g = 4 ∧ s11 = .int .i64 k ∧ Row wr w.heap.size (natC A) 24 ∧ Row wr (w.heap.size + 1) (natC B) 24 ∧ Row wr (w.heap.size + 1 + 1) (natC 0) 24 ∧ Row wr (w.heap.size + 1 + 1 + 1) (natC 0) 24 ∧
    Row wr (w.heap.size + 1 + 1 + 1 + 1) (natC ((A * B) % 2 ^ (64 * k))) 24 ∧ Row wr (w.heap.size + 1 + 1 + 1 + 1 + 1) (natC (muH A B k)) 24 ∧ Below w.heap.size w wr)
  case atStart =>
    refine ⟨0, by omega, rfl, (by repeat (first | (refine Row.here ?_; first | (with_reducible rfl) | (simp; done)) | refine Row.alloc ?_ _)), (by repeat (first | (refine Row.here ?_; first | (with_reducible rfl) | (simp; done)) | refine Row.alloc ?_ _)), (by repeat (first | (refine Row.here ?_; first | (with_reducible rfl) | (simp; done)) | refine Row.alloc ?_ _)), (by repeat (first | (refine Row.here ?_; first | (with_reducible rfl) | (simp; done)) | refine Row.alloc ?_ _)), ?_, ?_, (by repeat (first | exact Below.refl _ _ | refine Below.alloc ?_ (by simp <;> omega) _))⟩
    · rw [show (A * B) % 2 ^ (64 * 0) = 0 by simp [Nat.mod_one]]
      exact (by repeat (first | (refine Row.here ?_; first | (with_reducible rfl) | (simp; done)) | refine Row.alloc ?_ _))
    · rw [muH_zero]
      exact (by repeat (first | (refine Row.here ?_; first | (with_reducible rfl) | (simp; done)) | refine Row.alloc ?_ _))
  case round =>
    obtain ⟨k, hk, rfl, r0, r1, r2, r3, r4, r5, hb⟩ := hrel
    cases gk with
    | zero =>
      obtain rfl : k = 4 := by omega
      rw [show (A * B) % 2 ^ (64 * 4) = (A * B) % 2 ^ 256 from rfl, natC_full] at r4
      rw [HC.out] at r5
      clear hk HC HA
      have hx : ¬ ((4 : Int) < 4) := by omega
      go_wp2_with fail
      apply wp_region_mix (by kernel_rfl) [(w.heap.size + 1 + 1, 24, natC 0), (w.heap.size + 1 + 1 + 1, 24, natC 0)] [_, _, _, _] ⟨r2, r3, trivial⟩ (by simp <;> omega)
      · intro p
        refine mx_load 24 _ rfl _ rfl r4 (by simp <;> omega) 4 _ Try.underlying24 size_nat ?_
        simp only [Act.put, List.setIfInBounds_toArray, List.set_cons_zero, List.set_cons_succ]
        refine mx_load 24 _ rfl _ rfl r5 (by simp <;> omega) 4 _ Try.underlying24 size_nat ?_
        simp only [Act.put, List.setIfInBounds_toArray, List.set_cons_zero, List.set_cons_succ]
        refine mx_put 0 24 _ _ rfl rfl rfl (natC (A * B)) rfl (by exact size_nat) (by rfl) (natC_one _) ?_
        simp only [Act.put]
        refine mx_put 2 24 _ _ rfl rfl rfl (natC (A * B / 2 ^ 256)) rfl (by exact size_nat) (by rfl) (natC_one _) ?_
        simp only [Act.put]
        refine mx_end ?_
        intro w1 hkw hrw _ _
        have r2' : Row w1 (w.heap.size + 1 + 1) (natC (A * B)) 24 := hrw 0 _ rfl
        have r3' : Row w1 (w.heap.size + 1 + 1 + 1) (natC (A * B / 2 ^ 256)) 24 := hrw 2 _ rfl
        have hb1 := hb.trans (hkw.below w.heap.size hb.size (by simp <;> omega))
        go_wp2_with fail
        exact ret_rows2 rfl _ rfl r2' _ rfl r3' 4 _ Try.underlying24 (by exact size_nat) (by exact size_nat) rfl ⟨rfl, hb1⟩
      · kernel_rfl
    | succ g =>
      have hlt : (k : Int) < 4 := by omega
      have hlb := lm_lt B k
      have hH := muH_lt A B k HA.out
      have hT := mu_lt A B k HA.out
      go_wp2_with fail
      apply wp_region_mix (by kernel_rfl) [] [_, _, _, _, _, _, _, _, _, _, _, _] trivial List.nodup_nil
      · intro p
        refine mx_load 24 _ rfl _ rfl r0 (by simp <;> omega) 4 _ Try.underlying24 size_nat ?_
        simp only [Act.put, List.setIfInBounds_toArray, List.set_cons_zero, List.set_cons_succ]
        refine mx_move rfl rfl ?_
        simp only [Act.put, List.setIfInBounds_toArray, List.set_cons_zero, List.set_cons_succ]
        refine mx_val (.pointer (some ⟨w.heap.size + 1, k, none⟩)) (exec_index 24 _ _ rfl (w.heap.size + 1) rfl (k) 4 rfl (by omega) _ Try.underlying24 Try.sizeOf22) ?_
        simp only [Act.put, List.setIfInBounds_toArray, List.set_cons_zero, List.set_cons_succ]
        refine mx_loadc 22 _ rfl _ (k) rfl r1 (by simp <;> omega) (.int .u64 (lm B k)) (natC_get B k (by omega)) Try.isAgg22 ?_
        simp only [Act.put, List.setIfInBounds_toArray, List.set_cons_zero, List.set_cons_succ]
        refine mx_load 24 _ rfl _ rfl r5 (by simp <;> omega) 4 _ Try.underlying24 size_nat ?_
        simp only [Act.put, List.setIfInBounds_toArray, List.set_cons_zero, List.set_cons_succ]
        refine mx_call 38 _ _ rfl Try.func38 (by kernel_rfl) #[.agg (natC A), .int .u64 (lm B k), .agg (natC (muH A B k))] rfl _ (fun w => times_any _ _ _ w HA.out hH hlb) ?_
        simp only [Act.put, List.setIfInBounds_toArray, List.set_cons_zero, List.set_cons_succ]
        refine mx_move rfl rfl ?_
        simp only [Act.put, List.setIfInBounds_toArray, List.set_cons_zero, List.set_cons_succ]
        refine mx_ext rfl rfl rfl ?_
        simp only [Act.put, List.setIfInBounds_toArray, List.set_cons_zero, List.set_cons_succ]
        refine mx_ext rfl rfl rfl ?_
        simp only [Act.put, List.setIfInBounds_toArray, List.set_cons_zero, List.set_cons_succ]
        refine mx_new 24 rfl _ zero_nat ?_
        simp only [Act.put, List.setIfInBounds_toArray, List.set_cons_zero, List.set_cons_succ]
        refine mx_put 19 24 _ _ rfl rfl rfl (natC (A * lm B k + muH A B k)) rfl (by exact size_nat) (by rfl) (natC_one _) ?_
        simp only [Act.put]
        refine mx_asg rfl rfl ?_
        simp only [Act.put, List.setIfInBounds_toArray, List.set_cons_zero, List.set_cons_succ]
        refine mx_end ?_
        intro w1 hkw hrw hnew _
        have r9 : Row w1 (p 9) (natC (A * lm B k + muH A B k)) 24 := hrw 19 _ rfl
        have hp : wr.heap.size ≤ p 9 := hnew 9 rfl
        clear hrw hnew
        generalize p 9 = q at *
        have hl4 := r4.lt
        have hl5 := r5.lt
        have q0 := hkw.row r0 (by simp)
        have q1 := hkw.row r1 (by simp)
        have q2 := hkw.row r2 (by simp)
        have q3 := hkw.row r3 (by simp)
        have q4 := hkw.row r4 (by simp)
        have q5 := hkw.row r5 (by simp)
        have hb1 := hb.trans (hkw.below w.heap.size hb.size (by simp))
        clear r0 r1 r2 r3 r4 r5 hb hkw
        have hl : Hid (lm (A * B) k = lm (A * lm B k + muH A B k) 0) := by show _ = _; rw [mu_limb, lm0]
        have hs : Hid (muH A B (k + 1) = (A * lm B k + muH A B k) / 18446744073709551616) := mu_next A B k
        have hsh : Hid (natC ((A * lm B k + muH A B k) / 18446744073709551616) = _) := natC_shift _ hT
        generalize A * lm B k + muH A B k = T at *
        have c0 := cell_nat r9 0 (by omega)
        have c1 := cell_nat r9 1 (by omega)
        have c2 := cell_nat r9 2 (by omega)
        have c3 := cell_nat r9 3 (by omega)
        have c4 := cell_nat q4 k (by omega)
        have f4 := q4.frozen k
        have s9 := r9.setCell_far (w.heap.size + 1 + 1 + 1 + 1) k (.int .u64 (lm T 0)) (by omega)
        have d1 := cell_nat s9 1 (by omega)
        have d2 := cell_nat s9 2 (by omega)
        have d3 := cell_nat s9 3 (by omega)
        have s5 := q5.setCell_far (w.heap.size + 1 + 1 + 1 + 1) k (.int .u64 (lm T 0)) (by omega)
        have R : Aside (Row w1 w.heap.size (natC A) 24 ∧ Row w1 (w.heap.size + 1) (natC B) 24 ∧ Row w1 (w.heap.size + 1 + 1) (natC 0) 24 ∧ Row w1 (w.heap.size + 1 + 1 + 1) (natC 0) 24 ∧
          Row w1 (w.heap.size + 1 + 1 + 1 + 1) (natC ((A * B) % 2 ^ (64 * k))) 24 ∧ Below w.heap.size w w1) := ⟨q0, q1, q2, q3, q4, hb1⟩
        clear q0 q1 q2 q3 q4 q5 hb1 r9 s9 hlb hH hT
        go_wp2_with (first
          | refine wpList_storeR rfl 24 _ _ rfl _ (natC (T / 18446744073709551616)) rfl (by rw [hsh.out]; rfl) s5 (by exact size_nat) (by rfl) (natC_one _) ?_)
        obtain ⟨q0, q1, q2, q3, q4, hb1⟩ := R.out
        go_roundg g
        case measure => omega
        case rel =>
          refine ⟨k + 1, by omega, by go_num, (q0.setCell_far _ _ _ (by omega)).setRow_far _ _ (by omega), (q1.setCell_far _ _ _ (by omega)).setRow_far _ _ (by omega), (q2.setCell_far _ _ _ (by omega)).setRow_far _ _ (by omega), (q3.setCell_far _ _ _ (by omega)).setRow_far _ _ (by omega), ?_, ?_, below_setRow (below_setCell hb1 (by omega) _ _) (by omega) _⟩
          · have := (q4.setCell k (.int .u64 (lm T 0))).setRow_far (w.heap.size + 1 + 1 + 1 + 1 + 1) (natC (T / 18446744073709551616)) (by omega)
            rw [natC_limb (A * B) k _ (by omega) hl.out.symm] at this
            exact this
          · rw [hs.out]
            exact s5.setRow _
      · kernel_rfl
end Go.Proofs.Ytmmjjohnejimdaa
