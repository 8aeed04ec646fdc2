/- wide.SubMod and wide.Div. -/
import Derived.Test.YtmmjjohnejimdaaWRem
namespace Go.Proofs.Ytmmjjohnejimdaa
open Go.RowKit

/-- A difference by m, where m may be 0. -/
def subZ (A B M : Nat) : Nat := if M = 0 then 0 else (A % M + (M - B % M)) % M
theorem sub_le (x y M : Nat) (h : y ≤ x) (hx : x < M) (hM : M < 2 ^ 256) : natC (less x y) = natC ((x + (M - y)) % M) := by
  rw [show x + (M - y) = x - y + M * 1 by omega, Nat.add_mul_mod_self_left, Nat.mod_eq_of_lt (show x - y < M by omega)]
  refine (natC_eq _ _).2 ?_
  unfold less
  rw [show x + (2 ^ 256 - y) = x - y + 2 ^ 256 * 1 by omega, Nat.add_mul_mod_self_left]
theorem sub_gt (x y M : Nat) (h : x < y) (hy : y < M) (hM : M < 2 ^ 256) : natC (less x y + M) = natC ((x + (M - y)) % M) := by
  rw [Nat.mod_eq_of_lt (show x + (M - y) < M by omega)]
  refine (natC_eq _ _).2 ?_
  unfold less
  rw [show x + (2 ^ 256 - y) + M = x + (M - y) + 2 ^ 256 * 1 by omega, Nat.add_mul_mod_self_left]

set_option maxRecDepth 100000 in
set_option maxHeartbeats 1000000 in
theorem wsub_any (A B M : Nat) (w : World) (hA : A < 2 ^ 256) (hB : B < 2 ^ 256) (hM : M < 2 ^ 256) :
    Calls Try.prog 20 #[.agg (natC A), .agg (natC B), .agg (natC M)] w fun e w' => e = .returned (.tuple #[.agg (natC (subZ A B M)), .int .i64 (errI M)]) ∧ Below w.heap.size w w' := by
  have r3 : Row ((((w.alloc (.cells (natC A) 24)).alloc (.cells (natC B) 24)).alloc (.cells (natC M) 24)).alloc (.cells (natC 0) 24)) w.heap.size (natC A) 24 := (by repeat (first | (refine Row.here ?_; first | (with_reducible rfl) | (simp; done)) | refine Row.alloc ?_ _))
  have r4 : Row ((((w.alloc (.cells (natC A) 24)).alloc (.cells (natC B) 24)).alloc (.cells (natC M) 24)).alloc (.cells (natC 0) 24)) (w.heap.size + 1) (natC B) 24 := (by repeat (first | (refine Row.here ?_; first | (with_reducible rfl) | (simp; done)) | refine Row.alloc ?_ _))
  have r5 : Row ((((w.alloc (.cells (natC A) 24)).alloc (.cells (natC B) 24)).alloc (.cells (natC M) 24)).alloc (.cells (natC 0) 24)) (w.heap.size + 1 + 1) (natC M) 24 := (by repeat (first | (refine Row.here ?_; first | (with_reducible rfl) | (simp; done)) | refine Row.alloc ?_ _))
  have r6 : Row ((((w.alloc (.cells (natC A) 24)).alloc (.cells (natC B) 24)).alloc (.cells (natC M) 24)).alloc (.cells (natC 0) 24)) (w.heap.size + 1 + 1 + 1) (natC 0) 24 := (by repeat (first | (refine Row.here ?_; first | (with_reducible rfl) | (simp; done)) | refine Row.alloc ?_ _))
  have bW : Below w.heap.size w ((((w.alloc (.cells (natC A) 24)).alloc (.cells (natC B) 24)).alloc (.cells (natC M) 24)).alloc (.cells (natC 0) 24)) := (by repeat (first | exact Below.refl _ _ | refine Below.alloc ?_ (by simp <;> omega) _))
  by_cases h0 : M = 0
  · have HZ : Hid (subZ A B M = 0 ∧ errI M = 1) := ⟨if_pos h0, if_pos h0⟩
    have HV : Hid (decide (M % 2 ^ 256 = 0 % 2 ^ 256) = true) := by show _ = _; rw [h0]; rfl
    clear h0 hA hB hM
    go_enter Try.func20, Try.ntmps20
    go_wp2_with (first
      | refine wpList_box_row rfl 24 _ rfl _ rfl ?_
      | refine wpList_alloc_row rfl 24 rfl _ zero_nat ?_
      | refine wpList_build_zero rfl 24 rfl _ built_nat ?_
      | refine wpList_loadR rfl 24 _ rfl (w.heap.size + 1 + 1) (by first | rfl | (unfold Act.eval Act.put; simp; done) | (unfold Act.eval; simp; done)) r5 4 _ Try.underlying24 (by exact size_nat) ?_
      | refine wpList_value rfl (.bool true) ((exec_eql_nat _ _ _ rfl M 0 rfl rfl _).trans (by rw [HV.out])) ?_
      | refine wpList_storeR rfl 24 _ _ rfl (w.heap.size + 1 + 1 + 1) _ (by first | rfl | (unfold Act.eval Act.put; simp; done) | (unfold Act.eval; simp; done)) rfl r6 (by exact size_nat) (by simp only [natC_size]) (natC_one _) ?_)
    exact ret_row2 rfl _ rfl (r6.setRow (natC 0)) 4 _ Try.underlying24 (by exact size_nat) rfl _ rfl ⟨by rw [HZ.out.1, HZ.out.2]; rfl, below_setRow bW (by omega) _⟩
  · have HZ : Hid (subZ A B M = (A % M + (M - B % M)) % M ∧ errI M = 0) := ⟨if_neg h0, if_neg h0⟩
    have HV : Hid (decide (M % 2 ^ 256 = 0 % 2 ^ 256) = false) := by
      show _ = _
      rw [Nat.mod_eq_of_lt hM]
      exact decide_eq_false h0
    have hra := fun w' => remains_any A M w' hA (by omega) hM
    have hrb := fun w' => remains_any B M w' hB (by omega) hM
    have hxa := Nat.mod_lt A (show 0 < M by omega)
    have hxb := Nat.mod_lt B (show 0 < M by omega)
    rw [HZ.out.1, HZ.out.2]
    clear h0 hA hB HZ
    generalize A % M = x at *
    generalize B % M = y at *
    have hsu := fun w' => nsub_any x y w' (by omega)
    have had := fun w' => nadd_any (less x y) M w'
    have hbo : bN x y 256 = if x < y then 1 else 0 := by unfold bN; rw [Nat.mod_eq_of_lt (by omega), Nat.mod_eq_of_lt (by omega)]
    rw [hbo] at hsu
    clear hbo
    by_cases hlt : x < y
    · rw [if_pos hlt] at hsu
      rw [sub_gt x y M hlt hxb hM] at had
      clear hlt hxa hxb hM
      generalize less x y = d at *
      generalize (x + (M - y)) % M = v at *
      go_enter Try.func20, Try.ntmps20
      go_wp2_with (first
        | refine wpList_box_row rfl 24 _ rfl _ rfl ?_
        | refine wpList_alloc_row rfl 24 rfl _ zero_nat ?_
        | refine wpList_build_zero rfl 24 rfl _ built_nat ?_
        | refine wpList_loadR rfl 24 _ rfl (w.heap.size + 1 + 1) (by first | rfl | (unfold Act.eval Act.put; simp; done) | (unfold Act.eval; simp; done)) r5 4 _ Try.underlying24 (by exact size_nat) ?_
        | refine wpList_value rfl (.bool false) ((exec_eql_nat _ _ _ rfl M 0 rfl rfl _).trans (by rw [HV.out])) ?_)
      generalize (((w.alloc (.cells (natC A) 24)).alloc (.cells (natC B) 24)).alloc (.cells (natC M) 24)).alloc (.cells (natC 0) 24) = w1 at *
      apply wp_region_mix (by kernel_rfl) [] [_, _, _, _, _, _, _, _, _, _, _, _, _] trivial List.nodup_nil
      · intro p
        refine mx_load 24 _ rfl _ rfl r3 (by simp <;> omega) 4 _ Try.underlying24 size_nat ?_
        simp only [Act.put, List.setIfInBounds_toArray, List.set_cons_zero, List.set_cons_succ]
        refine mx_load 24 _ rfl _ rfl r5 (by simp <;> omega) 4 _ Try.underlying24 size_nat ?_
        simp only [Act.put, List.setIfInBounds_toArray, List.set_cons_zero, List.set_cons_succ]
        refine mx_call 42 _ _ rfl Try.func42 (by kernel_rfl) #[.agg (natC A), .agg (natC M)] rfl _ hra ?_
        simp only [Act.put, List.setIfInBounds_toArray, List.set_cons_zero, List.set_cons_succ]
        refine mx_load 24 _ rfl _ rfl r4 (by simp <;> omega) 4 _ Try.underlying24 size_nat ?_
        simp only [Act.put, List.setIfInBounds_toArray, List.set_cons_zero, List.set_cons_succ]
        refine mx_load 24 _ rfl _ rfl r5 (by simp <;> omega) 4 _ Try.underlying24 size_nat ?_
        simp only [Act.put, List.setIfInBounds_toArray, List.set_cons_zero, List.set_cons_succ]
        refine mx_call 42 _ _ rfl Try.func42 (by kernel_rfl) #[.agg (natC B), .agg (natC M)] rfl _ hrb ?_
        simp only [Act.put, List.setIfInBounds_toArray, List.set_cons_zero, List.set_cons_succ]
        refine mx_call 49 _ _ rfl Try.func49 (by kernel_rfl) #[.agg (natC x), .agg (natC y)] rfl _ hsu ?_
        simp only [Act.put, List.setIfInBounds_toArray, List.set_cons_zero, List.set_cons_succ]
        refine mx_move rfl rfl ?_
        simp only [Act.put, List.setIfInBounds_toArray, List.set_cons_zero, List.set_cons_succ]
        refine mx_ext rfl rfl rfl ?_
        simp only [Act.put, List.setIfInBounds_toArray, List.set_cons_zero, List.set_cons_succ]
        refine mx_ext rfl rfl rfl ?_
        simp only [Act.put, List.setIfInBounds_toArray, List.set_cons_zero, List.set_cons_succ]
        refine mx_new 24 rfl _ zero_nat ?_
        simp only [Act.put, List.setIfInBounds_toArray, List.set_cons_zero, List.set_cons_succ]
        refine mx_put 21 24 _ _ rfl rfl rfl (natC d) rfl (by exact size_nat) (by simp only [natC_size]) (natC_one _) ?_
        simp only [Act.put]
        refine mx_asg rfl rfl ?_
        simp only [Act.put, List.setIfInBounds_toArray, List.set_cons_zero, List.set_cons_succ]
        refine mx_end ?_
        intro w2 hkw hrw hnew _
        have r8 : Row w2 (p 10) (natC d) 24 := hrw 21 _ rfl
        have hp : w1.heap.size ≤ p 10 := hnew 10 rfl
        have hl := r6.lt
        have q5 := hkw.row r5 (by simp)
        have q6 := hkw.row r6 (by simp)
        have b2 := bW.trans (hkw.below w.heap.size bW.size (by simp))
        clear hrw hnew r3 r4 r5 r6 bW hra hrb hsu
        generalize p 10 = q at *
        go_wp2_with (first
          | refine wpList_loadR rfl 24 _ rfl _ rfl r8 4 _ Try.underlying24 (by exact size_nat) ?_
          | refine wpList_loadR rfl 24 _ rfl _ rfl q5 4 _ Try.underlying24 (by exact size_nat) ?_)
        refine (had _).mono ?_
        rintro e w3 ⟨rfl, hb3⟩
        have s8 := r8.belowAll hb3
        have s6 := (q6.belowAll hb3).setRow_far q (natC v) (by omega)
        have s8' := s8.setRow (natC v)
        have b3 := below_setRow (below_on b2 (Nat.le_refl _) hb3) (g := q) (by omega) (natC v)
        clear r8 q5 q6 b2 hb3 had
        go_wp2_with (first
          | refine wpList_storeR rfl 24 _ _ rfl _ _ rfl rfl s8 (by exact size_nat) (by simp only [natC_size]) (natC_one _) ?_
          | refine wpList_loadR rfl 24 _ rfl _ rfl s8' 4 _ Try.underlying24 (by exact size_nat) ?_
          | refine wpList_storeR rfl 24 _ _ rfl _ _ rfl rfl s6 (by exact size_nat) (by simp only [natC_size]) (natC_one _) ?_)
        exact ret_row2 rfl _ rfl (s6.setRow (natC v)) 4 _ Try.underlying24 (by exact size_nat) rfl _ rfl ⟨rfl, below_setRow b3 (by omega) _⟩
      · kernel_rfl
    · rw [if_neg hlt] at hsu
      rw [sub_le x y M (by omega) hxa hM] at hsu
      clear hlt hxa hxb hM had
      generalize (x + (M - y)) % M = v at *
      go_enter Try.func20, Try.ntmps20
      go_wp2_with (first
        | refine wpList_box_row rfl 24 _ rfl _ rfl ?_
        | refine wpList_alloc_row rfl 24 rfl _ zero_nat ?_
        | refine wpList_build_zero rfl 24 rfl _ built_nat ?_
        | refine wpList_loadR rfl 24 _ rfl (w.heap.size + 1 + 1) (by first | rfl | (unfold Act.eval Act.put; simp; done) | (unfold Act.eval; simp; done)) r5 4 _ Try.underlying24 (by exact size_nat) ?_
        | refine wpList_value rfl (.bool false) ((exec_eql_nat _ _ _ rfl M 0 rfl rfl _).trans (by rw [HV.out])) ?_)
      generalize (((w.alloc (.cells (natC A) 24)).alloc (.cells (natC B) 24)).alloc (.cells (natC M) 24)).alloc (.cells (natC 0) 24) = w1 at *
      apply wp_region_mix (by kernel_rfl) [] [_, _, _, _, _, _, _, _, _, _, _, _, _] trivial List.nodup_nil
      · intro p
        refine mx_load 24 _ rfl _ rfl r3 (by simp <;> omega) 4 _ Try.underlying24 size_nat ?_
        simp only [Act.put, List.setIfInBounds_toArray, List.set_cons_zero, List.set_cons_succ]
        refine mx_load 24 _ rfl _ rfl r5 (by simp <;> omega) 4 _ Try.underlying24 size_nat ?_
        simp only [Act.put, List.setIfInBounds_toArray, List.set_cons_zero, List.set_cons_succ]
        refine mx_call 42 _ _ rfl Try.func42 (by kernel_rfl) #[.agg (natC A), .agg (natC M)] rfl _ hra ?_
        simp only [Act.put, List.setIfInBounds_toArray, List.set_cons_zero, List.set_cons_succ]
        refine mx_load 24 _ rfl _ rfl r4 (by simp <;> omega) 4 _ Try.underlying24 size_nat ?_
        simp only [Act.put, List.setIfInBounds_toArray, List.set_cons_zero, List.set_cons_succ]
        refine mx_load 24 _ rfl _ rfl r5 (by simp <;> omega) 4 _ Try.underlying24 size_nat ?_
        simp only [Act.put, List.setIfInBounds_toArray, List.set_cons_zero, List.set_cons_succ]
        refine mx_call 42 _ _ rfl Try.func42 (by kernel_rfl) #[.agg (natC B), .agg (natC M)] rfl _ hrb ?_
        simp only [Act.put, List.setIfInBounds_toArray, List.set_cons_zero, List.set_cons_succ]
        refine mx_call 49 _ _ rfl Try.func49 (by kernel_rfl) #[.agg (natC x), .agg (natC y)] rfl _ hsu ?_
        simp only [Act.put, List.setIfInBounds_toArray, List.set_cons_zero, List.set_cons_succ]
        refine mx_move rfl rfl ?_
        simp only [Act.put, List.setIfInBounds_toArray, List.set_cons_zero, List.set_cons_succ]
        refine mx_ext rfl rfl rfl ?_
        simp only [Act.put, List.setIfInBounds_toArray, List.set_cons_zero, List.set_cons_succ]
        refine mx_ext rfl rfl rfl ?_
        simp only [Act.put, List.setIfInBounds_toArray, List.set_cons_zero, List.set_cons_succ]
        refine mx_new 24 rfl _ zero_nat ?_
        simp only [Act.put, List.setIfInBounds_toArray, List.set_cons_zero, List.set_cons_succ]
        refine mx_put 21 24 _ _ rfl rfl rfl (natC v) rfl (by exact size_nat) (by simp only [natC_size]) (natC_one _) ?_
        simp only [Act.put]
        refine mx_asg rfl rfl ?_
        simp only [Act.put, List.setIfInBounds_toArray, List.set_cons_zero, List.set_cons_succ]
        refine mx_end ?_
        intro w2 hkw hrw hnew _
        have r8 : Row w2 (p 10) (natC v) 24 := hrw 21 _ rfl
        have hp : w1.heap.size ≤ p 10 := hnew 10 rfl
        have hl := r6.lt
        have q6 := hkw.row r6 (by simp)
        have b2 := bW.trans (hkw.below w.heap.size bW.size (by simp))
        clear hrw hnew r3 r4 r5 r6 bW hra hrb hsu
        generalize p 10 = q at *
        go_wp2_with (first
          | refine wpList_loadR rfl 24 _ rfl _ rfl r8 4 _ Try.underlying24 (by exact size_nat) ?_
          | refine wpList_storeR rfl 24 _ _ rfl _ _ rfl rfl q6 (by exact size_nat) (by simp only [natC_size]) (natC_one _) ?_)
        exact ret_row2 rfl _ rfl (q6.setRow (natC v)) 4 _ Try.underlying24 (by exact size_nat) rfl _ rfl ⟨rfl, below_setRow b2 (by omega) _⟩
      · kernel_rfl
end Go.Proofs.Ytmmjjohnejimdaa
