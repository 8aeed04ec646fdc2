/- wide.Div, AddMod, SubMod, MulMod. -/
import Derived.Test.YtmmjjohnejimdaaWRem
namespace Go.Proofs.Ytmmjjohnejimdaa
open Go.RowKit

theorem modZ_full (N M : Nat) (h : M ≠ 0) : modZ N M = N % M := if_neg h
set_option maxRecDepth 100000 in
set_option maxHeartbeats 1000000 in
theorem wadd_any (A B M : Nat) (w : World) (hA : A < 2 ^ 256) (hB : B < 2 ^ 256) (hM : M < 2 ^ 256) :
    Calls Try.prog 18 #[.agg (natC A), .agg (natC B), .agg (natC M)] w fun e w' => e = .returned (.tuple #[.agg (natC (modZ (A + B) M)), .int .i64 (errI M)]) ∧ Below w.heap.size w w' := by
  have r3 : Row ((((w.alloc (.cells (natC A) 24)).alloc (.cells (natC B) 24)).alloc (.cells (natC M) 24)).alloc (.cells (natC 0) 24)) w.heap.size (natC A) 24 := (by repeat (first | (refine Row.here ?_; first | (with_reducible rfl) | (simp; done)) | refine Row.alloc ?_ _))
  have r4 : Row ((((w.alloc (.cells (natC A) 24)).alloc (.cells (natC B) 24)).alloc (.cells (natC M) 24)).alloc (.cells (natC 0) 24)) (w.heap.size + 1) (natC B) 24 := (by repeat (first | (refine Row.here ?_; first | (with_reducible rfl) | (simp; done)) | refine Row.alloc ?_ _))
  have r5 : Row ((((w.alloc (.cells (natC A) 24)).alloc (.cells (natC B) 24)).alloc (.cells (natC M) 24)).alloc (.cells (natC 0) 24)) (w.heap.size + 1 + 1) (natC M) 24 := (by repeat (first | (refine Row.here ?_; first | (with_reducible rfl) | (simp; done)) | refine Row.alloc ?_ _))
  have r6 : Row ((((w.alloc (.cells (natC A) 24)).alloc (.cells (natC B) 24)).alloc (.cells (natC M) 24)).alloc (.cells (natC 0) 24)) (w.heap.size + 1 + 1 + 1) (natC 0) 24 := (by repeat (first | (refine Row.here ?_; first | (with_reducible rfl) | (simp; done)) | refine Row.alloc ?_ _))
  have bW : Below w.heap.size w ((((w.alloc (.cells (natC A) 24)).alloc (.cells (natC B) 24)).alloc (.cells (natC M) 24)).alloc (.cells (natC 0) 24)) := (by repeat (first | exact Below.refl _ _ | refine Below.alloc ?_ (by simp <;> omega) _))
  have hc : cN A B 256 ≤ 1 := cN_le _ _ _
  have hof := fun w' => nof_any (cN A B 256 : Nat) w' (by omega)
  rw [Int.toNat_natCast] at hof
  have hre := fun w' => wrem_any ((A + B) % 2 ^ 256) (cN A B 256) M w' (Nat.mod_lt _ (by decide)) (by omega) hM
  have hsum : cN A B 256 * 2 ^ 256 + (A + B) % 2 ^ 256 = A + B := by
    rw [cN_eq, Nat.mod_eq_of_lt hA, Nat.mod_eq_of_lt hB]
    split <;> omega
  rw [hsum, natC_full] at hre
  have had := fun w' => nadd_any A B w'
  clear hA hB hM hsum
  generalize cN A B 256 = c at *
  generalize modZ (A + B) M = v at *
  generalize A + B = sm at *
  go_enter Try.func18, Try.ntmps18
  go_wp2_with (first
    | refine wpList_box_row rfl 24 _ rfl _ rfl ?_
    | refine wpList_alloc_row rfl 24 rfl _ zero_nat ?_
    | refine wpList_loadR rfl 24 _ rfl _ rfl r3 4 _ Try.underlying24 (by exact size_nat) ?_
    | refine wpList_loadR rfl 24 _ rfl (w.heap.size + 1) (by first | rfl | (unfold Act.eval Act.put; simp; done) | (unfold Act.eval; simp; done)) r4 4 _ Try.underlying24 (by exact size_nat) ?_)
  generalize (((w.alloc (.cells (natC A) 24)).alloc (.cells (natC B) 24)).alloc (.cells (natC M) 24)).alloc (.cells (natC 0) 24) = w1 at *
  refine (had _).mono ?_
  rintro e w2 ⟨rfl, hb2⟩
  have h6 := (r6.belowAll hb2).lt
  have q5 := (r5.belowAll hb2).alloc (.cells (natC sm) 24)
  have q6 := (r6.belowAll hb2).alloc (.cells (natC sm) 24)
  have q8 := Row.new w2 (natC sm) 24
  have b2 := below_on bW (Nat.le_refl _) hb2
  have b3 := b2.alloc b2.size (.cells (natC sm) 24)
  clear r3 r4 r5 r6 bW hb2 b2 had
  go_wp2_with (first
    | refine wpList_alloc_row rfl 24 rfl _ zero_nat ?_
    | refine wpList_store_new rfl 24 _ _ rfl _ rfl rfl _ _ (by exact size_nat) (by simp only [natC_size]) (natC_one _) ?_)
  generalize w2.alloc (.cells (natC sm) 24) = w3 at *
  generalize w2.heap.size = g8 at *
  apply wp_region_mix (by kernel_rfl) [(w.heap.size + 1 + 1 + 1, 24, natC 0)] [_, _, _, _, _, _, _, _, _] ⟨q6, trivial⟩ (by simp <;> omega)
  · intro p
    refine mx_load 24 _ rfl _ rfl q8 (by simp <;> omega) 4 _ Try.underlying24 size_nat ?_
    simp only [Act.put, List.setIfInBounds_toArray, List.set_cons_zero, List.set_cons_succ]
    refine mx_move rfl rfl ?_
    simp only [Act.put, List.setIfInBounds_toArray, List.set_cons_zero, List.set_cons_succ]
    refine mx_call 47 _ _ rfl Try.func47 (by kernel_rfl) #[.int .i64 (c : Nat)] rfl _ hof ?_
    simp only [Act.put, List.setIfInBounds_toArray, List.set_cons_zero, List.set_cons_succ]
    refine mx_load 24 _ rfl _ rfl q5 (by simp <;> omega) 4 _ Try.underlying24 size_nat ?_
    simp only [Act.put, List.setIfInBounds_toArray, List.set_cons_zero, List.set_cons_succ]
    refine mx_call 11 _ _ rfl Try.func11 (by kernel_rfl) #[.agg (natC sm), .agg (natC c), .agg (natC M)] rfl _ hre ?_
    simp only [Act.put, List.setIfInBounds_toArray, List.set_cons_zero, List.set_cons_succ]
    refine mx_ext rfl rfl rfl ?_
    simp only [Act.put, List.setIfInBounds_toArray, List.set_cons_zero, List.set_cons_succ]
    refine mx_ext rfl rfl rfl ?_
    simp only [Act.put, List.setIfInBounds_toArray, List.set_cons_zero, List.set_cons_succ]
    refine mx_put 0 24 _ _ rfl rfl rfl (natC v) rfl (by exact size_nat) (by simp only [natC_size]) (natC_one _) ?_
    simp only [Act.put]
    refine mx_asg rfl rfl ?_
    simp only [Act.put, List.setIfInBounds_toArray, List.set_cons_zero, List.set_cons_succ]
    refine mx_end ?_
    intro w4 hkw hrw _ _
    have r6' : Row w4 (w.heap.size + 1 + 1 + 1) (natC v) 24 := hrw 0 _ rfl
    have hb1 := b3.trans (hkw.below w.heap.size b3.size (by simp <;> omega))
    go_wp2_with fail
    exact ret_row2 rfl _ rfl r6' 4 _ Try.underlying24 (by exact size_nat) rfl _ rfl ⟨rfl, hb1⟩
  · kernel_rfl

set_option maxRecDepth 100000 in
set_option maxHeartbeats 1000000 in
theorem wmulmod_any (A B M : Nat) (w : World) (hA : A < 2 ^ 256) (hB : B < 2 ^ 256) (hM : M < 2 ^ 256) :
    Calls Try.prog 22 #[.agg (natC A), .agg (natC B), .agg (natC M)] w fun e w' => e = .returned (.tuple #[.agg (natC (modZ (A * B) M)), .int .i64 (errI M)]) ∧ Below w.heap.size w w' := by
  have r3 : Row ((((w.alloc (.cells (natC A) 24)).alloc (.cells (natC B) 24)).alloc (.cells (natC M) 24)).alloc (.cells (natC 0) 24)) w.heap.size (natC A) 24 := (by repeat (first | (refine Row.here ?_; first | (with_reducible rfl) | (simp; done)) | refine Row.alloc ?_ _))
  have r4 : Row ((((w.alloc (.cells (natC A) 24)).alloc (.cells (natC B) 24)).alloc (.cells (natC M) 24)).alloc (.cells (natC 0) 24)) (w.heap.size + 1) (natC B) 24 := (by repeat (first | (refine Row.here ?_; first | (with_reducible rfl) | (simp; done)) | refine Row.alloc ?_ _))
  have r5 : Row ((((w.alloc (.cells (natC A) 24)).alloc (.cells (natC B) 24)).alloc (.cells (natC M) 24)).alloc (.cells (natC 0) 24)) (w.heap.size + 1 + 1) (natC M) 24 := (by repeat (first | (refine Row.here ?_; first | (with_reducible rfl) | (simp; done)) | refine Row.alloc ?_ _))
  have r6 : Row ((((w.alloc (.cells (natC A) 24)).alloc (.cells (natC B) 24)).alloc (.cells (natC M) 24)).alloc (.cells (natC 0) 24)) (w.heap.size + 1 + 1 + 1) (natC 0) 24 := (by repeat (first | (refine Row.here ?_; first | (with_reducible rfl) | (simp; done)) | refine Row.alloc ?_ _))
  have bW : Below w.heap.size w ((((w.alloc (.cells (natC A) 24)).alloc (.cells (natC B) 24)).alloc (.cells (natC M) 24)).alloc (.cells (natC 0) 24)) := (by repeat (first | exact Below.refl _ _ | refine Below.alloc ?_ (by simp <;> omega) _))
  have hAB : A * B < 2 ^ 256 * 2 ^ 256 := Nat.mul_lt_mul'' hA hB
  have hre := fun w' => wrem_any ((A * B) % 2 ^ 256) (A * B / 2 ^ 256) M w' (Nat.mod_lt _ (by decide)) (Nat.div_lt_of_lt_mul hAB) hM
  rw [natC_full, Nat.mul_comm (A * B / 2 ^ 256), Nat.div_add_mod] at hre
  have hmu := fun w' => wmul_any A B w' hA hB
  clear hA hB hM hAB
  generalize modZ (A * B) M = v at *
  generalize A * B / 2 ^ 256 = hi at *
  generalize A * B = lo at *
  go_enter Try.func22, Try.ntmps22
  go_wp2_with (first
    | refine wpList_box_row rfl 24 _ rfl _ rfl ?_
    | refine wpList_alloc_row rfl 24 rfl _ zero_nat ?_
    | refine wpList_loadR rfl 24 _ rfl _ rfl r3 4 _ Try.underlying24 (by exact size_nat) ?_
    | refine wpList_loadR rfl 24 _ rfl (w.heap.size + 1) (by first | rfl | (unfold Act.eval Act.put; simp; done) | (unfold Act.eval; simp; done)) r4 4 _ Try.underlying24 (by exact size_nat) ?_)
  generalize (((w.alloc (.cells (natC A) 24)).alloc (.cells (natC B) 24)).alloc (.cells (natC M) 24)).alloc (.cells (natC 0) 24) = w1 at *
  refine (hmu _).mono ?_
  rintro e w3 ⟨rfl, hb2⟩
  have hz := (r6.belowAll hb2).lt
  have a5 : Row ((w3.alloc (.cells (natC 0) 24)).alloc (.cells (natC 0) 24)) w3.heap.size (natC 0) 24 := (by repeat (first | (refine Row.here ?_; first | (with_reducible rfl) | (simp; done)) | refine Row.alloc ?_ _))
  have a6' : Row ((w3.alloc (.cells (natC 0) 24)).alloc (.cells (natC 0) 24)) (w3.heap.size + 1) (natC 0) 24 := (by repeat (first | (refine Row.here ?_; first | (with_reducible rfl) | (simp; done)) | refine Row.alloc ?_ _))
  have a6 := a6'.setRow_far w3.heap.size (natC lo) (by omega)
  have a9 := a6.setRow (natC hi)
  have a8 := (a5.setRow (natC lo)).setRow_far (w3.heap.size + 1) (natC hi) (by omega)
  have aM := ((((r5.belowAll hb2).alloc (.cells (natC 0) 24)).alloc (.cells (natC 0) 24)).setRow_far w3.heap.size (natC lo) (by omega)).setRow_far (w3.heap.size + 1) (natC hi) (by omega)
  have aZ := ((((r6.belowAll hb2).alloc (.cells (natC 0) 24)).alloc (.cells (natC 0) 24)).setRow_far w3.heap.size (natC lo) (by omega)).setRow_far (w3.heap.size + 1) (natC hi) (by omega)
  have b3 := below_on bW (Nat.le_refl _) hb2
  have b5 := below_setRow (below_setRow ((b3.alloc b3.size (.cells (natC 0) 24)).alloc (by have := b3.size; simp; omega) (.cells (natC 0) 24)) (g := w3.heap.size) (by omega) (natC lo)) (g := w3.heap.size + 1) (by omega) (natC hi)
  clear r3 r4 r5 r6 bW hb2 a6' b3 hmu
  go_wp2_with (first
    | refine wpList_alloc_row rfl 24 rfl _ zero_nat ?_
    | refine wpList_storeR rfl 24 _ _ rfl _ _ rfl rfl a5 (by exact size_nat) (by simp only [natC_size]) (natC_one _) ?_
    | refine wpList_storeR rfl 24 _ _ rfl (w3.heap.size + 1) _ (by first | rfl | (unfold Act.eval Act.put; simp; done) | (unfold Act.eval; simp; done)) rfl a6 (by exact size_nat) (by simp only [natC_size]) (natC_one _) ?_
    | refine wpList_loadR rfl 24 _ rfl _ rfl a8 4 _ Try.underlying24 (by exact size_nat) ?_
    | refine wpList_loadR rfl 24 _ rfl _ rfl aM 4 _ Try.underlying24 (by exact size_nat) ?_
    | refine wpList_loadR rfl 24 _ rfl (w3.heap.size + 1) (by first | rfl | (unfold Act.eval Act.put; simp; done) | (unfold Act.eval; simp; done)) a9 4 _ Try.underlying24 (by exact size_nat) ?_)
  refine (hre _).mono ?_
  rintro e w4 ⟨rfl, hb4⟩
  have qZ := aZ.belowAll hb4
  have b6 := below_on b5 (Nat.le_refl _) hb4
  clear a5 a6 a9 a8 aM aZ b5 hb4 hre
  go_wp2_with (first
    | refine wpList_storeR rfl 24 _ _ rfl _ _ rfl rfl qZ (by exact size_nat) (by simp only [natC_size]) (natC_one _) ?_)
  exact ret_row2 rfl _ rfl (qZ.setRow (natC v)) 4 _ Try.underlying24 (by exact size_nat) rfl _ rfl ⟨rfl, below_setRow b6 (by omega) _⟩
end Go.Proofs.Ytmmjjohnejimdaa
