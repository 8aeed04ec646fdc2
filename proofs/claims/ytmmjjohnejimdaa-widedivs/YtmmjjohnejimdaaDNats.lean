/- The document's Nats: the lower, and the higher 256 bits of digits. -/
import Derived.Test.YtmmjjohnejimdaaDTypes
import Derived.Test.YtmmjjohnejimdaaMixLaws
import Derived.Test.YtmmjjohnejimdaaNSmall
namespace Go.Proofs.Ytmmjjohnejimdaa
open Go.RowKit

set_option maxRecDepth 100000 in
set_option maxHeartbeats 1000000 in
theorem nats_any (N : Nat) (w : World) :
    Calls Try.prog 40 #[.agg (digC N)] w fun e w' => e = .returned (.tuple #[.agg (natC N), .agg (natC (N / 2 ^ 256))]) ∧ Below w.heap.size w w' := by
  have H : Hid (∀ k, dg N (16 + k) = dg (N / 2 ^ 256) k) := high_mod N
  generalize N / 2 ^ 256 = T at *
  have s0 : Row (((((w.alloc (.cells (digC N) 50)).alloc (.cells (natC 0) 24)).alloc (.cells (natC 0) 24)).alloc (.cells (natC 0) 24)).alloc (.cells (natC 0) 24)) w.heap.size (digC N) 50 := (((((Row.here (by first | rfl | simp only [alloc_size])).alloc _).alloc _).alloc _).alloc _)
  have s1 : Row (((((w.alloc (.cells (digC N) 50)).alloc (.cells (natC 0) 24)).alloc (.cells (natC 0) 24)).alloc (.cells (natC 0) 24)).alloc (.cells (natC 0) 24)) (w.heap.size + 1) (natC 0) 24 := ((((Row.here (by first | rfl | simp only [alloc_size])).alloc _).alloc _).alloc _)
  have s2 : Row (((((w.alloc (.cells (digC N) 50)).alloc (.cells (natC 0) 24)).alloc (.cells (natC 0) 24)).alloc (.cells (natC 0) 24)).alloc (.cells (natC 0) 24)) (w.heap.size + 1 + 1) (natC 0) 24 := (((Row.here (by first | rfl | simp only [alloc_size])).alloc _).alloc _)
  have s3 : Row (((((w.alloc (.cells (digC N) 50)).alloc (.cells (natC 0) 24)).alloc (.cells (natC 0) 24)).alloc (.cells (natC 0) 24)).alloc (.cells (natC 0) 24)) (w.heap.size + 1 + 1 + 1) (natC 0) 24 := ((Row.here (by first | rfl | simp only [alloc_size])).alloc _)
  have s4 : Row (((((w.alloc (.cells (digC N) 50)).alloc (.cells (natC 0) 24)).alloc (.cells (natC 0) 24)).alloc (.cells (natC 0) 24)).alloc (.cells (natC 0) 24)) (w.heap.size + 1 + 1 + 1 + 1) (natC 0) 24 := (Row.here (by first | rfl | simp only [alloc_size]))
  have s4' := s4.setRow_far (w.heap.size + 1 + 1 + 1) (natC 0) (by omega)
  have sb : Below w.heap.size w (((((w.alloc (.cells (digC N) 50)).alloc (.cells (natC 0) 24)).alloc (.cells (natC 0) 24)).alloc (.cells (natC 0) 24)).alloc (.cells (natC 0) 24)) := (by repeat (first | exact Below.refl _ _ | refine Below.alloc ?_ (by simp <;> omega) _))
  go_enter Try.func40, Try.ntmps40
  go_wp2_with (first
    | refine wpList_box_row rfl 50 _ rfl _ rfl ?_
    | refine wpList_alloc_row rfl 24 rfl _ zero_nat ?_
    | refine wpList_build_zero rfl 24 rfl _ built_nat ?_
    | refine wpList_storeR rfl 24 _ _ rfl (w.heap.size + 1 + 1 + 1) _ (by first | rfl | (unfold Act.eval Act.put; simp; done) | (unfold Act.eval; simp; done)) rfl s3 (by exact size_nat) (by simp only [natC_size]) (natC_one _) ?_
    | refine wpList_storeR rfl 24 _ _ rfl (w.heap.size + 1 + 1 + 1 + 1) _ (by first | rfl | (unfold Act.eval Act.put; simp; done) | (unfold Act.eval; simp; done)) rfl s4' (by exact size_nat) (by simp only [natC_size]) (natC_one _) ?_)
  have t0 := (s0.setRow_far (w.heap.size + 1 + 1 + 1) (natC 0) (by omega)).setRow_far (w.heap.size + 1 + 1 + 1 + 1) (natC 0) (by omega)
  have t1 := (s1.setRow_far (w.heap.size + 1 + 1 + 1) (natC 0) (by omega)).setRow_far (w.heap.size + 1 + 1 + 1 + 1) (natC 0) (by omega)
  have t2 := (s2.setRow_far (w.heap.size + 1 + 1 + 1) (natC 0) (by omega)).setRow_far (w.heap.size + 1 + 1 + 1 + 1) (natC 0) (by omega)
  have t3 := (s3.setRow (natC 0)).setRow_far (w.heap.size + 1 + 1 + 1 + 1) (natC 0) (by omega)
  have t4 := s4'.setRow (natC 0)
  have tb := below_setRow (below_setRow sb (g := w.heap.size + 1 + 1 + 1) (by omega) (natC 0)) (g := w.heap.size + 1 + 1 + 1 + 1) (by omega) (natC 0)
  clear s0 s1 s2 s3 s4 s4' sb
  generalize (World.setRow (World.setRow (((((w.alloc (.cells (digC N) 50)).alloc (.cells (natC 0) 24)).alloc (.cells (natC 0) 24)).alloc (.cells (natC 0) 24)).alloc (.cells (natC 0) 24)) (w.heap.size + 1 + 1 + 1) (natC 0)) (w.heap.size + 1 + 1 + 1 + 1) (natC 0)) = W at *
  go_loopg [6] 16 (fun g s6 wr => ∃ k : Nat, k + g = 16 ∧ s6 = .int .i64 k ∧ Row wr w.heap.size (digC N) 50 ∧ Row wr (w.heap.size + 1) (natC 0) 24 ∧ Row wr (w.heap.size + 1 + 1) (natC 0) 24 ∧ Row wr (w.heap.size + 1 + 1 + 1) (natC (N % 2 ^ (16 * k))) 24 ∧ Row wr (w.heap.size + 1 + 1 + 1 + 1) (natC (T % 2 ^ (16 * k))) 24 ∧ Below w.heap.size w wr)
  case atStart => exact ⟨0, by omega, rfl, t0, t1, t2, by rw [Nat.mul_zero, Nat.pow_zero, Nat.mod_one]; exact t3, by rw [Nat.mul_zero, Nat.pow_zero, Nat.mod_one]; exact t4, tb⟩
  case round =>
    obtain ⟨k, hk, rfl, r0, r1, r2, r3, r4, hb⟩ := hrel
    clear t0 t1 t2 t3 t4 tb
    cases gk with
    | zero =>
      obtain rfl : k = 16 := by omega
      rw [show 16 * 16 = 256 from rfl, natC_full] at r3 r4
      clear hk H
      have hx : ¬ ((16 : Int) < 16) := by omega
      go_wp2
      apply wp_region_mix (by kernel_rfl) [(w.heap.size + 1, 24, natC 0), (w.heap.size + 1 + 1, 24, natC 0)] [_, _, _, _] ⟨r1, r2, trivial⟩ (by simp <;> omega)
      · intro p
        refine mx_load 24 _ rfl _ rfl r3 (by simp <;> omega) 4 _ Try.underlying24 size_nat ?_
        simp only [Act.put, List.setIfInBounds_toArray, List.set_cons_zero, List.set_cons_succ]
        refine mx_load 24 _ rfl _ rfl r4 (by simp <;> omega) 4 _ Try.underlying24 size_nat ?_
        simp only [Act.put, List.setIfInBounds_toArray, List.set_cons_zero, List.set_cons_succ]
        refine mx_put 0 24 _ _ rfl rfl rfl (natC N) rfl (by exact size_nat) (by simp only [natC_size]) (natC_one _) ?_
        simp only [Act.put]
        refine mx_put 2 24 _ _ rfl rfl rfl (natC T) rfl (by exact size_nat) (by simp only [natC_size]) (natC_one _) ?_
        simp only [Act.put]
        refine mx_end ?_
        intro w7 hkw hrw _ _
        have e1 : Row w7 (w.heap.size + 1) (natC N) 24 := hrw 0 _ rfl
        have e2 : Row w7 (w.heap.size + 1 + 1) (natC T) 24 := hrw 2 _ rfl
        have b7 := hb.trans (hkw.below w.heap.size hb.size (by simp <;> omega))
        go_wp2
        exact ret_rows2 rfl _ rfl e1 _ rfl e2 4 _ Try.underlying24 (by exact size_nat) (by exact size_nat) rfl ⟨rfl, b7⟩
      · kernel_rfl
    | succ g =>
      have hlt : (k : Int) < 16 := by omega
      have hc0 := cell_dig r0 k (by omega)
      have hc0' := cell_dig r0 (16 + k) (by omega)
      rw [H.out] at hc0'
      have hc3 := cell_nat r3 (k / 4) (by omega)
      have hf3 := r3.frozen (k / 4)
      have hc4 := cell_nat r4 (k / 4) (by omega)
      have hf4 := r4.frozen (k / 4)
      have h3 := lm_lt (N % 2 ^ (16 * k)) (k / 4)
      have h4 := lm_lt (T % 2 ^ (16 * k)) (k / 4)
      have d1 := dg_lt N k
      have d2 := dg_lt T k
      have R : Aside (Row wr w.heap.size (digC N) 50 ∧ Row wr (w.heap.size + 1) (natC 0) 24 ∧ Row wr (w.heap.size + 1 + 1) (natC 0) 24 ∧ Row wr (w.heap.size + 1 + 1 + 1) (natC (N % 2 ^ (16 * k))) 24 ∧ Row wr (w.heap.size + 1 + 1 + 1 + 1) (natC (T % 2 ^ (16 * k))) 24 ∧ Below w.heap.size w wr) := ⟨r0, r1, r2, r3, r4, hb⟩
      clear r0 r1 r2 r3 r4 hb
      go_wp2
      go_region
      go_wp2
      go_region
      go_wp2
      obtain ⟨r0, r1, r2, r3, r4, hb⟩ := R.out
      go_roundg g
      case measure => omega
      case rel =>
        rw [or_digit _ _ _ h3 d1 (by omega), or_digit _ _ _ h4 d2 (by omega)]
        refine ⟨k + 1, by omega, by go_num, ((r0.setCell_far _ _ _ (by omega)).setCell_far _ _ _ (by omega)).drew.drew, ((r1.setCell_far _ _ _ (by omega)).setCell_far _ _ _ (by omega)).drew.drew, ((r2.setCell_far _ _ _ (by omega)).setCell_far _ _ _ (by omega)).drew.drew, ?_, ?_, (below_setCell (below_setCell hb (by omega) _ _) (by omega) _ _).drew.drew⟩
        · have := r3.setCell (k / 4) (.int .u64 ((lm (N % 2 ^ (16 * k)) (k / 4) ||| dg N k * 2 ^ (16 * (k % 4)) : Nat) : Int))
          rw [natC_digit N k (by omega)] at this
          exact (this.setCell_far _ _ _ (by omega)).drew.drew
        · have := (r4.setCell_far (w.heap.size + 1 + 1 + 1) (k / 4) (.int .u64 ((lm (N % 2 ^ (16 * k)) (k / 4) ||| dg N k * 2 ^ (16 * (k % 4)) : Nat) : Int)) (by omega)).setCell (k / 4) (.int .u64 ((lm (T % 2 ^ (16 * k)) (k / 4) ||| dg T k * 2 ^ (16 * (k % 4)) : Nat) : Int))
          rw [natC_digit T k (by omega)] at this
          exact this.drew.drew
end Go.Proofs.Ytmmjjohnejimdaa
