/- wide.guess and wide.divideLimb. -/
import Derived.Test.YtmmjjohnejimdaaWDiv64
import Derived.Test.YtmmjjohnejimdaaNSmall
namespace Go.Proofs.Ytmmjjohnejimdaa
open Go.RowKit

theorem lm_norm (M : Nat) (hM : M < 2 ^ 256) (hM2 : 2 ^ 255 ≤ M) : 9223372036854775808 ≤ lm M 3 := by
  rw [lm_topmost M hM, Nat.le_div_iff_mul_le (by decide)]
  exact hM2

set_option maxRecDepth 100000 in
set_option maxHeartbeats 400000 in
theorem guess_any (R M : Nat) (w : World) (hM : M < 2 ^ 256) (hM2 : 2 ^ 255 ≤ M) :
    Calls Try.prog 75 #[.agg (natC R), .agg (natC M)] w fun e w' => e = .returned (.int .u64 (gs R M : Nat)) ∧ Below w.heap.size w w' := by
  have rR : Row ((w.alloc (.cells (natC R) 24)).alloc (.cells (natC M) 24)) w.heap.size (natC R) 24 := (by repeat (first | (refine Row.here ?_; first | (with_reducible rfl) | (simp; done)) | refine Row.alloc ?_ _))
  have rM : Row ((w.alloc (.cells (natC R) 24)).alloc (.cells (natC M) 24)) (w.heap.size + 1) (natC M) 24 := (by repeat (first | (refine Row.here ?_; first | (with_reducible rfl) | (simp; done)) | refine Row.alloc ?_ _))
  have c3 := cell_nat rR 3 (by omega)
  have c2 := cell_nat rR 2 (by omega)
  have m3 := cell_nat rM 3 (by omega)
  have hn := lm_norm M hM hM2
  have h3 := lm_lt M 3
  have h2 := lm_lt R 2
  clear hM hM2 rR rM
  by_cases hc : lm M 3 ≤ lm R 3
  · have hg : Hid (gs R M = 18446744073709551615) := by show _ = _; unfold gs; rw [if_pos hc]
    have hz : (lm M 3 : Int) ≤ lm R 3 := by omega
    clear hc
    generalize lm M 3 = y at *
    generalize lm R 3 = h at *
    go_enter Try.func75, Try.ntmps75
    go_wp2_with (first
      | refine wpList_box_row rfl 24 _ rfl _ rfl ?_)
    go_ret
    exact ⟨by rw [hg.out]; rfl, below_alloc2 _ _⟩
  · have hg : Hid (gs R M = (lm R 3 * 18446744073709551616 + lm R 2) / lm M 3) := by show _ = _; unfold gs; rw [if_neg hc]
    have hz : ¬ (lm M 3 : Int) ≤ lm R 3 := by omega
    have hc : lm R 3 < lm M 3 := by omega
    generalize lm M 3 = y at *
    generalize lm R 3 = h at *
    generalize lm R 2 = l at *
    go_enter Try.func75, Try.ntmps75
    go_wp2_with (first
      | refine wpList_box_row rfl 24 _ rfl _ rfl ?_)
    refine (div64_any h l y _ hc h2 hn h3).mono ?_
    rintro e w2 ⟨⟨r, rfl⟩, hb⟩
    go_wp2
    go_ret
    exact ⟨by rw [hg.out]; rfl, below_on (below_alloc2 _ _) (Nat.le_refl _) hb⟩

/-- What is over, as a limb. -/
def zo (N M g : Nat) : Nat := zz N M g / 2 ^ 256 % 18446744073709551616
theorem zo_lt (N M g : Nat) : zo N M g < 18446744073709551616 := Nat.mod_lt _ (by decide)
theorem zo_first (Z pt b h : Nat) (z2 : Z + pt + b = h + 18446744073709551616) :
    IntKind.u64.wrap (IntKind.u64.wrap ((h : Int) - (pt : Int)) - (b : Int)) = ((Z % 18446744073709551616 : Nat) : Int) := by
  simp only [IntKind.wrap_u64]
  omega
theorem zo_next (N M g : Nat) (hM : M < 2 ^ 256) (hg : g < 18446744073709551616) (h0 : 0 < g) : IntKind.u64.wrap ((zo N M g : Int) + (cN (zz N M g) M 256 : Nat)) = (zo N M (g - 1) : Int) := by
  have ho := zz_over (zz N M g) M hM
  rw [← zz_pred N M g hM hg h0] at ho
  unfold zo
  rw [ho]
  generalize zz N M g / 2 ^ 256 = z
  generalize cN (zz N M g) M 256 = c
  simp only [IntKind.wrap_u64]
  omega

set_option maxRecDepth 100000 in
set_option maxHeartbeats 2000000 in
theorem dlimb_core (R l M N g pr pt b q : Nat) (w : World) (hM : M < 2 ^ 256) (hM0 : 0 < M) (hg : g < 18446744073709551616) (eq : q = N / M) (hge : q ≤ g)
    (hgu : ∀ w', Calls Try.prog 75 #[.agg (natC R), .agg (natC M)] w' fun e w2 => e = .returned (.int .u64 g) ∧ Below w'.heap.size w' w2)
    (hti : ∀ w', Calls Try.prog 38 #[.agg (natC M), .int .u64 g, .agg (natC 0)] w' fun e w2 => e = .returned (.tuple #[.agg (natC pr), .int .u64 pt]) ∧ Below w'.heap.size w' w2)
    (hsu : ∀ w', Calls Try.prog 49 #[.agg #[.int .u64 l, .int .u64 (lm R 0), .int .u64 (lm R 1), .int .u64 (lm R 2)], .agg (natC pr)] w' fun e w2 => e = .returned (.tuple #[.agg (natC (zz N M g)), .int .i64 b]) ∧ Below w'.heap.size w' w2)
    (hbN : b ≤ 1) (z2 : zz N M g / 2 ^ 256 + pt + b = lm R 3 + 18446744073709551616) :
    Calls Try.prog 64 #[.agg (natC R), .int .u64 l, .agg (natC M)] w fun e w' => e = .returned (.tuple #[.int .u64 q, .agg (natC (N % M))]) ∧ Below w.heap.size w w' := by
  have rR : Row (((w.alloc (.cells (natC R) 24)).alloc (.cells (natC M) 24)).alloc (.cells (natC 0) 24)) w.heap.size (natC R) 24 := (by repeat (first | (refine Row.here ?_; first | (with_reducible rfl) | (simp; done)) | refine Row.alloc ?_ _))
  have rM : Row (((w.alloc (.cells (natC R) 24)).alloc (.cells (natC M) 24)).alloc (.cells (natC 0) 24)) (w.heap.size + 1) (natC M) 24 := (by repeat (first | (refine Row.here ?_; first | (with_reducible rfl) | (simp; done)) | refine Row.alloc ?_ _))
  have rZ : Row (((w.alloc (.cells (natC R) 24)).alloc (.cells (natC M) 24)).alloc (.cells (natC 0) 24)) (w.heap.size + 1 + 1) (natC 0) 24 := (by repeat (first | (refine Row.here ?_; first | (with_reducible rfl) | (simp; done)) | refine Row.alloc ?_ _))
  have bW := below_alloc3 (w := w) (.cells (natC R) 24) (.cells (natC M) 24) (.cells (natC 0) 24)
  have hr3 := lm_lt R 3
  have tov : IntKind.u64.wrap (IntKind.u64.wrap ((lm R 3 : Int) - (pt : Int)) - (b : Int)) = (zo N M g : Int) := zo_first _ pt b _ z2
  have HM : Hid (M < 2 ^ 256 ∧ 0 < M ∧ q = N / M) := ⟨hM, hM0, eq⟩
  clear hM hM0 z2 eq
  go_enter Try.func64, Try.ntmps64
  go_wp2_with (first
    | refine wpList_box_row rfl 24 _ rfl _ rfl ?_
    | refine wpList_alloc_row rfl 24 rfl _ zero_nat ?_
    | refine wpList_loadR rfl 24 _ rfl _ rfl rR 4 _ Try.underlying24 (by exact size_nat) ?_
    | refine wpList_loadR rfl 24 _ rfl _ rfl rM 4 _ Try.underlying24 (by exact size_nat) ?_)
  refine (hgu _).mono ?_
  rintro e w2 ⟨rfl, hb2⟩
  have rR2 := rR.belowAll hb2
  have rM2 := rM.belowAll hb2
  have rZ2 := rZ.belowAll hb2
  have b2 := below_on bW (Nat.le_refl _) hb2
  clear rR rM rZ bW hb2 hgu
  go_wp2_with (first
    | refine wpList_build_zero rfl 24 rfl _ built_nat ?_
    | refine wpList_loadR rfl 24 _ rfl _ rfl rM2 4 _ Try.underlying24 (by exact size_nat) ?_)
  refine (hti _).mono ?_
  rintro e w3 ⟨rfl, hb3⟩
  have rR3 := (rR2.belowAll hb3).alloc (.cells (natC pr) 24)
  have rM3 := (rM2.belowAll hb3).alloc (.cells (natC pr) 24)
  have rZ3 := (rZ2.belowAll hb3).alloc (.cells (natC pr) 24)
  have b3 := below_on b2 (Nat.le_refl _) hb3
  have b4 := b3.alloc b3.size (.cells (natC pr) 24)
  have rP := Row.new w3 (natC pr) 24
  have c0 := cell_nat rR3 0 (by omega)
  have c1 := cell_nat rR3 1 (by omega)
  have c2 := cell_nat rR3 2 (by omega)
  clear rR2 rM2 rZ2 b2 hb3 hti b3
  go_wp2_with (first
    | refine wpList_alloc_row rfl 24 rfl _ zero_nat ?_
    | refine wpList_store_new rfl 24 _ _ rfl _ rfl rfl _ _ (by exact size_nat) (by simp only [natC_size]) (natC_one _) ?_
    | refine wpList_loadR rfl 24 _ rfl _ rfl rP 4 _ Try.underlying24 (by exact size_nat) ?_)
  generalize w3.alloc (.cells (natC pr) 24) = w4 at *
  refine (hsu _).mono ?_
  rintro e w5 ⟨rfl, hb5⟩
  have rR5 := (rR3.belowAll hb5).alloc (.cells (natC (zz N M g)) 24)
  have rM5 := (rM3.belowAll hb5).alloc (.cells (natC (zz N M g)) 24)
  have rZ5 := (rZ3.belowAll hb5).alloc (.cells (natC (zz N M g)) 24)
  have b5 := below_on b4 (Nat.le_refl _) hb5
  have b6 := b5.alloc b5.size (.cells (natC (zz N M g)) 24)
  have rL := Row.new w5 (natC (zz N M g)) 24
  have hL := (rZ3.belowAll hb5).lt
  have c3 := cell_nat rR5 3 (by omega)
  clear rR3 rM3 rZ3 b4 hb5 hsu b5 rP c0 c1 c2
  go_wp2_with (first
    | refine wpList_alloc_row rfl 24 rfl _ zero_nat ?_
    | refine wpList_store_new rfl 24 _ _ rfl _ rfl rfl _ _ (by exact size_nat) (by simp only [natC_size]) (natC_one _) ?_)
  generalize w5.alloc (.cells (natC (zz N M g)) 24) = w6 at *
  generalize w5.heap.size = L at *
  go_loopg [8, 13] (g - q) (fun j s8 s13 wr => ∃ g' : Nat, g' = q + j ∧ g' < 18446744073709551616 ∧ s8 = .int .u64 g' ∧ s13 = .int .u64 (zo N M g' : Nat) ∧ Row wr (w.heap.size + 1) (natC M) 24 ∧ Row wr (w.heap.size + 1 + 1) (natC 0) 24 ∧
    Row wr L (natC (zz N M g')) 24 ∧ Below w.heap.size w wr)
  case atStart =>
    exact ⟨g, by omega, hg, rfl, rfl, rM5, rZ5, rL, b6⟩
  case round =>
    obtain ⟨g', hg', hg2, rfl, rfl, r5, r7, rL', hb⟩ := hrel
    clear rM5 rZ5 rL b6 rR5 c3 tov
    obtain ⟨hM, hM0, eq⟩ := HM.out
    cases gk with
    | zero =>
      obtain rfl : q = g' := by omega
      obtain ⟨e1, e2⟩ := zz_done N M hM0 hM
      rw [← eq] at e1 e2
      rw [show zo N M q = 0 from e2]
      rw [e1, natC_far] at rL'
      clear e1 e2 hg' hM hM0 hge eq
      have hx : ¬ ((0 : Nat) : Int) ≠ 0 := by decide
      go_wp2_with fail
      apply wp_region_mix (by kernel_rfl) [(w.heap.size + 1 + 1, 24, natC 0)] [_, _, _, _] ⟨r7, trivial⟩ (by simp <;> omega)
      · intro p
        refine mx_move rfl rfl ?_
        simp only [Act.put, List.setIfInBounds_toArray, List.set_cons_zero, List.set_cons_succ]
        refine mx_load 24 _ rfl _ rfl rL' (by simp <;> omega) 4 _ Try.underlying24 size_nat ?_
        simp only [Act.put, List.setIfInBounds_toArray, List.set_cons_zero, List.set_cons_succ]
        refine mx_asg rfl rfl ?_
        simp only [Act.put, List.setIfInBounds_toArray, List.set_cons_zero, List.set_cons_succ]
        refine mx_put 0 24 _ _ rfl rfl rfl (natC (N % M)) rfl (by exact size_nat) (by rw [natC_size, natC_size]) (natC_one _) ?_
        simp only [Act.put]
        refine mx_end ?_
        intro w1 hkw hrw _ _
        have r7' : Row w1 (w.heap.size + 1 + 1) (natC (N % M)) 24 := hrw 0 _ rfl
        have hb1 := hb.trans (hkw.below w.heap.size hb.size (by simp <;> omega))
        go_wp2_with fail
        exact ret_val_row rfl _ rfl _ rfl r7' 4 _ Try.underlying24 (by exact size_nat) rfl ⟨rfl, hb1⟩
      · kernel_rfl
    | succ j =>
      have hne : zo N M g' ≠ 0 := zz_more N M g' hM hg2 (by omega) hM0
      have hp := zz_pred N M g' hM hg2 (by omega)
      have tov := zo_next N M g' hM hg2 (by omega)
      have hcl := cN_le (zz N M g') M 256
      have hadd := nadd_any (zz N M g') M wr
      rw [← hp] at hadd
      have hov := zo_lt N M g'
      have HG : Hid (g' = q + (j + 1)) := hg'
      clear hp hg' hM hM0 hge eq
      generalize zo N M g' = ov at *
      generalize cN (zz N M g') M 256 = c at *
      have hz : ¬ (ov : Int) = 0 := by omega
      have hg1 : 1 ≤ (g' : Int) := by have := HG.out; omega
      clear hne
      go_wp2_with (first
        | refine wpList_loadR rfl 24 _ rfl _ rfl rL' 4 _ Try.underlying24 (by exact size_nat) ?_
        | refine wpList_loadR rfl 24 _ rfl _ rfl r5 4 _ Try.underlying24 (by exact size_nat) ?_)
      refine hadd.mono ?_
      rintro e w1 ⟨rfl, hb1⟩
      have q5 := r5.belowAll hb1
      have q7 := r7.belowAll hb1
      have qL := rL'.belowAll hb1
      have b1 := below_on hb (Nat.le_refl _) hb1
      clear r5 r7 rL' hb hb1 hadd
      go_wp2_with (first
        | refine wpList_storeR rfl 24 _ _ rfl _ _ rfl rfl qL (by exact size_nat) (by simp only [natC_size]) (natC_one _) ?_)
      go_roundg j
      case measure => omega
      case rel =>
        refine ⟨g' - 1, by have := HG.out; omega, by omega, by go_num, rfl, q5.setRow_far _ _ (by omega), q7.setRow_far _ _ (by omega), qL.setRow _, below_setRow b1 (by omega) _⟩
theorem dlimb_any (R l M : Nat) (w : World) (hM : M < 2 ^ 256) (hM2 : 2 ^ 255 ≤ M) (hRM : R < M) (hl : l < 18446744073709551616) :
    Calls Try.prog 64 #[.agg (natC R), .int .u64 l, .agg (natC M)] w fun e w' => e = .returned (.tuple #[.int .u64 ((R * 18446744073709551616 + l) / M : Nat), .agg (natC ((R * 18446744073709551616 + l) % M))]) ∧ Below w.heap.size w w' := by
  have hR : R < 2 ^ 256 := by omega
  have hM0 : 0 < M := by omega
  have hg := gs_lt R M
  have hsm := zz_small M (gs R M) hM hg
  have hlt : gs R M * M < 2 ^ 256 * 18446744073709551616 := Nat.lt_of_le_of_lt hsm (by decide)
  obtain ⟨z1, z2⟩ := zz_first (R * 18446744073709551616 + l) (gs R M * M) (Nat.le_of_lt hlt)
  rw [onto_top R l hR hl] at z2
  refine dlimb_core R l M (R * 18446744073709551616 + l) (gs R M) (gs R M * M) _ _ _ w hM hM0 hg rfl (gs_ge R M l hR hM hRM hl) (fun w' => guess_any R M w' hM hM2) (fun w' => ?_) (fun w' => ?_) (bN_le _ _ _) z2
  · have := times_any M (gs R M) 0 w' hM (by decide) hg
    rw [Nat.add_zero, Nat.mul_comm] at this
    exact this
  · have := nsub_any ((R * 18446744073709551616 + l) % 2 ^ 256) ((gs R M * M) % 2 ^ 256) w' (Nat.mod_lt _ (by decide))
    rw [natC_full, natC_full, natC_onto R l hl, ← (natC_eq _ _).2 z1] at this
    exact this
end Go.Proofs.Ytmmjjohnejimdaa
