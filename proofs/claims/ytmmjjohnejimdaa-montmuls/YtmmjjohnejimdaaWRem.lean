/- wide.divide at any naturals; wide.remains, Rem, Div, AddMod, MulMod. -/
import Derived.Test.YtmmjjohnejimdaaWDivide
import Derived.Test.YtmmjjohnejimdaaWMul
namespace Go.Proofs.Ytmmjjohnejimdaa
open Go.RowKit

theorem divide_any (Lo H M : Nat) (w : World) (hLo : Lo < 2 ^ 256) (hHM : H < M) (hM : M < 2 ^ 256) :
    Calls Try.prog 41 #[.agg (natC Lo), .agg (natC H), .agg (natC M)] w fun e w' => e = .returned (.tuple #[.agg (natC ((H * 2 ^ 256 + Lo) / M)), .agg (natC ((H * 2 ^ 256 + Lo) % M))]) ∧ Below w.heap.size w w' := by
  obtain ⟨n1, n2, n3⟩ := norm_M M (by omega) hM
  have h2 := Nat.two_pow_pos (256 - bitLen M)
  have htop := yy_top Lo H (256 - bitLen M) (by omega)
  have hlt : yy ((H * 2 ^ 256 + Lo) * 2 ^ (256 - bitLen M)) 4 < M * 2 ^ (256 - bitLen M) := by
    unfold yy
    rw [show 64 * 4 = 256 from rfl]
    refine Nat.div_lt_of_lt_mul ?_
    rw [← Nat.mul_assoc]
    refine Nat.mul_lt_mul_of_pos_right ?_ h2
    have : 2 ^ 256 * (H + 1) ≤ 2 ^ 256 * M := Nat.mul_le_mul_left _ hHM
    omega
  have key := divide_core Lo H M ((H * 2 ^ 256 + Lo) * 2 ^ (256 - bitLen M)) (256 - bitLen M) (bitLen M) (Lo / 2 ^ (256 - (256 - bitLen M))) w (by omega) n2 n3 htop hlt (fun k hk => (lm_low Lo H _ k hk).symm) (by omega)
    (fun w' => nlen_any M w' hM) (fun A w' => by have := nup_any A ((256 - bitLen M : Nat) : Int) w'; rw [Int.toNat_natCast] at this; exact this)
    (fun w' => by
      have := ndown_any Lo (256 - ((256 - bitLen M : Nat) : Int)) w' hLo
      rw [show (256 - ((256 - bitLen M : Nat) : Int)).toNat = 256 - (256 - bitLen M) by omega] at this
      exact this)
    (fun A w' hA => by have := ndown_any A ((256 - bitLen M : Nat) : Int) w' hA; rw [Int.toNat_natCast] at this; exact this)
  rw [Nat.mul_div_mul_right _ _ h2, Nat.mul_mod_mul_right, Nat.mul_div_cancel _ h2] at key
  exact key

set_option maxRecDepth 100000 in
set_option maxHeartbeats 1000000 in
theorem remains_any (A M : Nat) (w : World) (hA : A < 2 ^ 256) (h0 : 0 < M) (hM : M < 2 ^ 256) :
    Calls Try.prog 42 #[.agg (natC A), .agg (natC M)] w fun e w' => e = .returned (.agg (natC (A % M))) ∧ Below w.heap.size w w' := by
  have rA : Row (((w.alloc (.cells (natC A) 24)).alloc (.cells (natC M) 24)).alloc (.cells (natC 0) 24)) w.heap.size (natC A) 24 := (by repeat (first | (refine Row.here ?_; first | (with_reducible rfl) | (simp; done)) | refine Row.alloc ?_ _))
  have rM : Row (((w.alloc (.cells (natC A) 24)).alloc (.cells (natC M) 24)).alloc (.cells (natC 0) 24)) (w.heap.size + 1) (natC M) 24 := (by repeat (first | (refine Row.here ?_; first | (with_reducible rfl) | (simp; done)) | refine Row.alloc ?_ _))
  have rZ : Row (((w.alloc (.cells (natC A) 24)).alloc (.cells (natC M) 24)).alloc (.cells (natC 0) 24)) (w.heap.size + 1 + 1) (natC 0) 24 := (by repeat (first | (refine Row.here ?_; first | (with_reducible rfl) | (simp; done)) | refine Row.alloc ?_ _))
  have bW := below_alloc3 (w := w) (.cells (natC A) 24) (.cells (natC M) 24) (.cells (natC 0) 24)
  have hcm := fun w' => ncmp_any A M w' hA hM
  have hdi := fun w' => divide_any A 0 M w' hA h0 hM
  rw [Nat.zero_mul, Nat.zero_add] at hdi
  by_cases hlt : A < M
  · have hc : cmpI A M < 0 := by unfold cmpI; rw [if_pos hlt]; decide
    have HV : Hid (A % M = A) := Nat.mod_eq_of_lt hlt
    clear hA h0 hM hlt hdi
    generalize cmpI A M = c at *
    go_enter Try.func42, Try.ntmps42
    go_wp2_with (first
      | refine wpList_box_row rfl 24 _ rfl _ rfl ?_
      | refine wpList_alloc_row rfl 24 rfl _ zero_nat ?_
      | refine wpList_loadR rfl 24 _ rfl _ rfl rA 4 _ Try.underlying24 (by exact size_nat) ?_
      | refine wpList_loadR rfl 24 _ rfl (w.heap.size + 1) (by first | rfl | (unfold Act.eval Act.put; simp; done) | (unfold Act.eval; simp; done)) rM 4 _ Try.underlying24 (by exact size_nat) ?_)
    refine (hcm _).mono ?_
    rintro e w2 ⟨rfl, hb2⟩
    have qA := rA.belowAll hb2
    have qZ := rZ.belowAll hb2
    have b2 := below_on bW (Nat.le_refl _) hb2
    clear rA rM rZ bW hb2 hcm
    go_wp2_with (first
      | refine wpList_loadR rfl 24 _ rfl _ rfl qA 4 _ Try.underlying24 (by exact size_nat) ?_
      | refine wpList_storeR rfl 24 _ _ rfl _ _ rfl rfl qZ (by exact size_nat) (by simp only [natC_size]) (natC_one _) ?_)
    exact ret_row rfl _ rfl (qZ.setRow _) 4 _ Try.underlying24 (by exact size_nat) rfl ⟨by rw [HV.out], below_setRow b2 (by omega) _⟩
  · have hc : ¬ cmpI A M < 0 := by unfold cmpI; rw [if_neg hlt]; split <;> decide
    clear hA h0 hM hlt
    generalize cmpI A M = c at *
    generalize A / M = dq at *
    generalize A % M = dr at *
    go_enter Try.func42, Try.ntmps42
    go_wp2_with (first
      | refine wpList_box_row rfl 24 _ rfl _ rfl ?_
      | refine wpList_alloc_row rfl 24 rfl _ zero_nat ?_
      | refine wpList_loadR rfl 24 _ rfl _ rfl rA 4 _ Try.underlying24 (by exact size_nat) ?_
      | refine wpList_loadR rfl 24 _ rfl (w.heap.size + 1) (by first | rfl | (unfold Act.eval Act.put; simp; done) | (unfold Act.eval; simp; done)) rM 4 _ Try.underlying24 (by exact size_nat) ?_)
    refine (hcm _).mono ?_
    rintro e w2 ⟨rfl, hb2⟩
    have qA := rA.belowAll hb2
    have qM := rM.belowAll hb2
    have qZ := rZ.belowAll hb2
    have b2 := below_on bW (Nat.le_refl _) hb2
    clear rA rM rZ bW hb2 hcm
    go_wp2_with (first
      | refine wpList_build_zero rfl 24 rfl _ built_nat ?_
      | refine wpList_loadR rfl 24 _ rfl _ rfl qA 4 _ Try.underlying24 (by exact size_nat) ?_
      | refine wpList_loadR rfl 24 _ rfl _ rfl qM 4 _ Try.underlying24 (by exact size_nat) ?_)
    refine (hdi _).mono ?_
    rintro e w3 ⟨rfl, hb3⟩
    have hz := (qZ.belowAll hb3).lt
    have a5 : Row ((w3.alloc (.cells (natC 0) 24)).alloc (.cells (natC 0) 24)) w3.heap.size (natC 0) 24 := (by repeat (first | (refine Row.here ?_; first | (with_reducible rfl) | (simp; done)) | refine Row.alloc ?_ _))
    have a6' : Row ((w3.alloc (.cells (natC 0) 24)).alloc (.cells (natC 0) 24)) (w3.heap.size + 1) (natC 0) 24 := (by repeat (first | (refine Row.here ?_; first | (with_reducible rfl) | (simp; done)) | refine Row.alloc ?_ _))
    have a6 := a6'.setRow_far w3.heap.size (natC dq) (by omega)
    have a9 := a6.setRow (natC dr)
    have aZ := ((((qZ.belowAll hb3).alloc (.cells (natC 0) 24)).alloc (.cells (natC 0) 24)).setRow_far w3.heap.size (natC dq) (by omega)).setRow_far (w3.heap.size + 1) (natC dr) (by omega)
    have b3 := below_on b2 (Nat.le_refl _) hb3
    have b5 := below_setRow (below_setRow ((b3.alloc b3.size (.cells (natC 0) 24)).alloc (by have := b3.size; simp; omega) (.cells (natC 0) 24)) (g := w3.heap.size) (by omega) (natC dq)) (g := w3.heap.size + 1) (by omega) (natC dr)
    clear qA qM qZ b2 hb3 hdi a6' b3
    go_wp2_with (first
      | refine wpList_alloc_row rfl 24 rfl _ zero_nat ?_
      | refine wpList_storeR rfl 24 _ _ rfl _ _ rfl rfl a5 (by exact size_nat) (by simp only [natC_size]) (natC_one _) ?_
      | refine wpList_storeR rfl 24 _ _ rfl (w3.heap.size + 1) _ (by first | rfl | (unfold Act.eval Act.put; simp; done) | (unfold Act.eval; simp; done)) rfl a6 (by exact size_nat) (by simp only [natC_size]) (natC_one _) ?_
      | refine wpList_loadR rfl 24 _ rfl (w3.heap.size + 1) (by first | rfl | (unfold Act.eval Act.put; simp; done) | (unfold Act.eval; simp; done)) a9 4 _ Try.underlying24 (by exact size_nat) ?_
      | refine wpList_storeR rfl 24 _ _ rfl _ _ rfl rfl aZ (by exact size_nat) (by simp only [natC_size]) (natC_one _) ?_)
    exact ret_row rfl _ rfl (aZ.setRow (natC dr)) 4 _ Try.underlying24 (by exact size_nat) rfl ⟨rfl, below_setRow b5 (by omega) _⟩

/-- By m, where m may be 0; and the error's number. -/
def modZ (N M : Nat) : Nat := if M = 0 then 0 else N % M
def errI (M : Nat) : Int := if M = 0 then 1 else 0

set_option maxRecDepth 100000 in
set_option maxHeartbeats 1000000 in
theorem wrem_any (Lo H M : Nat) (w : World) (hLo : Lo < 2 ^ 256) (hH : H < 2 ^ 256) (hM : M < 2 ^ 256) :
    Calls Try.prog 11 #[.agg (natC Lo), .agg (natC H), .agg (natC M)] w fun e w' => e = .returned (.tuple #[.agg (natC (modZ (H * 2 ^ 256 + Lo) M)), .int .i64 (errI M)]) ∧ Below w.heap.size w w' := by
  have r3 : Row ((((w.alloc (.cells (natC Lo) 24)).alloc (.cells (natC H) 24)).alloc (.cells (natC M) 24)).alloc (.cells (natC 0) 24)) w.heap.size (natC Lo) 24 := (by repeat (first | (refine Row.here ?_; first | (with_reducible rfl) | (simp; done)) | refine Row.alloc ?_ _))
  have r4 : Row ((((w.alloc (.cells (natC Lo) 24)).alloc (.cells (natC H) 24)).alloc (.cells (natC M) 24)).alloc (.cells (natC 0) 24)) (w.heap.size + 1) (natC H) 24 := (by repeat (first | (refine Row.here ?_; first | (with_reducible rfl) | (simp; done)) | refine Row.alloc ?_ _))
  have r5 : Row ((((w.alloc (.cells (natC Lo) 24)).alloc (.cells (natC H) 24)).alloc (.cells (natC M) 24)).alloc (.cells (natC 0) 24)) (w.heap.size + 1 + 1) (natC M) 24 := (by repeat (first | (refine Row.here ?_; first | (with_reducible rfl) | (simp; done)) | refine Row.alloc ?_ _))
  have r6 : Row ((((w.alloc (.cells (natC Lo) 24)).alloc (.cells (natC H) 24)).alloc (.cells (natC M) 24)).alloc (.cells (natC 0) 24)) (w.heap.size + 1 + 1 + 1) (natC 0) 24 := (by repeat (first | (refine Row.here ?_; first | (with_reducible rfl) | (simp; done)) | refine Row.alloc ?_ _))
  have bW : Below w.heap.size w ((((w.alloc (.cells (natC Lo) 24)).alloc (.cells (natC H) 24)).alloc (.cells (natC M) 24)).alloc (.cells (natC 0) 24)) := (by repeat (first | exact Below.refl _ _ | refine Below.alloc ?_ (by simp <;> omega) _))
  by_cases h0 : M = 0
  · have HZ : Hid (modZ (H * 2 ^ 256 + Lo) M = 0 ∧ errI M = 1) := ⟨if_pos h0, if_pos h0⟩
    have HV : Hid (decide (M % 2 ^ 256 = 0 % 2 ^ 256) = true) := by show _ = _; rw [h0]; rfl
    clear h0 hLo hH hM
    go_enter Try.func11, Try.ntmps11
    go_wp2_with (first
      | refine wpList_box_row rfl 24 _ rfl _ rfl ?_
      | refine wpList_alloc_row rfl 24 rfl _ zero_nat ?_
      | refine wpList_build_zero rfl 24 rfl _ built_nat ?_
      | refine wpList_loadR rfl 24 _ rfl (w.heap.size + 1 + 1) (by first | rfl | (unfold Act.eval Act.put; simp; done) | (unfold Act.eval; simp; done)) r5 4 _ Try.underlying24 (by exact size_nat) ?_
      | refine wpList_value rfl (.bool true) ((exec_eql_nat _ _ _ rfl M 0 rfl rfl _).trans (by rw [HV.out])) ?_
      | refine wpList_storeR rfl 24 _ _ rfl (w.heap.size + 1 + 1 + 1) _ (by first | rfl | (unfold Act.eval Act.put; simp; done) | (unfold Act.eval; simp; done)) rfl r6 (by exact size_nat) (by simp only [natC_size]) (natC_one _) ?_)
    exact ret_row2 rfl _ rfl (r6.setRow (natC 0)) 4 _ Try.underlying24 (by exact size_nat) rfl _ rfl ⟨by rw [HZ.out.1, HZ.out.2]; rfl, below_setRow bW (by omega) _⟩
  · have HZ : Hid (modZ (H * 2 ^ 256 + Lo) M = ((H % M) * 2 ^ 256 + Lo) % M ∧ errI M = 0) := by
      refine ⟨(if_neg h0).trans ?_, if_neg h0⟩
      rw [Nat.add_mod (H % M * 2 ^ 256), Nat.mul_mod (H % M), Nat.mod_mod, ← Nat.mul_mod, ← Nat.add_mod]
    have HV : Hid (decide (M % 2 ^ 256 = 0 % 2 ^ 256) = false) := by
      show _ = _
      rw [Nat.mod_eq_of_lt hM]
      exact decide_eq_false h0
    have hre := fun w' => remains_any H M w' hH (by omega) hM
    have hdi := fun w' => divide_any Lo (H % M) M w' hLo (Nat.mod_lt _ (by omega)) hM
    rw [HZ.out.1, HZ.out.2]
    clear h0 hLo hH hM HZ
    generalize ((H % M) * 2 ^ 256 + Lo) / M = dq at *
    generalize ((H % M) * 2 ^ 256 + Lo) % M = dr at *
    go_enter Try.func11, Try.ntmps11
    go_wp2_with (first
      | refine wpList_box_row rfl 24 _ rfl _ rfl ?_
      | refine wpList_alloc_row rfl 24 rfl _ zero_nat ?_
      | refine wpList_build_zero rfl 24 rfl _ built_nat ?_
      | refine wpList_loadR rfl 24 _ rfl (w.heap.size + 1 + 1) (by first | rfl | (unfold Act.eval Act.put; simp; done) | (unfold Act.eval; simp; done)) r5 4 _ Try.underlying24 (by exact size_nat) ?_
      | refine wpList_value rfl (.bool false) ((exec_eql_nat _ _ _ rfl M 0 rfl rfl _).trans (by rw [HV.out])) ?_)
    generalize (((w.alloc (.cells (natC Lo) 24)).alloc (.cells (natC H) 24)).alloc (.cells (natC M) 24)).alloc (.cells (natC 0) 24) = w1 at *
    apply wp_region_mix (by kernel_rfl) [] [_, _, _, _, _, _, _, _, _, _, _, _, _] trivial List.nodup_nil
    · intro p
      refine mx_load 24 _ rfl _ rfl r3 (by simp <;> omega) 4 _ Try.underlying24 size_nat ?_
      simp only [Act.put, List.setIfInBounds_toArray, List.set_cons_zero, List.set_cons_succ]
      refine mx_load 24 _ rfl _ rfl r4 (by simp <;> omega) 4 _ Try.underlying24 size_nat ?_
      simp only [Act.put, List.setIfInBounds_toArray, List.set_cons_zero, List.set_cons_succ]
      refine mx_load 24 _ rfl _ rfl r5 (by simp <;> omega) 4 _ Try.underlying24 size_nat ?_
      simp only [Act.put, List.setIfInBounds_toArray, List.set_cons_zero, List.set_cons_succ]
      refine mx_call 42 _ _ rfl Try.func42 (by kernel_rfl) #[.agg (natC H), .agg (natC M)] rfl _ hre ?_
      simp only [Act.put, List.setIfInBounds_toArray, List.set_cons_zero, List.set_cons_succ]
      refine mx_load 24 _ rfl _ rfl r5 (by simp <;> omega) 4 _ Try.underlying24 size_nat ?_
      simp only [Act.put, List.setIfInBounds_toArray, List.set_cons_zero, List.set_cons_succ]
      refine mx_call 41 _ _ rfl Try.func41 (by kernel_rfl) #[.agg (natC Lo), .agg (natC (H % M)), .agg (natC M)] rfl _ hdi ?_
      simp only [Act.put, List.setIfInBounds_toArray, List.set_cons_zero, List.set_cons_succ]
      refine mx_move rfl rfl ?_
      simp only [Act.put, List.setIfInBounds_toArray, List.set_cons_zero, List.set_cons_succ]
      refine mx_ext rfl rfl rfl ?_
      simp only [Act.put, List.setIfInBounds_toArray, List.set_cons_zero, List.set_cons_succ]
      refine mx_ext rfl rfl rfl ?_
      simp only [Act.put, List.setIfInBounds_toArray, List.set_cons_zero, List.set_cons_succ]
      refine mx_new 24 rfl _ zero_nat ?_
      simp only [Act.put, List.setIfInBounds_toArray, List.set_cons_zero, List.set_cons_succ]
      refine mx_new 24 rfl _ zero_nat ?_
      simp only [Act.put, List.setIfInBounds_toArray, List.set_cons_zero, List.set_cons_succ]
      refine mx_put 19 24 _ _ rfl rfl rfl (natC dq) rfl (by exact size_nat) (by simp only [natC_size]) (natC_one _) ?_
      simp only [Act.put]
      refine mx_put 21 24 _ _ rfl rfl rfl (natC dr) rfl (by exact size_nat) (by simp only [natC_size]) (natC_one _) ?_
      simp only [Act.put]
      refine mx_end ?_
      intro w2 hkw hrw hnew _
      have r9 : Row w2 (p 10) (natC dr) 24 := hrw 21 _ rfl
      have hp : w1.heap.size ≤ p 10 := hnew 10 rfl
      have hl := r6.lt
      have q6 := hkw.row r6 (by simp)
      have b2 := bW.trans (hkw.below w.heap.size bW.size (by simp))
      clear hrw hnew r3 r4 r5 r6 bW
      generalize p 10 = q at *
      go_wp2_with (first
        | refine wpList_loadR rfl 24 _ rfl _ rfl r9 4 _ Try.underlying24 (by exact size_nat) ?_
        | refine wpList_storeR rfl 24 _ _ rfl _ _ rfl rfl q6 (by exact size_nat) (by simp only [natC_size]) (natC_one _) ?_)
      exact ret_row2 rfl _ rfl (q6.setRow (natC dr)) 4 _ Try.underlying24 (by exact size_nat) rfl _ rfl ⟨rfl, below_setRow b2 (by omega) _⟩
    · kernel_rfl
end Go.Proofs.Ytmmjjohnejimdaa
