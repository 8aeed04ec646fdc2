/- wide.divide and wide.remains. -/
import Derived.Test.YtmmjjohnejimdaaWLimb
import Derived.Test.YtmmjjohnejimdaaNDown
namespace Go.Proofs.Ytmmjjohnejimdaa
open Go.RowKit

/-- The rest of the number, from limb i on. -/
def yy (N i : Nat) : Nat := N / 2 ^ (64 * i)
theorem yy_step (N k : Nat) : yy N k = yy N (k + 1) * 18446744073709551616 + lm N k := by
  unfold yy lm
  rw [pow_limb, ← Nat.div_div_eq_div_mul, show (2 : Nat) ^ 64 = 18446744073709551616 from rfl]
  generalize N / 2 ^ (64 * k) = z
  omega
theorem dv_both (Q r l M : Nat) (hM : 0 < M) : ((M * Q + r) * 18446744073709551616 + l) / M = Q * 18446744073709551616 + (r * 18446744073709551616 + l) / M ∧
    ((M * Q + r) * 18446744073709551616 + l) % M = (r * 18446744073709551616 + l) % M := by
  have e : (M * Q + r) * 18446744073709551616 + l = r * 18446744073709551616 + l + M * (Q * 18446744073709551616) := by
    rw [Nat.add_mul, Nat.mul_assoc]; omega
  rw [e, div_step _ _ _ hM, Nat.add_mul_mod_self_left]
  exact ⟨by omega, rfl⟩
theorem dv_step (N M k : Nat) (hM : 0 < M) : yy N k / M = yy N (k + 1) / M * 18446744073709551616 + (yy N (k + 1) % M * 18446744073709551616 + lm N k) / M ∧
    yy N k % M = (yy N (k + 1) % M * 18446744073709551616 + lm N k) % M := by
  have h := dv_both (yy N (k + 1) / M) (yy N (k + 1) % M) (lm N k) M hM
  rw [Nat.div_add_mod, ← yy_step] at h
  exact h
theorem dl_lt (r l M : Nat) (hr : r < M) (hl : l < 18446744073709551616) : r * 18446744073709551616 + l < 18446744073709551616 * M := by
  have : (r + 1) * 18446744073709551616 ≤ M * 18446744073709551616 := Nat.mul_le_mul_right _ hr
  omega
theorem natC_quot (Q q k : Nat) (hk : k < 4) (hq : q < 18446744073709551616) : (natC (Q * 2 ^ (64 * (k + 1)))).setIfInBounds k (.int .u64 q) = natC ((Q * 18446744073709551616 + q) * 2 ^ (64 * k)) := by
  have hP := Nat.two_pow_pos (64 * k)
  have hd1 : (Q * 18446744073709551616 + q) * 2 ^ (64 * k) / 2 ^ (64 * k) = Q * 18446744073709551616 + q := Nat.mul_div_cancel _ hP
  refine natC_set _ _ _ _ hk ?_ fun i _ hne => ?_
  · unfold lm
    rw [hd1, show (2 : Nat) ^ 64 = 18446744073709551616 from rfl]
    omega
  · rcases Nat.lt_or_ge i k with h | h
    · have e1 := lm_mod ((Q * 18446744073709551616 + q) * 2 ^ (64 * k)) k i
      have e2 := lm_mod (Q * 2 ^ (64 * (k + 1))) k i
      rw [if_pos h] at e1 e2
      rw [← e1, ← e2, Nat.mul_mod_left, pow_limb, Nat.mul_comm (2 ^ (64 * k)), ← Nat.mul_assoc, Nat.mul_mod_left]
    · obtain ⟨t, rfl⟩ : ∃ t, i = k + 1 + t := ⟨i - (k + 1), by omega⟩
      unfold lm
      have e3 : 2 ^ (64 * (k + 1 + t)) = 2 ^ (64 * (k + 1)) * 2 ^ (64 * t) := by rw [← Nat.pow_add]; congr 1; omega
      rw [e3, ← Nat.div_div_eq_div_mul, ← Nat.div_div_eq_div_mul, Nat.mul_div_cancel _ (Nat.two_pow_pos _)]
      rw [show (Q * 18446744073709551616 + q) * 2 ^ (64 * k) / 2 ^ (64 * (k + 1)) = Q by
        rw [pow_limb, ← Nat.div_div_eq_div_mul, hd1]; omega]
theorem norm_M (M : Nat) (h0 : 0 < M) (hM : M < 2 ^ 256) : bitLen M ≤ 256 ∧ M * 2 ^ (256 - bitLen M) < 2 ^ 256 ∧ 2 ^ 255 ≤ M * 2 ^ (256 - bitLen M) := by
  have e : bitLen M = M.log2 + 1 := by unfold bitLen; rw [if_neg (by omega)]
  have h1 := Nat.log2_self_le (n := M) (by omega)
  have h2 : M < 2 ^ (M.log2 + 1) := Nat.lt_log2_self
  have h3 : M.log2 < 256 := (Nat.log2_lt (by omega)).2 hM
  rw [e]
  refine ⟨by omega, ?_, ?_⟩
  · have := Nat.mul_lt_mul_of_pos_right h2 (Nat.two_pow_pos (256 - (M.log2 + 1)))
    rw [← Nat.pow_add, show M.log2 + 1 + (256 - (M.log2 + 1)) = 256 by omega] at this
    exact this
  · have := Nat.mul_le_mul_right (2 ^ (256 - (M.log2 + 1))) h1
    rw [← Nat.pow_add, show M.log2 + (256 - (M.log2 + 1)) = 255 by omega] at this
    exact this
theorem yy_top (Lo H s : Nat) (hs : s ≤ 256) : yy ((H * 2 ^ 256 + Lo) * 2 ^ s) 4 = H * 2 ^ s + Lo / 2 ^ (256 - s) := by
  unfold yy
  rw [show 64 * 4 = 256 from rfl, Nat.add_mul, show H * 2 ^ 256 * 2 ^ s = 2 ^ 256 * (H * 2 ^ s) by rw [Nat.mul_right_comm, Nat.mul_comm], Nat.add_comm, div_step _ _ _ (Nat.two_pow_pos _)]
  have e : (2 : Nat) ^ 256 = 2 ^ (256 - s) * 2 ^ s := by rw [← Nat.pow_add]; congr 1; omega
  rw [e, Nat.mul_div_mul_right _ _ (Nat.two_pow_pos s)]
  omega
theorem lm_low (Lo H s k : Nat) (hk : k < 4) : lm ((H * 2 ^ 256 + Lo) * 2 ^ s) k = lm (Lo * 2 ^ s) k := by
  rw [← lm_full _ k hk, ← lm_full (Lo * 2 ^ s) k hk, Nat.add_mul, show H * 2 ^ 256 * 2 ^ s = 2 ^ 256 * (H * 2 ^ s) by rw [Nat.mul_right_comm, Nat.mul_comm], Nat.add_comm, Nat.add_mul_mod_self_left]

set_option maxRecDepth 100000 in
set_option maxHeartbeats 2000000 in
theorem divide_core (Lo H M N s bl D : Nat) (w : World) (hs : s ≤ 256) (hM : M * 2 ^ s < 2 ^ 256) (hM2 : 2 ^ 255 ≤ M * 2 ^ s) (hH : yy N 4 = H * 2 ^ s + D) (hR : yy N 4 < M * 2 ^ s) (hlo : ∀ k, k < 4 → lm (Lo * 2 ^ s) k = lm N k) (ts : (256 : Int) - (bl : Int) = (s : Int))
    (hlen : ∀ w', Calls Try.prog 61 #[.agg (natC M)] w' fun e w2 => e = .returned (.int .i64 bl) ∧ Below w'.heap.size w' w2)
    (hup : ∀ A w', Calls Try.prog 62 #[.agg (natC A), .int .i64 s] w' fun e w2 => e = .returned (.agg (natC (A * 2 ^ s))) ∧ Below w'.heap.size w' w2)
    (hdn : ∀ w', Calls Try.prog 63 #[.agg (natC Lo), .int .i64 (256 - (s : Int))] w' fun e w2 => e = .returned (.agg (natC D)) ∧ Below w'.heap.size w' w2)
    (hdr : ∀ A w', A < 2 ^ 256 → Calls Try.prog 63 #[.agg (natC A), .int .i64 s] w' fun e w2 => e = .returned (.agg (natC (A / 2 ^ s))) ∧ Below w'.heap.size w' w2) :
    Calls Try.prog 41 #[.agg (natC Lo), .agg (natC H), .agg (natC M)] w fun e w' => e = .returned (.tuple #[.agg (natC (N / (M * 2 ^ s))), .agg (natC (N % (M * 2 ^ s) / 2 ^ s))]) ∧ Below w.heap.size w w' := by
  have HM : Hid (M * 2 ^ s < 2 ^ 256 ∧ 2 ^ 255 ≤ M * 2 ^ s ∧ yy N 4 < M * 2 ^ s) := ⟨hM, hM2, hR⟩
  have HH : Hid (natC (H * 2 ^ s + D) = natC (yy N 4)) := by show _ = _; rw [hH]
  clear hM hM2 hR hH
  have r3 : Row (((((w.alloc (.cells (natC Lo) 24)).alloc (.cells (natC H) 24)).alloc (.cells (natC M) 24)).alloc (.cells (natC 0) 24)).alloc (.cells (natC 0) 24)) w.heap.size (natC Lo) 24 := (by repeat (first | (refine Row.here ?_; first | (with_reducible rfl) | (simp; done)) | refine Row.alloc ?_ _))
  have r4 : Row (((((w.alloc (.cells (natC Lo) 24)).alloc (.cells (natC H) 24)).alloc (.cells (natC M) 24)).alloc (.cells (natC 0) 24)).alloc (.cells (natC 0) 24)) (w.heap.size + 1) (natC H) 24 := (by repeat (first | (refine Row.here ?_; first | (with_reducible rfl) | (simp; done)) | refine Row.alloc ?_ _))
  have r5 : Row (((((w.alloc (.cells (natC Lo) 24)).alloc (.cells (natC H) 24)).alloc (.cells (natC M) 24)).alloc (.cells (natC 0) 24)).alloc (.cells (natC 0) 24)) (w.heap.size + 1 + 1) (natC M) 24 := (by repeat (first | (refine Row.here ?_; first | (with_reducible rfl) | (simp; done)) | refine Row.alloc ?_ _))
  have r6 : Row (((((w.alloc (.cells (natC Lo) 24)).alloc (.cells (natC H) 24)).alloc (.cells (natC M) 24)).alloc (.cells (natC 0) 24)).alloc (.cells (natC 0) 24)) (w.heap.size + 1 + 1 + 1) (natC 0) 24 := (by repeat (first | (refine Row.here ?_; first | (with_reducible rfl) | (simp; done)) | refine Row.alloc ?_ _))
  have r7 : Row (((((w.alloc (.cells (natC Lo) 24)).alloc (.cells (natC H) 24)).alloc (.cells (natC M) 24)).alloc (.cells (natC 0) 24)).alloc (.cells (natC 0) 24)) (w.heap.size + 1 + 1 + 1 + 1) (natC 0) 24 := (by repeat (first | (refine Row.here ?_; first | (with_reducible rfl) | (simp; done)) | refine Row.alloc ?_ _))
  have bW : Below w.heap.size w (((((w.alloc (.cells (natC Lo) 24)).alloc (.cells (natC H) 24)).alloc (.cells (natC M) 24)).alloc (.cells (natC 0) 24)).alloc (.cells (natC 0) 24)) := (by repeat (first | exact Below.refl _ _ | refine Below.alloc ?_ (by simp <;> omega) _))
  go_enter Try.func41, Try.ntmps41
  go_wp2_with (first
    | refine wpList_box_row rfl 24 _ rfl _ rfl ?_
    | refine wpList_alloc_row rfl 24 rfl _ zero_nat ?_
    | refine wpList_loadR rfl 24 _ rfl (w.heap.size + 1 + 1) (by first | rfl | (unfold Act.eval Act.put; simp; done) | (unfold Act.eval; simp; done)) r5 4 _ Try.underlying24 (by exact size_nat) ?_)
  refine (hlen _).mono ?_
  rintro e w1 ⟨rfl, hb1⟩
  have r3a := r3.belowAll hb1
  have r4a := r4.belowAll hb1
  have r5a := r5.belowAll hb1
  have r6a := r6.belowAll hb1
  have r7a := r7.belowAll hb1
  have b1 := below_on bW (Nat.le_refl _) hb1
  clear r3 r4 r5 r6 r7 bW hb1 hlen
  go_wp2_with (first
    | refine wpList_loadR rfl 24 _ rfl _ rfl r5a 4 _ Try.underlying24 (by exact size_nat) ?_)
  refine (hup M _).mono ?_
  rintro e w2 ⟨rfl, hb2⟩
  have r5b := r5a.belowAll hb2
  have q3 := (r3a.belowAll hb2).setRow_far (w.heap.size + 1 + 1) (natC (M * 2 ^ s)) (by omega)
  have q4 := (r4a.belowAll hb2).setRow_far (w.heap.size + 1 + 1) (natC (M * 2 ^ s)) (by omega)
  have q5 := r5b.setRow (natC (M * 2 ^ s))
  have q6 := (r6a.belowAll hb2).setRow_far (w.heap.size + 1 + 1) (natC (M * 2 ^ s)) (by omega)
  have q7 := (r7a.belowAll hb2).setRow_far (w.heap.size + 1 + 1) (natC (M * 2 ^ s)) (by omega)
  have b2 := below_setRow (below_on b1 (Nat.le_refl _) hb2) (g := w.heap.size + 1 + 1) (by omega) (natC (M * 2 ^ s))
  clear r3a r4a r5a r6a r7a b1 hb2
  go_wp2_with (first
    | refine wpList_storeR rfl 24 _ _ rfl _ _ rfl rfl r5b (by exact size_nat) (by simp only [natC_size]) (natC_one _) ?_)
  clear r5b
  generalize w2.setRow (w.heap.size + 1 + 1) (natC (M * 2 ^ s)) = w3 at *
  apply wp_region_mix (by kernel_rfl) [] [_, _, _, _, _, _, _, _, _, _, _, _, _, _] trivial List.nodup_nil
  · intro p
    refine mx_load 24 _ rfl _ rfl q4 (by simp <;> omega) 4 _ Try.underlying24 size_nat ?_
    simp only [Act.put, List.setIfInBounds_toArray, List.set_cons_zero, List.set_cons_succ]
    refine mx_move rfl rfl ?_
    simp only [Act.put, List.setIfInBounds_toArray, List.set_cons_zero, List.set_cons_succ]
    refine mx_call 62 _ _ rfl Try.func62 (by kernel_rfl) #[.agg (natC H), .int .i64 s] rfl _ (hup H) ?_
    simp only [Act.put, List.setIfInBounds_toArray, List.set_cons_zero, List.set_cons_succ]
    refine mx_load 24 _ rfl _ rfl q3 (by simp <;> omega) 4 _ Try.underlying24 size_nat ?_
    simp only [Act.put, List.setIfInBounds_toArray, List.set_cons_zero, List.set_cons_succ]
    refine mx_move rfl rfl ?_
    simp only [Act.put, List.setIfInBounds_toArray, List.set_cons_zero, List.set_cons_succ]
    refine mx_val (.int .i64 (256 - (s : Int))) (fun w' => by go_simp; rw [IntKind.wrap_i64]; omega) ?_
    simp only [Act.put, List.setIfInBounds_toArray, List.set_cons_zero, List.set_cons_succ]
    refine mx_call 63 _ _ rfl Try.func63 (by kernel_rfl) #[.agg (natC Lo), .int .i64 (256 - (s : Int))] rfl _ hdn ?_
    simp only [Act.put, List.setIfInBounds_toArray, List.set_cons_zero, List.set_cons_succ]
    refine mx_call 46 _ _ rfl Try.func46 (by kernel_rfl) #[.agg (natC (H * 2 ^ s)), .agg (natC D)] rfl _ (fun w' => nadd_any (H * 2 ^ s) D w') ?_
    simp only [Act.put, List.setIfInBounds_toArray, List.set_cons_zero, List.set_cons_succ]
    refine mx_move rfl rfl ?_
    simp only [Act.put, List.setIfInBounds_toArray, List.set_cons_zero, List.set_cons_succ]
    refine mx_ext rfl rfl rfl ?_
    simp only [Act.put, List.setIfInBounds_toArray, List.set_cons_zero, List.set_cons_succ]
    refine mx_ext rfl rfl rfl ?_
    simp only [Act.put, List.setIfInBounds_toArray, List.set_cons_zero, List.set_cons_succ]
    refine mx_new 24 rfl _ zero_nat ?_
    simp only [Act.put, List.setIfInBounds_toArray, List.set_cons_zero, List.set_cons_succ]
    refine mx_put 23 24 _ _ rfl rfl rfl (natC (H * 2 ^ s + D)) rfl (by exact size_nat) (by simp only [natC_size]) (natC_one _) ?_
    simp only [Act.put]
    refine mx_asg rfl rfl ?_
    simp only [Act.put, List.setIfInBounds_toArray, List.set_cons_zero, List.set_cons_succ]
    refine mx_end ?_
    intro w4 hkw hrw hnew _
    have r9 : Row w4 (p 11) (natC (H * 2 ^ s + D)) 24 := hrw 23 _ rfl
    have hp : w3.heap.size ≤ p 11 := hnew 11 rfl
    rw [HH.out] at r9
    have l7 := q7.lt
    clear hrw hnew HH
    generalize p 11 = q at *
    have p3 := hkw.row q3 (by simp)
    have p5 := hkw.row q5 (by simp)
    have p6 := hkw.row q6 (by simp)
    have p7 := hkw.row q7 (by simp)
    have b4 := b2.trans (hkw.below w.heap.size b2.size (by simp))
    clear q3 q4 q5 q6 q7 b2 hkw
    go_wp2_with (first
      | refine wpList_loadR rfl 24 _ rfl _ rfl p3 4 _ Try.underlying24 (by exact size_nat) ?_)
    refine (hup Lo _).mono ?_
    rintro e w5 ⟨rfl, hb5⟩
    have o3 := p3.belowAll hb5
    have lq := (r9.belowAll hb5).lt
    have z3 := ((p3.belowAll hb5).setRow (natC (Lo * 2 ^ s))).alloc (.cells (natC 0) 24)
    have z5 := ((p5.belowAll hb5).setRow_far w.heap.size (natC (Lo * 2 ^ s)) (by omega)).alloc (.cells (natC 0) 24)
    have z6 := ((p6.belowAll hb5).setRow_far w.heap.size (natC (Lo * 2 ^ s)) (by omega)).alloc (.cells (natC 0) 24)
    have z7 := ((p7.belowAll hb5).setRow_far w.heap.size (natC (Lo * 2 ^ s)) (by omega)).alloc (.cells (natC 0) 24)
    have z9 := ((r9.belowAll hb5).setRow_far w.heap.size (natC (Lo * 2 ^ s)) (by omega)).alloc (.cells (natC 0) 24)
    have zo := Row.new (w5.setRow w.heap.size (natC (Lo * 2 ^ s))) (natC 0) 24
    have b5 := below_setRow (below_on b4 (Nat.le_refl _) hb5) (g := w.heap.size) (Nat.le_refl _) (natC (Lo * 2 ^ s))
    have b6 := b5.alloc b5.size (.cells (natC 0) 24)
    rw [show (w5.setRow w.heap.size (natC (Lo * 2 ^ s))).heap.size = w5.heap.size by simp] at zo
    clear p3 p5 p6 p7 r9 b4 hb5 b5 hup hdn
    go_wp2_with (first
      | refine wpList_storeR rfl 24 _ _ rfl _ _ rfl rfl o3 (by exact size_nat) (by simp only [natC_size]) (natC_one _) ?_
      | refine wpList_alloc_row rfl 24 rfl _ zero_nat ?_)
    clear o3
    generalize (w5.setRow w.heap.size (natC (Lo * 2 ^ s))).alloc (.cells (natC 0) 24) = w6 at *
    generalize w5.heap.size = oo at *
    go_loopg [34] 4 (fun g s34 wr => ∃ j : Nat, j + g = 4 ∧ s34 = .int .i64 j ∧ Row wr w.heap.size (natC (Lo * 2 ^ s)) 24 ∧ Row wr (w.heap.size + 1 + 1) (natC (M * 2 ^ s)) 24 ∧ Row wr (w.heap.size + 1 + 1 + 1) (natC 0) 24 ∧ Row wr (w.heap.size + 1 + 1 + 1 + 1) (natC 0) 24 ∧
      Row wr q (natC (yy N g % (M * 2 ^ s))) 24 ∧ Row wr oo (natC (yy N g / (M * 2 ^ s) * 2 ^ (64 * g))) 24 ∧ Below w.heap.size w wr)
    case atStart =>
      refine ⟨0, by omega, rfl, z3, z5, z6, z7, ?_, ?_, b6⟩
      · rw [Nat.mod_eq_of_lt HM.out.2.2]; exact z9
      · rw [Nat.div_eq_of_lt HM.out.2.2, Nat.zero_mul]; exact zo
    case round =>
      obtain ⟨j, hj, rfl, r3, r5, r6, r7, r9, ro, hb⟩ := hrel
      clear z3 z5 z6 z7 z9 zo b6
      obtain ⟨hM, hM2, _⟩ := HM.out
      cases gk with
      | zero =>
        obtain rfl : j = 4 := by omega
        rw [show yy N 0 = N from Nat.div_one N] at r9 ro
        rw [show N / (M * 2 ^ s) * 2 ^ (64 * 0) = N / (M * 2 ^ s) from Nat.mul_one _] at ro
        have hlt : N % (M * 2 ^ s) < 2 ^ 256 := Nat.lt_trans (Nat.mod_lt _ (Nat.lt_of_lt_of_le (by decide) hM2)) hM
        have hdr' := fun w' => hdr (N % (M * 2 ^ s)) w' hlt
        clear hj HM hM hM2 hlt hdr hlo
        have hx : ¬ ((4 : Int) < 4) := by omega
        go_wp2_with fail
        apply wp_region_mix (by kernel_rfl) [(w.heap.size + 1 + 1 + 1, 24, natC 0), (w.heap.size + 1 + 1 + 1 + 1, 24, natC 0)] [_, _, _, _, _, _] ⟨r6, r7, trivial⟩ (by simp <;> omega)
        · intro p
          refine mx_load 24 _ rfl _ rfl ro (by simp <;> omega) 4 _ Try.underlying24 size_nat ?_
          simp only [Act.put, List.setIfInBounds_toArray, List.set_cons_zero, List.set_cons_succ]
          refine mx_load 24 _ rfl _ rfl r9 (by simp <;> omega) 4 _ Try.underlying24 size_nat ?_
          simp only [Act.put, List.setIfInBounds_toArray, List.set_cons_zero, List.set_cons_succ]
          refine mx_move rfl rfl ?_
          simp only [Act.put, List.setIfInBounds_toArray, List.set_cons_zero, List.set_cons_succ]
          refine mx_call 63 _ _ rfl Try.func63 (by kernel_rfl) #[.agg (natC (N % (M * 2 ^ s))), .int .i64 s] rfl _ hdr' ?_
          simp only [Act.put, List.setIfInBounds_toArray, List.set_cons_zero, List.set_cons_succ]
          refine mx_put 0 24 _ _ rfl rfl rfl (natC (N / (M * 2 ^ s))) rfl (by exact size_nat) (by simp only [natC_size]) (natC_one _) ?_
          simp only [Act.put]
          refine mx_put 2 24 _ _ rfl rfl rfl (natC (N % (M * 2 ^ s) / 2 ^ s)) rfl (by exact size_nat) (by simp only [natC_size]) (natC_one _) ?_
          simp only [Act.put]
          refine mx_end ?_
          intro w7 hkw hrw _ _
          have r6' : Row w7 (w.heap.size + 1 + 1 + 1) (natC (N / (M * 2 ^ s))) 24 := hrw 0 _ rfl
          have r7' : Row w7 (w.heap.size + 1 + 1 + 1 + 1) (natC (N % (M * 2 ^ s) / 2 ^ s)) 24 := hrw 2 _ rfl
          have hb1 := hb.trans (hkw.below w.heap.size hb.size (by simp <;> omega))
          go_wp2_with fail
          exact ret_rows2 rfl _ rfl r6' _ rfl r7' 4 _ Try.underlying24 (by exact size_nat) (by exact size_nat) rfl ⟨rfl, hb1⟩
        · kernel_rfl
      | succ k =>
        have hlt : (j : Int) < 4 := by omega
        have tk : (3 : Int) - (j : Int) = (k : Int) := by omega
        have hM0 : 0 < M * 2 ^ s := Nat.lt_of_lt_of_le (by decide) hM2
        have hrl := Nat.mod_lt (yy N (k + 1)) hM0
        have hlk := lm_lt N k
        have hdl := fun w' => dlimb_any (yy N (k + 1) % (M * 2 ^ s)) (lm N k) (M * 2 ^ s) w' hM hM2 hrl hlk
        obtain ⟨d1, d2⟩ := dv_step N (M * 2 ^ s) k hM0
        have hql : (yy N (k + 1) % (M * 2 ^ s) * 18446744073709551616 + lm N k) / (M * 2 ^ s) < 18446744073709551616 := by
          rw [Nat.div_lt_iff_lt_mul hM0]
          exact dl_lt _ _ _ hrl hlk
        have hqc := natC_quot (yy N (k + 1) / (M * 2 ^ s)) _ k (by omega) hql
        rw [← d1] at hqc
        rw [← d2] at hdl
        have hlk' := hlo k (by omega)
        clear hM hM2 hM0 hrl hlk d1 d2 hql hdr hlo
        go_wp2_with fail
        apply wp_region_mix (by kernel_rfl) [(q, 24, natC (yy N (k + 1) % (M * 2 ^ s))), (oo, 24, natC (yy N (k + 1) / (M * 2 ^ s) * 2 ^ (64 * (k + 1))))] [_, _, _, _, _, _, _, _, _, _, _, _, _] ⟨r9, ro, trivial⟩ (by simp <;> omega)
        · intro p
          refine mx_move rfl rfl ?_
          simp only [Act.put, List.setIfInBounds_toArray, List.set_cons_zero, List.set_cons_succ]
          refine mx_loadT 0 24 _ rfl rfl rfl 4 _ Try.underlying24 size_nat ?_
          simp only [Act.put, List.setIfInBounds_toArray, List.set_cons_zero, List.set_cons_succ]
          refine mx_move rfl rfl ?_
          simp only [Act.put, List.setIfInBounds_toArray, List.set_cons_zero, List.set_cons_succ]
          refine mx_val (.pointer (some ⟨w.heap.size, k, none⟩)) (exec_index 24 _ _ rfl (w.heap.size) rfl (k) 4 rfl (by omega) _ Try.underlying24 Try.sizeOf22) ?_
          simp only [Act.put, List.setIfInBounds_toArray, List.set_cons_zero, List.set_cons_succ]
          refine mx_loadc 22 _ rfl _ (k) rfl r3 (by simp <;> omega) (.int .u64 (lm N k)) (by rw [natC_get _ k (by omega), hlk']) Try.isAgg22 ?_
          simp only [Act.put, List.setIfInBounds_toArray, List.set_cons_zero, List.set_cons_succ]
          refine mx_load 24 _ rfl _ rfl r5 (by simp <;> omega) 4 _ Try.underlying24 size_nat ?_
          simp only [Act.put, List.setIfInBounds_toArray, List.set_cons_zero, List.set_cons_succ]
          refine mx_call 64 _ _ rfl Try.func64 (by kernel_rfl) #[.agg (natC (yy N (k + 1) % (M * 2 ^ s))), .int .u64 (lm N k), .agg (natC (M * 2 ^ s))] rfl _ hdl ?_
          simp only [Act.put, List.setIfInBounds_toArray, List.set_cons_zero, List.set_cons_succ]
          refine mx_move rfl rfl ?_
          simp only [Act.put, List.setIfInBounds_toArray, List.set_cons_zero, List.set_cons_succ]
          refine mx_ext rfl rfl rfl ?_
          simp only [Act.put, List.setIfInBounds_toArray, List.set_cons_zero, List.set_cons_succ]
          refine mx_ext rfl rfl rfl ?_
          simp only [Act.put, List.setIfInBounds_toArray, List.set_cons_zero, List.set_cons_succ]
          refine mx_val (.pointer (some ⟨oo, k, none⟩)) (exec_index 24 _ _ rfl (oo) rfl (k) 4 rfl (by omega) _ Try.underlying24 Try.sizeOf22) ?_
          simp only [Act.put, List.setIfInBounds_toArray, List.set_cons_zero, List.set_cons_succ]
          refine mx_putc 2 22 _ _ rfl (k) rfl rfl .u64 (_) rfl Try.sizeOf22 (by rw [natC_size]; omega) (natC (yy N k / (M * 2 ^ s) * 2 ^ (64 * k))) hqc ?_
          simp only [Act.put]
          refine mx_put 0 24 _ _ rfl rfl rfl (natC (yy N k % (M * 2 ^ s))) rfl (by exact size_nat) (by simp only [natC_size]) (natC_one _) ?_
          simp only [Act.put]
          refine mx_end ?_
          intro w7 hkw hrw _ _
          have r9' : Row w7 q (natC (yy N k % (M * 2 ^ s))) 24 := hrw 0 _ rfl
          have ro' : Row w7 oo (natC (yy N k / (M * 2 ^ s) * 2 ^ (64 * k))) 24 := hrw 2 _ rfl
          have r3' := hkw.row r3 (by simp <;> omega)
          have r5' := hkw.row r5 (by simp <;> omega)
          have r6' := hkw.row r6 (by simp <;> omega)
          have r7' := hkw.row r7 (by simp <;> omega)
          have hb1 := hb.trans (hkw.below w.heap.size hb.size (by simp <;> omega))
          clear r3 r5 r6 r7 r9 ro hb hkw hrw hqc hdl
          go_wp2
          go_roundg k
          case measure => omega
          case rel => exact ⟨j + 1, by omega, by go_num, r3', r5', r6', r7', r9', ro', hb1⟩
        · kernel_rfl
  · kernel_rfl
end Go.Proofs.Ytmmjjohnejimdaa
