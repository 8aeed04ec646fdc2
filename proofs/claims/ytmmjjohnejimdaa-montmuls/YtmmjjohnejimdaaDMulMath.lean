/- The document's Of: the digits of a number of 512 bits. -/
import Derived.Test.YtmmjjohnejimdaaDTypes
import Derived.Test.YtmmjjohnejimdaaMixLaws
import Derived.Test.YtmmjjohnejimdaaNSmall
namespace Go.Proofs.Ytmmjjohnejimdaa
open Go.RowKit

/-- The digits that stand behind k turns of Of's loop. -/
def ofF (L H k i : Nat) : Nat := if i < k then dg L i else if 16 ≤ i ∧ i < 16 + k then dg H (i - 16) else 0
theorem ofF_zero (L H : Nat) : digF (ofF L H 0) = digC 0 := digF_congr _ _ fun i _ => by rw [dg_zero]; unfold ofF; rw [if_neg (by omega), if_neg (by omega)]
theorem ofF_full (L H : Nat) (hL : L < 2 ^ 256) : digF (ofF L H 16) = digC (L + 2 ^ 256 * H) :=
  digC_parts L H hL _ (fun i hi => by unfold ofF; rw [if_pos hi]) (fun i hi => by unfold ofF; rw [if_neg (by omega), if_pos (by omega), show 16 + i - 16 = i by omega])
theorem ofF_step (L H k : Nat) (hk : k < 16) : ((digF (ofF L H k)).setIfInBounds k (.int .i64 (dg L k : Nat))).setIfInBounds (16 + k) (.int .i64 (dg H k : Nat)) = digF (ofF L H (k + 1)) := by
  rw [digF_set (ofF L H k) (fun i => if i = k then dg L k else ofF L H k i) k _ (fun i _ => rfl)]
  refine digF_set _ _ _ _ fun i hi => ?_
  unfold ofF
  by_cases h1 : i = 16 + k
  · subst h1
    rw [if_pos rfl, if_neg (by omega), if_pos (by omega), show 16 + k - 16 = k by omega]
  · rw [if_neg h1]
    by_cases h2 : i = k
    · subst h2; rw [if_pos rfl, if_pos (by omega)]
    · rw [if_neg h2]
      by_cases h3 : i < k
      · rw [if_pos h3, if_pos (by omega)]
      · rw [if_neg h3, if_neg (by omega)]
        by_cases h4 : 16 ≤ i ∧ i < 16 + k
        · rw [if_pos h4, if_pos (by omega)]
        · rw [if_neg h4, if_neg (by omega)]

set_option maxRecDepth 100000 in
set_option maxHeartbeats 400000 in
theorem dof_any (L H : Nat) (w : World) (hL : L < 2 ^ 256) :
    Calls Try.prog 39 #[.agg (natC L), .agg (natC H)] w fun e w' => e = .returned (.agg (digC (L + 2 ^ 256 * H))) ∧ Below w.heap.size w w' := by
  have HL : Hid (L < 2 ^ 256) := hL
  clear hL
  go_enter Try.func39, Try.ntmps39
  go_wp2_with (first
    | refine wpList_box_row rfl 24 _ rfl _ rfl ?_
    | refine wpList_alloc_row rfl 50 rfl _ zero_dig ?_
    | refine wpList_build_zero rfl 50 rfl _ built_dig ?_
    | refine wpList_store_new rfl 50 _ _ rfl _ rfl rfl _ _ (by rw [digC_size]; exact size_dig) (by simp only [digC_size]) (digC_one _) ?_)
  have s0 : Row ((((w.alloc (.cells (natC L) 24)).alloc (.cells (natC H) 24)).alloc (.cells (digC 0) 50)).alloc (.cells (digC 0) 50)) w.heap.size (natC L) 24 := (by repeat (first | (refine Row.here ?_; first | (with_reducible rfl) | (simp; done)) | refine Row.alloc ?_ _))
  have s1 : Row ((((w.alloc (.cells (natC L) 24)).alloc (.cells (natC H) 24)).alloc (.cells (digC 0) 50)).alloc (.cells (digC 0) 50)) (w.heap.size + 1) (natC H) 24 := (by repeat (first | (refine Row.here ?_; first | (with_reducible rfl) | (simp; done)) | refine Row.alloc ?_ _))
  have s2 : Row ((((w.alloc (.cells (natC L) 24)).alloc (.cells (natC H) 24)).alloc (.cells (digC 0) 50)).alloc (.cells (digC 0) 50)) (w.heap.size + 1 + 1) (digC 0) 50 := (by repeat (first | (refine Row.here ?_; first | (with_reducible rfl) | (simp; done)) | refine Row.alloc ?_ _))
  have s3 : Row ((((w.alloc (.cells (natC L) 24)).alloc (.cells (natC H) 24)).alloc (.cells (digC 0) 50)).alloc (.cells (digC 0) 50)) (w.heap.size + 1 + 1 + 1) (digC 0) 50 := (by repeat (first | (refine Row.here ?_; first | (with_reducible rfl) | (simp; done)) | refine Row.alloc ?_ _))
  have s4 : Below w.heap.size w ((((w.alloc (.cells (natC L) 24)).alloc (.cells (natC H) 24)).alloc (.cells (digC 0) 50)).alloc (.cells (digC 0) 50)) := (by repeat (first | exact Below.refl _ _ | refine Below.alloc ?_ (by simp <;> omega) _))
  generalize ((((w.alloc (.cells (natC L) 24)).alloc (.cells (natC H) 24)).alloc (.cells (digC 0) 50)).alloc (.cells (digC 0) 50)) = W at *
  go_loopg [6] 16 (fun g s6 wr => ∃ k : Nat, k + g = 16 ∧ s6 = .int .i64 k ∧ Row wr w.heap.size (natC L) 24 ∧ Row wr (w.heap.size + 1) (natC H) 24 ∧ Row wr (w.heap.size + 1 + 1) (digC 0) 50 ∧ Row wr (w.heap.size + 1 + 1 + 1) (digF (ofF L H k)) 50 ∧ Below w.heap.size w wr)
  case atStart => exact ⟨0, by omega, rfl, s0, s1, s2, by rw [ofF_zero]; exact s3, s4⟩
  case round =>
    obtain ⟨k, hk, rfl, r0, r1, r2, r3, hb⟩ := hrel
    clear s0 s1 s2 s3 s4
    cases gk with
    | zero =>
      obtain rfl : k = 16 := by omega
      rw [ofF_full L H HL.out] at r3
      clear hk
      have hx : ¬ ((16 : Int) < 16) := by omega
      go_wp2_with (first
        | refine wpList_loadR rfl 50 _ rfl _ rfl r3 32 _ Try.underlying50 (by rw [digC_size]; exact size_dig) ?_
        | refine wpList_storeR rfl 50 _ _ rfl _ _ rfl rfl r2 (by rw [digC_size]; exact size_dig) (by simp only [digC_size]) (digC_one _) ?_)
      exact ret_row rfl _ rfl (r2.setRow _) 32 _ Try.underlying50 (by rw [digC_size]; exact size_dig) rfl ⟨rfl, below_setRow hb (by omega) _⟩
    | succ g =>
      have hlt : (k : Int) < 16 := by omega
      have hc0 := cell_nat r0 (k / 4) (by omega)
      have hc1 := cell_nat r1 (k / 4) (by omega)
      have hc3 := cell_digF r3 k (by omega)
      have hc4 := cell_digF r3 (16 + k) (by omega)
      have hf3 := r3.frozen k
      have hf4 := r3.frozen (16 + k)
      have hl := lm_lt L (k / 4)
      have hh := lm_lt H (k / 4)
      have R : Aside (Row wr w.heap.size (natC L) 24 ∧ Row wr (w.heap.size + 1) (natC H) 24 ∧ Row wr (w.heap.size + 1 + 1) (digC 0) 50 ∧ Row wr (w.heap.size + 1 + 1 + 1) (digF (ofF L H k)) 50 ∧ Below w.heap.size w wr) := ⟨r0, r1, r2, r3, hb⟩
      have e1 := limb_digit L k
      have e2 := limb_digit H k
      have d1 := dg_lt L k
      have d2 := dg_lt H k
      clear r0 r1 r2 r3 hb
      go_wp2
      obtain ⟨r0, r1, r2, r3, hb⟩ := R.out
      go_roundg g
      case measure => omega
      case rel =>
        refine ⟨k + 1, by omega, by go_num, (r0.setCell_far _ _ _ (by omega)).setCell_far _ _ _ (by omega), (r1.setCell_far _ _ _ (by omega)).setCell_far _ _ _ (by omega), (r2.setCell_far _ _ _ (by omega)).setCell_far _ _ _ (by omega), ?_, below_setCell (below_setCell hb (by omega) _ _) (by omega) _ _⟩
        have := (r3.setCell k (.int .i64 (dg L k : Nat))).setCell (16 + k) (.int .i64 (dg H k : Nat))
        rw [ofF_step L H k (by omega)] at this
        exact this
end Go.Proofs.Ytmmjjohnejimdaa
/- The document's Nats: the lower, and the higher 256 bits of digits. -/
namespace Go.Proofs.Ytmmjjohnejimdaa
open Go.RowKit

set_option maxRecDepth 100000 in
set_option maxHeartbeats 1000000 in
theorem nats_any (N : Nat) (w : World) :
    Calls Try.prog 40 #[.agg (digC N)] w fun e w' => e = .returned (.tuple #[.agg (natC N), .agg (natC (N / 2 ^ 256))]) ∧ Below w.heap.size w w' := by
  have H : Hid (∀ k, dg N (16 + k) = dg (N / 2 ^ 256) k) := high_mod N
  generalize N / 2 ^ 256 = T at *
  have s0 : Row (((((w.alloc (.cells (digC N) 50)).alloc (.cells (natC 0) 24)).alloc (.cells (natC 0) 24)).alloc (.cells (natC 0) 24)).alloc (.cells (natC 0) 24)) w.heap.size (digC N) 50 := (((((Row.here (by first | rfl | simp only [alloc_size])).alloc _).alloc _).alloc _).alloc _)
  have s1 : Row (((((w.alloc (.cells (digC N) 50)).alloc (.cells (natC 0) 24)).alloc (.cells (natC 0) 24)).alloc (.cells (natC 0) 24)).alloc (.cells (natC 0) 24)) (w.heap.size + 1) (natC 0) 24 := ((((Row.here (by first | rfl | simp only [alloc_size])).alloc _).alloc _).alloc _)
  have s2 : Row (((((w.alloc (.cells (digC N) 50)).alloc (.cells (natC 0) 24)).alloc (.cells (natC 0) 24)).alloc (.cells (natC 0) 24)).alloc (.cells (natC 0) 24)) (w.heap.size + 1 + 1) (natC 0) 24 := (((Row.here (by first | rfl | simp only [alloc_size])).alloc _).alloc _)
  have s3 : Row (((((w.alloc (.cells (digC N) 50)).alloc (.cells (natC 0) 24)).alloc (.cells (natC 0) 24)).alloc (.cells (natC 0) 24)).alloc (.cells (natC 0) 24)) (w.heap.size + 1 + 1 + 1) (natC 0) 24 := ((Row.here (by first | rfl | simp only [alloc_size])).alloc _)
  have s4 : Row (((((w.alloc (.cells (digC N) 50)).alloc (.cells (natC 0) 24)).alloc (.cells (natC 0) 24)).alloc (.cells (natC 0) 24)).alloc (.cells (natC 0) 24)) (w.heap.size + 1 + 1 + 1 + 1) (natC 0) 24 := (Row.here (by first | rfl | simp only [alloc_size]))
  have s4' := s4.setRow_far (w.heap.size + 1 + 1 + 1) (natC 0) (by omega)
  have sb : Below w.heap.size w (((((w.alloc (.cells (digC N) 50)).alloc (.cells (natC 0) 24)).alloc (.cells (natC 0) 24)).alloc (.cells (natC 0) 24)).alloc (.cells (natC 0) 24)) := (by repeat (first | exact Below.refl _ _ | refine Below.alloc ?_ (by simp <;> omega) _))
  go_enter Try.func40, Try.ntmps40
  go_wp2_with (first
    | refine wpList_box_row rfl 50 _ rfl _ rfl ?_
    | refine wpList_alloc_row rfl 24 rfl _ zero_nat ?_
    | refine wpList_build_zero rfl 24 rfl _ built_nat ?_
    | refine wpList_storeR rfl 24 _ _ rfl (w.heap.size + 1 + 1 + 1) _ (by first | rfl | (unfold Act.eval Act.put; simp; done) | (unfold Act.eval; simp; done)) rfl s3 (by exact size_nat) (by simp only [natC_size]) (natC_one _) ?_
    | refine wpList_storeR rfl 24 _ _ rfl (w.heap.size + 1 + 1 + 1 + 1) _ (by first | rfl | (unfold Act.eval Act.put; simp; done) | (unfold Act.eval; simp; done)) rfl s4' (by exact size_nat) (by simp only [natC_size]) (natC_one _) ?_)
  have t0 := (s0.setRow_far (w.heap.size + 1 + 1 + 1) (natC 0) (by omega)).setRow_far (w.heap.size + 1 + 1 + 1 + 1) (natC 0) (by omega)
  have t1 := (s1.setRow_far (w.heap.size + 1 + 1 + 1) (natC 0) (by omega)).setRow_far (w.heap.size + 1 + 1 + 1 + 1) (natC 0) (by omega)
  have t2 := (s2.setRow_far (w.heap.size + 1 + 1 + 1) (natC 0) (by omega)).setRow_far (w.heap.size + 1 + 1 + 1 + 1) (natC 0) (by omega)
  have t3 := (s3.setRow (natC 0)).setRow_far (w.heap.size + 1 + 1 + 1 + 1) (natC 0) (by omega)
  have t4 := s4'.setRow (natC 0)
  have tb := below_setRow (below_setRow sb (g := w.heap.size + 1 + 1 + 1) (by omega) (natC 0)) (g := w.heap.size + 1 + 1 + 1 + 1) (by omega) (natC 0)
  clear s0 s1 s2 s3 s4 s4' sb
  generalize (World.setRow (World.setRow (((((w.alloc (.cells (digC N) 50)).alloc (.cells (natC 0) 24)).alloc (.cells (natC 0) 24)).alloc (.cells (natC 0) 24)).alloc (.cells (natC 0) 24)) (w.heap.size + 1 + 1 + 1) (natC 0)) (w.heap.size + 1 + 1 + 1 + 1) (natC 0)) = W at *
  go_loopg [6] 16 (fun g s6 wr => ∃ k : Nat, k + g = 16 ∧ s6 = .int .i64 k ∧ Row wr w.heap.size (digC N) 50 ∧ Row wr (w.heap.size + 1) (natC 0) 24 ∧ Row wr (w.heap.size + 1 + 1) (natC 0) 24 ∧ Row wr (w.heap.size + 1 + 1 + 1) (natC (N % 2 ^ (16 * k))) 24 ∧ Row wr (w.heap.size + 1 + 1 + 1 + 1) (natC (T % 2 ^ (16 * k))) 24 ∧ Below w.heap.size w wr)
  case atStart => exact ⟨0, by omega, rfl, t0, t1, t2, by rw [Nat.mul_zero, Nat.pow_zero, Nat.mod_one]; exact t3, by rw [Nat.mul_zero, Nat.pow_zero, Nat.mod_one]; exact t4, tb⟩
  case round =>
    obtain ⟨k, hk, rfl, r0, r1, r2, r3, r4, hb⟩ := hrel
    clear t0 t1 t2 t3 t4 tb
    cases gk with
    | zero =>
      obtain rfl : k = 16 := by omega
      rw [show 16 * 16 = 256 from rfl, natC_full] at r3 r4
      clear hk H
      have hx : ¬ ((16 : Int) < 16) := by omega
      go_wp2
      apply wp_region_mix (by kernel_rfl) [(w.heap.size + 1, 24, natC 0), (w.heap.size + 1 + 1, 24, natC 0)] [_, _, _, _] ⟨r1, r2, trivial⟩ (by simp <;> omega)
      · intro p
        refine mx_load 24 _ rfl _ rfl r3 (by simp <;> omega) 4 _ Try.underlying24 size_nat ?_
        simp only [Act.put, List.setIfInBounds_toArray, List.set_cons_zero, List.set_cons_succ]
        refine mx_load 24 _ rfl _ rfl r4 (by simp <;> omega) 4 _ Try.underlying24 size_nat ?_
        simp only [Act.put, List.setIfInBounds_toArray, List.set_cons_zero, List.set_cons_succ]
        refine mx_put 0 24 _ _ rfl rfl rfl (natC N) rfl (by exact size_nat) (by simp only [natC_size]) (natC_one _) ?_
        simp only [Act.put]
        refine mx_put 2 24 _ _ rfl rfl rfl (natC T) rfl (by exact size_nat) (by simp only [natC_size]) (natC_one _) ?_
        simp only [Act.put]
        refine mx_end ?_
        intro w7 hkw hrw _ _
        have e1 : Row w7 (w.heap.size + 1) (natC N) 24 := hrw 0 _ rfl
        have e2 : Row w7 (w.heap.size + 1 + 1) (natC T) 24 := hrw 2 _ rfl
        have b7 := hb.trans (hkw.below w.heap.size hb.size (by simp <;> omega))
        go_wp2
        exact ret_rows2 rfl _ rfl e1 _ rfl e2 4 _ Try.underlying24 (by exact size_nat) (by exact size_nat) rfl ⟨rfl, b7⟩
      · kernel_rfl
    | succ g =>
      have hlt : (k : Int) < 16 := by omega
      have hc0 := cell_dig r0 k (by omega)
      have hc0' := cell_dig r0 (16 + k) (by omega)
      rw [H.out] at hc0'
      have hc3 := cell_nat r3 (k / 4) (by omega)
      have hf3 := r3.frozen (k / 4)
      have hc4 := cell_nat r4 (k / 4) (by omega)
      have hf4 := r4.frozen (k / 4)
      have h3 := lm_lt (N % 2 ^ (16 * k)) (k / 4)
      have h4 := lm_lt (T % 2 ^ (16 * k)) (k / 4)
      have d1 := dg_lt N k
      have d2 := dg_lt T k
      have R : Aside (Row wr w.heap.size (digC N) 50 ∧ Row wr (w.heap.size + 1) (natC 0) 24 ∧ Row wr (w.heap.size + 1 + 1) (natC 0) 24 ∧ Row wr (w.heap.size + 1 + 1 + 1) (natC (N % 2 ^ (16 * k))) 24 ∧ Row wr (w.heap.size + 1 + 1 + 1 + 1) (natC (T % 2 ^ (16 * k))) 24 ∧ Below w.heap.size w wr) := ⟨r0, r1, r2, r3, r4, hb⟩
      clear r0 r1 r2 r3 r4 hb
      go_wp2
      go_region
      go_wp2
      go_region
      go_wp2
      obtain ⟨r0, r1, r2, r3, r4, hb⟩ := R.out
      go_roundg g
      case measure => omega
      case rel =>
        rw [or_digit _ _ _ h3 d1 (by omega), or_digit _ _ _ h4 d2 (by omega)]
        refine ⟨k + 1, by omega, by go_num, ((r0.setCell_far _ _ _ (by omega)).setCell_far _ _ _ (by omega)).drew.drew, ((r1.setCell_far _ _ _ (by omega)).setCell_far _ _ _ (by omega)).drew.drew, ((r2.setCell_far _ _ _ (by omega)).setCell_far _ _ _ (by omega)).drew.drew, ?_, ?_, (below_setCell (below_setCell hb (by omega) _ _) (by omega) _ _).drew.drew⟩
        · have := r3.setCell (k / 4) (.int .u64 ((lm (N % 2 ^ (16 * k)) (k / 4) ||| dg N k * 2 ^ (16 * (k % 4)) : Nat) : Int))
          rw [natC_digit N k (by omega)] at this
          exact (this.setCell_far _ _ _ (by omega)).drew.drew
        · have := (r4.setCell_far (w.heap.size + 1 + 1 + 1) (k / 4) (.int .u64 ((lm (N % 2 ^ (16 * k)) (k / 4) ||| dg N k * 2 ^ (16 * (k % 4)) : Nat) : Int)) (by omega)).setCell (k / 4) (.int .u64 ((lm (T % 2 ^ (16 * k)) (k / 4) ||| dg T k * 2 ^ (16 * (k % 4)) : Nat) : Int))
          rw [natC_digit T k (by omega)] at this
          exact this.drew.drew
end Go.Proofs.Ytmmjjohnejimdaa
/- Plain mathematics: a product digit by digit. -/
namespace Go.Proofs.Ytmmjjohnejimdaa

/-- The digits of a number whose digit m is named. -/
theorem dg_put (low m d h j : Nat) (hl : low < 2 ^ (16 * m)) (hd : d < 65536) :
    dg (low + 2 ^ (16 * m) * (d + 65536 * h)) j = if j < m then dg low j else if j = m then d else dg h (j - m - 1) := by
  by_cases h1 : j < m
  · rw [if_pos h1]
    have e := dg_mod (low + 2 ^ (16 * m) * (d + 65536 * h)) m j
    rw [if_pos h1, Nat.add_mul_mod_self_left, Nat.mod_eq_of_lt hl] at e
    exact e.symm
  · rw [if_neg h1]
    have hP := Nat.two_pow_pos (16 * m)
    by_cases h2 : j = m
    · subst h2
      rw [if_pos rfl]
      unfold dg
      rw [Nat.add_mul_div_left _ _ hP, Nat.div_eq_of_lt hl]
      omega
    · rw [if_neg h2]
      unfold dg
      obtain ⟨n, rfl⟩ : ∃ n, j = m + 1 + n := ⟨j - m - 1, by omega⟩
      rw [show 16 * (m + 1 + n) = 16 * m + (16 + 16 * n) by omega, Nat.pow_add, ← Nat.div_div_eq_div_mul, Nat.add_mul_div_left _ _ hP, Nat.div_eq_of_lt hl, Nat.pow_add, ← Nat.div_div_eq_div_mul,
        show (0 + (d + 65536 * h)) / 2 ^ 16 = h by omega, show m + 1 + n - m - 1 = n by omega]
/-- A number with another digit m. -/
def putD (U m d : Nat) : Nat := U % 2 ^ (16 * m) + 2 ^ (16 * m) * (d + 65536 * (U / 2 ^ (16 * m) / 65536))
theorem putD_is (U m : Nat) : U = U % 2 ^ (16 * m) + 2 ^ (16 * m) * (dg U m + 65536 * (U / 2 ^ (16 * m) / 65536)) := by
  have h1 := Nat.div_add_mod U (2 ^ (16 * m))
  have h2 : dg U m + 65536 * (U / 2 ^ (16 * m) / 65536) = U / 2 ^ (16 * m) := by unfold dg; omega
  rw [h2]; omega
theorem putD_cells (U m d : Nat) (hd : d < 65536) : (digC U).setIfInBounds m (.int .i64 (d : Nat)) = digC (putD U m d) := by
  refine digF_set _ _ _ _ fun i _ => ?_
  have hl := Nat.mod_lt U (Nat.two_pow_pos (16 * m))
  unfold putD
  rw [dg_put _ m d _ i hl hd]
  by_cases h1 : i = m
  · subst h1; rw [if_neg (by omega), if_pos rfl, if_pos rfl]
  · have e := putD_is U m
    have e2 : dg U i = dg (U % 2 ^ (16 * m) + 2 ^ (16 * m) * (dg U m + 65536 * (U / 2 ^ (16 * m) / 65536))) i := by rw [← e]
    rw [e2, dg_put _ m _ _ i hl (dg_lt _ _)]
    by_cases h2 : i < m
    · rw [if_pos h2, if_pos h2, if_neg h1]
    · rw [if_neg h2, if_neg h2, if_neg h1, if_neg h1, if_neg h1]
theorem putD_sum (U m d x : Nat) (hx : x = dg U m) : putD U m d + 2 ^ (16 * m) * x = U + 2 ^ (16 * m) * d := by
  subst hx
  have e := putD_is U m
  unfold putD
  generalize U / 2 ^ (16 * m) / 65536 = h at *
  rw [Nat.mul_add] at e ⊢
  omega
theorem putD_lt (U m d n : Nat) (hd : d < 65536) (hm : m < n) (hU : U < 2 ^ (16 * n)) : putD U m d < 2 ^ (16 * n) := by
  have hP := Nat.two_pow_pos (16 * m)
  have hl := Nat.mod_lt U hP
  have e : 2 ^ (16 * n) = 2 ^ (16 * m) * (65536 * 2 ^ (16 * (n - m - 1))) := by
    rw [show 65536 = 2 ^ 16 from rfl, ← Nat.pow_add, ← Nat.pow_add]
    congr 1; omega
  rw [e] at hU ⊢
  have h1 : U / 2 ^ (16 * m) < 65536 * 2 ^ (16 * (n - m - 1)) := Nat.div_lt_of_lt_mul hU
  have h2 : U / 2 ^ (16 * m) / 65536 < 2 ^ (16 * (n - m - 1)) := Nat.div_lt_of_lt_mul h1
  unfold putD
  generalize U / 2 ^ (16 * m) / 65536 = h at *
  generalize 2 ^ (16 * (n - m - 1)) = Q at *
  have h3 : 2 ^ (16 * m) * (d + 65536 * h + 1) ≤ 2 ^ (16 * m) * (65536 * Q) := Nat.mul_le_mul_left _ (by omega)
  rw [Nat.mul_add _ _ 1] at h3
  omega
/-- What holds behind k turns of the inner loop. -/
def Sm (A B i k U c : Nat) : Prop := U + 2 ^ (16 * (i + k)) * c = A % 2 ^ (16 * i) * B + dg A i * (B % 2 ^ (16 * k)) * 2 ^ (16 * i) ∧ U < 2 ^ (16 * (i + 16)) ∧ c < 65536
theorem sm_first (A B i U : Nat) (hU : U = A % 2 ^ (16 * i) * B) (hB : B < 2 ^ (16 * 16)) : Sm A B i 0 U 0 := by
  refine ⟨?_, ?_, by decide⟩
  · rw [Nat.mul_zero, Nat.mul_zero, Nat.pow_zero, Nat.mod_one, Nat.mul_zero, Nat.zero_mul]; exact congrArg (· + 0) hU
  · rw [hU, Nat.mul_add, Nat.pow_add]
    have hl := Nat.mod_lt A (Nat.two_pow_pos (16 * i))
    rcases Nat.eq_zero_or_pos B with h0 | h0
    · rw [h0, Nat.mul_zero]; exact Nat.mul_pos (Nat.two_pow_pos _) (Nat.two_pow_pos _)
    · exact Nat.mul_lt_mul_of_lt_of_lt hl hB
theorem sm_next (A B i k U c t : Nat) (hk : k < 16) (h : Sm A B i k U c) (ht : t = dg U (i + k) + dg A i * dg B k + c) :
    t < 4294967296 ∧ Sm A B i (k + 1) (putD U (i + k) (t % 65536)) (t / 65536) := by
  obtain ⟨h1, h2, h3⟩ := h
  have a1 := dg_lt A i
  have b1 := dg_lt B k
  have u1 := dg_lt U (i + k)
  have m1 : dg A i * dg B k ≤ 65535 * 65535 := Nat.mul_le_mul (by omega) (by omega)
  have hs := putD_sum U (i + k) (t % 65536) _ rfl
  have hlt := putD_lt U (i + k) (t % 65536) (i + 16) (by omega) (by omega) h2
  refine ⟨by omega, ?_, hlt, by omega⟩
  rw [show i + (k + 1) = i + k + 1 by omega, pow_digit, mod_digit B k, Nat.mul_add (dg A i), Nat.add_mul (dg A i * _), ← Nat.add_assoc, ← h1]
  have e1 : dg A i * (2 ^ (16 * k) * dg B k) * 2 ^ (16 * i) = 2 ^ (16 * (i + k)) * (dg A i * dg B k) := by
    rw [Nat.mul_add, Nat.pow_add, Nat.mul_left_comm (dg A i), Nat.mul_comm _ (2 ^ (16 * i)), ← Nat.mul_assoc]
  rw [e1]
  generalize 2 ^ (16 * (i + k)) = Z at *
  generalize putD U (i + k) (t % 65536) = V at *
  generalize dg U (i + k) = u at *
  generalize dg A i * dg B k = p at *
  have e2 : Z * 65536 * (t / 65536) + Z * (t % 65536) = Z * t := by
    rw [Nat.mul_assoc, ← Nat.mul_add, Nat.div_add_mod]
  have e3 : Z * t = Z * u + Z * p + Z * c := by rw [ht, Nat.mul_add, Nat.mul_add]
  omega
theorem sm_last (A B i U c : Nat) (hB : B < 2 ^ (16 * 16)) (h : Sm A B i 16 U c) : (digC U).setIfInBounds (i + 16) (.int .i64 (c : Nat)) = digC (A % 2 ^ (16 * (i + 1)) * B) := by
  obtain ⟨h1, h2, h3⟩ := h
  rw [putD_cells U (i + 16) c h3]
  congr 1
  unfold putD
  rw [Nat.mod_eq_of_lt h2, Nat.div_eq_of_lt h2, Nat.zero_div, Nat.mul_zero, Nat.add_zero c, h1, Nat.mod_eq_of_lt hB, mod_digit, Nat.add_mul, Nat.mul_comm (2 ^ (16 * i)), Nat.mul_assoc (dg A i), Nat.mul_assoc (dg A i), Nat.mul_comm B]
end Go.Proofs.Ytmmjjohnejimdaa
