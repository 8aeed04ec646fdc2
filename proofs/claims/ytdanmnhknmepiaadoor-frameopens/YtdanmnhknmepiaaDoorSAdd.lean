/- A Hash's filled and Add. -/
import Derived.Test.YtdanmnhknmepiaaDoorSHash
namespace Go.Proofs.YtdanmnhknmepiaaDoor
open Go.RowKit
set_option linter.unusedVariables false
theorem bf_take (l : List UInt8) (n i : Nat) (h : i < n) : bf (l.take n) i = bf l i := by
 unfold bf; rw [List.getD_eq_getElem?_getD, List.getD_eq_getElem?_getD, List.getElem?_take_of_lt h]
theorem cp_full (L : List UInt8) (B : Nat → Nat) (F j : Nat) (hF : F < 64) (hle : 64 * (j + 1) ≤ L.length) (hB : ∀ i, i < F → B i = bf L (64 * j + i)) :
  ∀ i, i < 64 → cpB B F ((L.drop (64 * j + F)).take (64 - F)) i = bf L (64 * j + i) := by
 intro i hi
 have hl : ((L.drop (64 * j + F)).take (64 - F)).length = 64 - F := by rw [List.length_take, List.length_drop]; omega
 unfold cpB
 rw [hl]
 by_cases h : F ≤ i
 ·rw [if_pos (by omega), bf_take _ _ _ (by omega), bf_drop, show 64 * j + F + (i - F) = 64 * j + i by omega]
 ·rw [if_neg (by omega), hB i (by omega)]
theorem cp_rest (L : List UInt8) (B : Nat → Nat) (F j q : Nat) (hq : 64 * j + F + q = L.length) (hB : ∀ i, i < F → B i = bf L (64 * j + i)) :
  ∀ i, i < F + q → cpB B F ((L.drop (64 * j + F)).take q) i = bf L (64 * j + i) := by
 intro i hi
 have hl : ((L.drop (64 * j + F)).take q).length = q := by rw [List.length_take, List.length_drop]; omega
 unfold cpB
 rw [hl]
 by_cases h : F ≤ i
 ·rw [if_pos (by omega), bf_take _ _ _ (by omega), bf_drop, show 64 * j + F + (i - F) = 64 * j + i by omega]
 ·rw [if_neg (by omega), hB i (by omega)]
theorem cpB_lt {B : Nat → Nat} (h : ∀ i, B i < 256) (F : Nat) (l : List UInt8) (i : Nat) : cpB B F l i < 256 := by
 unfold cpB
 split
 ·exact bf_lt _ _
 ·exact h i
/-- The block holds what stands behind the full blocks of a text. -/
structure HS (l : List UInt8) (B : Nat → Nat) : Prop where
 b : ∀ i, i < l.length % 64 → B i = bf l (64 * (l.length / 64) + i)
 lt : ∀ i, B i < 256
set_option maxRecDepth 100000 in
set_option maxHeartbeats 2000000 in
theorem filled_any (q : Bool) (v B : Nat → Nat) (c g0 : Nat) (w : World) (r0 : Row w g0 (hC q v B c) 56) :
  Calls Tryd.prog 35 #[.pointer (some ⟨g0, 0, none⟩)] w fun e w' => e = .returned (.int .i64 (c % 64 : Nat)) ∧ Below w.heap.size w w' := by
 go_enter Tryd.func35, Tryd.ntmps35
 (repeat ((fail_if_success with_reducible refine rg ?_); go_step))
 apply wp_region_mixp [] [_] trivial List.nodup_nil
 ·intro p
  refine mx_val (.int .i64 0) (fun _ => rfl) ?_
  simp only [Act.put, pu]
  refine mx_end ?_
  intro w2 hkw hrw hnew hdis
  replace r0 := hkw.row r0 (by simp <;> omega)
  have sb := hkw.below w.heap.size (Nat.le_refl _) (by simp)
  clear hkw hrw hnew hdis
  (repeat ((fail_if_success with_reducible refine rg ?_); go_step))
  refine wp_region_qp ?_
  refine qw_move (by rfl) rfl rfl ?_
  simp only [Act.put, pu]
  refine qw_value (by rfl) (.pointer (some ⟨g0, 0, none⟩)) (exec_nil _ rfl g0 0 rfl) ?_
  simp only [Act.put, pu]
  refine qw_value (by rfl) (.pointer (some ⟨g0, 73, none⟩)) (exec_field 56 _ 3 rfl g0 0 rfl _ Tryd.underlying56 _ rfl 0 Tryd.sizeOf54) ?_
  simp only [Act.put, pu]
  refine qw_loadc (by rfl) 54 _ rfl _ (73) rfl r0 (.int .u64 (c : Nat)) (hC_get _ _ _ _ 73 (by omega)) Tryd.isAgg54 ?_
  simp only [Act.put, pu]
  refine qw_value (by rfl) (.int .u64 (c % 64 : Nat)) (x64_rem _ _ _ _ rfl c 64 rfl rfl (by omega)) ?_
  simp only [Act.put, pu]
  refine qw_value (by rfl) (.int .i64 (c % 64 : Nat)) (x_conv _ _ _ rfl .u64 .i64 Tryd.underlying54 Tryd.underlying3 ((c % 64 : Nat) : Int) _ rfl (wrap_i64 _ (by omega))) ?_
  simp only [Act.put, pu]
  refine qw_asg (by rfl) rfl rfl ?_
  simp only [Act.put, pu]
  refine qw_nil ?_
  intro w3 hqb
  replace sb := below_on sb (Nat.le_refl _) hqb
  clear hqb
  go_wp2
  go_ret
  exact ⟨rfl, sb⟩
 ·rfl
/-- What Add holds on to. -/
structure AdH (wr w : World) (g N : Nat) (L : List UInt8) (j F : Nat) (B : Nat → Nat) : Prop where
 r : Row wr g (hC true (ab (bf L) j) B N) 56
 b : ∀ i, i < F → B i = bf L (64 * j + i)
 lt : ∀ i, B i < 256
 kept : Kept [g] w wr
set_option maxRecDepth 100000 in
set_option maxHeartbeats 2000000 in
theorem add_core (L : List UInt8) (B : Nat → Nat) (N m f0 ls g0 : Nat) (w : World) (hN : L.length = N) (hNl : N < 1152921504606846976) (hm : N = 64 * m + f0 + ls) (hf : f0 < 64) (hB : ∀ i, i < f0 → B i = bf L (64 * m + i)) (hlt : ∀ i, B i < 256)
  (r0 : Row w g0 (hC true (ab (bf L) m) B (64 * m + f0)) 56) (kT : KT w) (hg : 0 ≠ g0) :
  Calls Tryd.prog 31 #[.pointer (some ⟨g0, 0, none⟩), .string ⟨(L.drop (64 * m + f0)).toArray⟩] w fun e w' => e = .returned (.tuple #[]) ∧
   ∃ B', HS L B' ∧ Row w' g0 (hC true (ab (bf L) (N / 64)) B' N) 56 ∧ Kept [g0] w w' := by
 have sk := Kept.refl [g0] w
 have hls : (L.drop (64 * m + f0)).length = ls := by rw [List.length_drop]; omega
 have hsz : (⟨(L.drop (64 * m + f0)).toArray⟩ : ByteArray).size = ls := by simp only [ByteArray.size, List.size_toArray]; exact hls
 have hr0 : (64 * m + f0) % 64 = f0 := by omega
 go_enter Tryd.func31, Tryd.ntmps31
 (repeat ((fail_if_success with_reducible refine rg ?_); go_step))
 refine wp_region_qp ?_
 refine qw_move (by rfl) rfl rfl ?_
 simp only [Act.put, pu]
 refine qw_value (by rfl) (.bool false) (x_nilp _ _ _ _ rfl (some ⟨g0, 0, none⟩) rfl rfl _ Tryd.underlying46) ?_
 simp only [Act.put, pu]
 refine qw_move (by rfl) rfl rfl ?_
 simp only [Act.put, pu]
 refine qw_move (by rfl) rfl rfl ?_
 simp only [Act.put, pu]
 refine qw_value (by rfl) (.pointer (some ⟨g0, 0, none⟩)) (exec_nil _ rfl g0 0 rfl) ?_
 simp only [Act.put, pu]
 refine qw_value (by rfl) (.pointer (some ⟨g0, 0, none⟩)) (exec_field 56 _ 0 rfl g0 0 rfl _ Tryd.underlying56 _ rfl 0 Tryd.sizeOf4) ?_
 simp only [Act.put, pu]
 refine qw_loadc (by rfl) 4 _ rfl _ (0) rfl r0 (.bool true) (hC_get _ _ _ _ 0 (by omega)) Tryd.isAgg4 ?_
 simp only [Act.put, pu]
 refine qw_value (by rfl) (.bool false) (exec_not _ _ rfl true rfl) ?_
 simp only [Act.put, pu]
 refine qw_pick false (v := .bool false) (by rfl) rfl rfl rfl ?_
 simp only [Act.put, pu]
 refine qw_nil ?_
 intro w2 hqb
 replace r0 := r0.belowAll hqb
 replace sk := sk.on hqb
 clear hqb
 (repeat ((fail_if_success with_reducible refine rg ?_); go_step))
 apply wp_region_mixp [] [_, _, _] trivial List.nodup_nil
 ·intro p
  refine mx_move rfl rfl ?_
  simp only [Act.put, pu]
  refine mx_callK 35 _ _ rfl Tryd.func35 (by kernel_rfl) #[.pointer (some ⟨g0, 0, none⟩)] rfl _ (fun w' hk => filled_any _ _ _ _ g0 w' (hk.row r0 (by simp))) ?_
  simp only [Act.put, pu]
  refine mx_asg rfl rfl ?_
  simp only [Act.put, pu]
  refine mx_end ?_
  intro w3 hkw hrw hnew hdis
  replace r0 := hkw.row r0 (by simp <;> omega)
  replace sk := sk.trans hkw (by simp)
  clear hkw hrw hnew hdis
  rw [hr0]
  (repeat ((fail_if_success with_reducible refine rg ?_); go_step))
  apply wp_region_mixp [(g0, 56, hC true (ab (bf L) m) B (64 * m + f0))] [_, _, _, _, _, _, _, _, _, _, _] ⟨r0, trivial⟩ (by simp <;> omega)
  ·intro p
   refine mx_move rfl rfl ?_
   simp only [Act.put, pu]
   refine mx_val (.pointer (some ⟨g0, 0, none⟩)) (exec_nil _ rfl g0 0 rfl) ?_
   simp only [Act.put, pu]
   refine mx_val (.pointer (some ⟨g0, 73, none⟩)) (exec_field 56 _ 3 rfl g0 0 rfl _ Tryd.underlying56 _ rfl 0 Tryd.sizeOf54) ?_
   simp only [Act.put, pu]
   refine mx_loadcT 0 54 _ rfl (73) rfl rfl (.int .u64 (64 * m + f0 : Nat)) (hC_get _ _ _ _ 73 (by omega)) Tryd.isAgg54 ?_
   simp only [Act.put, pu]
   refine mx_move rfl rfl ?_
   simp only [Act.put, pu]
   refine mx_val (.int .i64 (ls : Nat)) (fun w' => (x_lenS _ _ rfl ⟨(L.drop (64 * m + f0)).toArray⟩ rfl Tryd.underlying9 w').trans (by rw [hsz])) ?_
   simp only [Act.put, pu]
   refine mx_val (.int .u64 (ls : Nat)) (x_conv _ _ _ rfl .i64 .u64 Tryd.underlying3 Tryd.underlying54 (ls : Int) _ rfl (wrp64 _ (by omega))) ?_
   simp only [Act.put, pu]
   refine mx_val (.int .u64 (64 * m + f0 + ls : Nat)) (x64_add _ _ _ _ rfl (64 * m + f0) ls rfl rfl (by omega)) ?_
   simp only [Act.put, pu]
   refine mx_val (.pointer (some ⟨g0, 0, none⟩)) (exec_nil _ rfl g0 0 rfl) ?_
   simp only [Act.put, pu]
   refine mx_val (.pointer (some ⟨g0, 73, none⟩)) (exec_field 56 _ 3 rfl g0 0 rfl _ Tryd.underlying56 _ rfl 0 Tryd.sizeOf54) ?_
   simp only [Act.put, pu]
   refine mx_putc 0 54 _ _ rfl (73) rfl rfl .u64 (((64 * m + f0 + ls : Nat) : Int)) rfl Tryd.sizeOf54 (by rw [hC_size]; omega) (hC true (ab (bf L) m) B (64 * m + f0 + ls)) (hC_putc _ _ _ _ _) ?_
   simp only [Act.put]
   refine mx_end ?_
   intro w4 hkw hrw hnew hdis
   have zr0 : Row w4 (g0) (hC true (ab (bf L) m) B (64 * m + f0 + ls)) 56 := hrw 0 (56, hC true (ab (bf L) m) B (64 * m + f0 + ls)) rfl
   replace sk := sk.trans hkw (by simp)
   clear hkw hrw hnew hdis r0
   have r0 := zr0
   clear zr0
   (repeat ((fail_if_success with_reducible refine rg ?_); go_step))
   apply wp_region_mixp [] [_, _, _, _, _, _] trivial List.nodup_nil
   ·intro p
    refine mx_move rfl rfl ?_
    simp only [Act.put, pu]
    refine mx_move rfl rfl ?_
    simp only [Act.put, pu]
    refine mx_val (.int .i64 (ls : Nat)) (fun w' => (x_lenS _ _ rfl ⟨(L.drop (64 * m + f0)).toArray⟩ rfl Tryd.underlying9 w').trans (by rw [hsz])) ?_
    simp only [Act.put, pu]
    refine mx_val (.int .i64 (f0 + ls : Nat)) (xi_add _ _ _ _ rfl f0 ls rfl rfl (by omega)) ?_
    simp only [Act.put, pu]
    refine mx_val (.int .i64 ((f0 + ls) / 64 : Nat)) (exec_quo_i _ _ _ _ rfl (f0 + ls) 64 rfl rfl (by omega) (by omega)) ?_
    simp only [Act.put, pu]
    refine mx_val (.int .i64 0) (fun _ => rfl) ?_
    simp only [Act.put, pu]
    refine mx_end ?_
    intro w5 hkw hrw hnew hdis
    replace r0 := hkw.row r0 (by simp <;> omega)
    replace sk := sk.trans hkw (by simp)
    clear hkw hrw hnew hdis
    have H0 : AdH w5 w g0 N L (m + 0) f0 B := ⟨by rw [hm]; exact r0, hB, hlt, sk⟩
    have HD : Hid (L.length = N ∧ N < 1152921504606846976 ∧ N = 64 * m + f0 + ls ∧ f0 < 64 ∧ KT w ∧ 0 ≠ g0) := ⟨hN, hNl, hm, hf, kT, hg⟩
    generalize hn : (f0 + ls) / 64 = n
    have HN : Hid ((f0 + ls) / 64 = n) := hn
    clear r0 sk hr0 hls hsz hB hlt hN hNl kT hg hn
    go_wp2_with fail
    go_loopg [1, 4, 5, 32] n (fun g s1 s4 s5 s32 wr => ∃ k F B, k + g = n ∧ s32 = .int .i64 (k : Nat) ∧ s1 = .string ⟨(L.drop (64 * (m + k) + F)).toArray⟩ ∧ s4 = .int .i64 (F : Nat) ∧ F < 64 ∧ (F = 0 ∨ (k = 0 ∧ F = f0)) ∧ AdH wr w g0 N L (m + k) F B)
    case atStart => exact ⟨0, f0, B, by omega, rfl, rfl, rfl, hf, .inr ⟨rfl, rfl⟩, H0⟩
    case round =>
     obtain ⟨k, F, B, hk, rfl, rfl, rfl, hF, hFk, r0, hB, hlt, sk⟩ := hrel
     obtain ⟨hN, hNl, hm, hf, kT, hg⟩ := HD.out
     have hn := HN.out
     clear H0
     cases gk with
     | zero =>
      obtain rfl : k = n := by omega
      have hq : min (L.drop (64 * (m + k) + F)).length (64 - F) = N % 64 - F := by rw [List.length_drop]; omega
      have hcp : putL (hC true (ab (bf L) (m + k)) B N) (9 + F) (b8s ((L.drop (64 * (m + k) + F)).take (N % 64 - F))) = hC true (ab (bf L) (m + k)) (cpB B F ((L.drop (64 * (m + k) + F)).take (N % 64 - F))) N :=
       hC_copy _ _ _ _ _ _ (by rw [List.length_take, List.length_drop]; omega)
      have hHS : HS L (cpB B F ((L.drop (64 * (m + k) + F)).take (N % 64 - F))) := by
       refine ⟨fun i hi => ?_, cpB_lt hlt _ _⟩
       rw [hN] at hi ⊢
       rw [cp_rest L B F (m + k) (N % 64 - F) (by omega) hB i (by omega), show N / 64 = m + k by omega]
      have hj : N / 64 = m + k := by omega
      have hk64 : F + (N % 64 - F) ≤ 64 := by omega
      generalize N % 64 - F = q at *
      clear hk hm hn hFk HD HN hB hlt
      (repeat ((fail_if_success with_reducible refine rg ?_); go_step))
      apply wp_region_mixp [] [_] trivial List.nodup_nil
      ·intro p
       refine mx_val (.bool false) (x_lt _ _ _ _ rfl k k rfl rfl false (decide_eq_false (by omega))) ?_
       simp only [Act.put, pu]
       refine mx_end ?_
       intro w6 hkw hrw hnew hdis
       replace r0 := hkw.row r0 (by simp <;> omega)
       replace sk := sk.trans hkw (by simp)
       clear hkw hrw hnew hdis
       (repeat ((fail_if_success with_reducible refine rg ?_); go_step))
       apply wp_region_mixp [(g0, 56, hC true (ab (bf L) (m + k)) B N)] [_, _, _, _, _, _, _] ⟨r0, trivial⟩ (by simp <;> omega)
       ·intro p
        refine mx_move rfl rfl ?_
        simp only [Act.put, pu]
        refine mx_val (.pointer (some ⟨g0, 0, none⟩)) (exec_nil _ rfl g0 0 rfl) ?_
        simp only [Act.put, pu]
        refine mx_val (.pointer (some ⟨g0, 9, none⟩)) (exec_field 56 _ 2 rfl g0 0 rfl _ Tryd.underlying56 _ rfl 63 Tryd.sizeOf43) ?_
        simp only [Act.put, pu]
        refine mx_move rfl rfl ?_
        simp only [Act.put, pu]
        refine mx_val (.slice (some ⟨g0, 9 + F, none⟩) (64 - F) (64 - F)) (x_sliceA 43 5 _ _ 64 Tryd.underlying43 Tryd.sizeOf5 rfl g0 9 F rfl rfl (by omega)) ?_
        simp only [Act.put, pu]
        refine mx_move rfl rfl ?_
        simp only [Act.put, pu]
        refine mx_copyS 0 _ _ _ _ 5 rfl Tryd.underlying35 Tryd.sizeOf5 (9 + F) (64 - F) (64 - F) rfl rfl (L.drop (64 * (m + k) + F)) rfl q hq (by rw [hC_size]; omega) (hC true (ab (bf L) (m + k)) (cpB B F ((L.drop (64 * (m + k) + F)).take q)) N) hcp ?_
        simp only [Act.put, pu]
        refine mx_end ?_
        intro w7 hkw hrw hnew hdis
        have zr0 : Row w7 (g0) (hC true (ab (bf L) (m + k)) (cpB B F ((L.drop (64 * (m + k) + F)).take q)) N) 56 := hrw 0 (56, hC true (ab (bf L) (m + k)) (cpB B F ((L.drop (64 * (m + k) + F)).take q)) N) rfl
        replace sk := sk.trans hkw (by simp)
        clear hkw hrw hnew hdis r0
        have r0 := zr0
        clear zr0
        go_wp2
        go_end0
        exact ⟨rfl, _, hHS, by rw [hj]; exact r0, sk⟩
       ·rfl
      ·rfl
     | succ g =>
      have hle : 64 * (m + k + 1) ≤ L.length := by omega
      have hq : min (L.drop (64 * (m + k) + F)).length (64 - F) = 64 - F := by rw [List.length_drop]; omega
      have hcp : putL (hC true (ab (bf L) (m + k)) B N) (9 + F) (b8s ((L.drop (64 * (m + k) + F)).take (64 - F))) = hC true (ab (bf L) (m + k)) (fun i => bf L (64 * (m + k) + i)) N := by
       rw [hC_copy _ _ _ _ _ _ (by rw [List.length_take, List.length_drop]; omega)]
       exact hC_congr (fun _ _ => rfl) (cp_full L B F (m + k) hF hle hB)
      have hdr : (L.drop (64 * (m + k) + F)).drop (64 - F) = L.drop (64 * (m + (k + 1)) + 0) := by
       rw [List.drop_drop, show 64 * (m + k) + F + (64 - F) = 64 * (m + (k + 1)) + 0 by omega]
      have hlen : 64 - F ≤ (L.drop (64 * (m + k) + F)).length := by rw [List.length_drop]; omega
      have hkn : (k : Int) < (n : Int) := by omega
      have hab : ab (bf L) (m + (k + 1)) = cmp (ab (bf L) (m + k)) (fun i => bf L (64 * (m + k) + i)) := rfl
      have hV : ∀ i, (ab (bf L) (m + k)) i < 4294967296 := ab_lt _ _
      have hbb : ∀ i, (fun i => bf L (64 * (m + k) + i)) i < 256 := fun i => bf_lt _ _
      clear hB hlt hle hFk
      (repeat ((fail_if_success with_reducible refine rg ?_); go_step))
      apply wp_region_mixp [] [_] trivial List.nodup_nil
      ·intro p
       refine mx_val (.bool true) (x_lt _ _ _ _ rfl k n rfl rfl true (decide_eq_true hkn)) ?_
       simp only [Act.put, pu]
       refine mx_end ?_
       intro w6 hkw hrw hnew hdis
       replace r0 := hkw.row r0 (by simp <;> omega)
       replace sk := sk.trans hkw (by simp)
       clear hkw hrw hnew hdis
       (repeat ((fail_if_success with_reducible refine rg ?_); go_step))
       apply wp_region_mixp [(g0, 56, hC true (ab (bf L) (m + k)) B N)] [_, _, _, _, _, _, _, _] ⟨r0, trivial⟩ (by simp <;> omega)
       ·intro p
        refine mx_move rfl rfl ?_
        simp only [Act.put, pu]
        refine mx_val (.pointer (some ⟨g0, 0, none⟩)) (exec_nil _ rfl g0 0 rfl) ?_
        simp only [Act.put, pu]
        refine mx_val (.pointer (some ⟨g0, 9, none⟩)) (exec_field 56 _ 2 rfl g0 0 rfl _ Tryd.underlying56 _ rfl 63 Tryd.sizeOf43) ?_
        simp only [Act.put, pu]
        refine mx_move rfl rfl ?_
        simp only [Act.put, pu]
        refine mx_val (.slice (some ⟨g0, 9 + F, none⟩) (64 - F) (64 - F)) (x_sliceA 43 5 _ _ 64 Tryd.underlying43 Tryd.sizeOf5 rfl g0 9 F rfl rfl (by omega)) ?_
        simp only [Act.put, pu]
        refine mx_move rfl rfl ?_
        simp only [Act.put, pu]
        refine mx_copyS 0 _ _ _ _ 5 rfl Tryd.underlying35 Tryd.sizeOf5 (9 + F) (64 - F) (64 - F) rfl rfl (L.drop (64 * (m + k) + F)) rfl (64 - F) hq (by rw [hC_size]; omega) (hC true (ab (bf L) (m + k)) (fun i => bf L (64 * (m + k) + i)) N) hcp ?_
        simp only [Act.put, pu]
        refine mx_asg rfl rfl ?_
        simp only [Act.put, pu]
        refine mx_end ?_
        intro w7 hkw hrw hnew hdis
        have zr0 : Row w7 (g0) (hC true (ab (bf L) (m + k)) (fun i => bf L (64 * (m + k) + i)) N) 56 := hrw 0 (56, hC true (ab (bf L) (m + k)) (fun i => bf L (64 * (m + k) + i)) N) rfl
        replace sk := sk.trans hkw (by simp)
        clear hkw hrw hnew hdis r0
        have r0 := zr0
        clear zr0
        (repeat ((fail_if_success with_reducible refine rg ?_); go_step))
        apply wp_region_mixp [] [_, _, _, _] trivial List.nodup_nil
        ·intro p
         refine mx_move rfl rfl ?_
         simp only [Act.put, pu]
         refine mx_move rfl rfl ?_
         simp only [Act.put, pu]
         refine mx_val (.string ⟨(L.drop (64 * (m + (k + 1)) + 0)).toArray⟩) ((fun w' => (x_sliceS _ _ _ Tryd.underlying9 rfl (L.drop (64 * (m + k) + F)) (64 - F) rfl rfl hlen w').trans (by rw [hdr]))) ?_
         simp only [Act.put, pu]
         refine mx_asg rfl rfl ?_
         simp only [Act.put, pu]
         refine mx_end ?_
         intro w8 hkw hrw hnew hdis
         replace r0 := hkw.row r0 (by simp <;> omega)
         replace sk := sk.trans hkw (by simp)
         clear hkw hrw hnew hdis
         have kT8 := kT.kept sk (by simpa using hg)
         (repeat ((fail_if_success with_reducible refine rg ?_); go_step))
         apply wp_region_mix (by kernel_rfl) [(g0, 56, hC true (ab (bf L) (m + k)) (fun i => bf L (64 * (m + k) + i)) N)] [_, _, _, _, _, _, _, _, _, _, _, _, _] ⟨r0, trivial⟩ (by simp <;> omega)
         ·intro p
          refine mx_move rfl rfl ?_
          simp only [Act.put, pu]
          refine mx_move rfl rfl ?_
          simp only [Act.put, pu]
          refine mx_val (.pointer (some ⟨g0, 0, none⟩)) (exec_nil _ rfl g0 0 rfl) ?_
          simp only [Act.put, pu]
          refine mx_val (.pointer (some ⟨g0, 1, none⟩)) (exec_field 56 _ 1 rfl g0 0 rfl _ Tryd.underlying56 _ rfl 7 Tryd.sizeOf53) ?_
          simp only [Act.put, pu]
          refine mx_loadmT 0 53 _ rfl (1) rfl rfl (rC .u32 8 (ab (bf L) (m + k))) (hC_w _ _ _ _) _ Tryd.underlying53 rfl (by rw [rC_size]; exact size_8w) ?_
          simp only [Act.put, pu]
          refine mx_move rfl rfl ?_
          simp only [Act.put, pu]
          refine mx_val (.pointer (some ⟨g0, 0, none⟩)) (exec_nil _ rfl g0 0 rfl) ?_
          simp only [Act.put, pu]
          refine mx_val (.pointer (some ⟨g0, 9, none⟩)) (exec_field 56 _ 2 rfl g0 0 rfl _ Tryd.underlying56 _ rfl 63 Tryd.sizeOf43) ?_
          simp only [Act.put, pu]
          refine mx_loadmT 0 43 _ rfl (9) rfl rfl (rC .u8 64 (fun i => bf L (64 * (m + k) + i))) (hC_b _ _ _ _) _ Tryd.underlying43 rfl (by rw [rC_size]; exact size_64b) ?_
          simp only [Act.put, pu]
          refine mx_callK 36 _ _ rfl Tryd.func36 (by kernel_rfl) #[.agg (rC .u32 8 (ab (bf L) (m + k))), .agg (rC .u8 64 (fun i => bf L (64 * (m + k) + i)))] rfl _ (fun w' hk => mixed_any (ab (bf L) (m + k)) (fun i => bf L (64 * (m + k) + i)) hV hbb w' (kT8.kept hk (by simpa using hg))) ?_
          simp only [Act.put, pu]
          refine mx_val (.pointer (some ⟨g0, 0, none⟩)) (exec_nil _ rfl g0 0 rfl) ?_
          simp only [Act.put, pu]
          refine mx_val (.pointer (some ⟨g0, 1, none⟩)) (exec_field 56 _ 1 rfl g0 0 rfl _ Tryd.underlying56 _ rfl 7 Tryd.sizeOf53) ?_
          simp only [Act.put, pu]
          refine mx_putm 0 53 _ _ rfl 1 rfl rfl (rC .u32 8 (cmp (ab (bf L) (m + k)) (fun i => bf L (64 * (m + k) + i)))) rfl (by rw [rC_size]; exact size_8w) (by rw [rC_size, hC_size]; omega) (rC_one _ _ _) (hC true (cmp (ab (bf L) (m + k)) (fun i => bf L (64 * (m + k) + i))) (fun i => bf L (64 * (m + k) + i)) N) (hC_putw _ _ _ _ _) ?_
          simp only [Act.put]
          refine mx_end ?_
          intro w9 hkw hrw hnew hdis
          have zr0 : Row w9 (g0) (hC true (cmp (ab (bf L) (m + k)) (fun i => bf L (64 * (m + k) + i))) (fun i => bf L (64 * (m + k) + i)) N) 56 := hrw 0 (56, hC true (cmp (ab (bf L) (m + k)) (fun i => bf L (64 * (m + k) + i))) (fun i => bf L (64 * (m + k) + i)) N) rfl
          replace sk := sk.trans hkw (by simp)
          clear hkw hrw hnew hdis r0
          have r0 := zr0
          clear zr0
          (repeat ((fail_if_success with_reducible refine rg ?_); go_step))
          apply wp_region_mixp [] [_] trivial List.nodup_nil
          ·intro p
           refine mx_val (.int .i64 0) (fun _ => rfl) ?_
           simp only [Act.put, pu]
           refine mx_end ?_
           intro w10 hkw hrw hnew hdis
           replace r0 := hkw.row r0 (by simp <;> omega)
           replace sk := sk.trans hkw (by simp)
           clear hkw hrw hnew hdis
           (repeat ((fail_if_success with_reducible refine rg ?_); go_step))
           apply wp_region_mixp [] [_, _] trivial List.nodup_nil
           ·intro p
            refine mx_val (.int .i64 (k + 1 : Nat)) (xi_add _ _ _ _ rfl k 1 rfl rfl (by omega)) ?_
            simp only [Act.put, pu]
            refine mx_move rfl rfl ?_
            simp only [Act.put, pu]
            refine mx_end ?_
            intro w11 hkw hrw hnew hdis
            replace r0 := hkw.row r0 (by simp <;> omega)
            replace sk := sk.trans hkw (by simp)
            clear hkw hrw hnew hdis
            go_wp2
            go_roundg g
            case measure => omega
            case rel => exact ⟨k + 1, 0, (fun i => bf L (64 * (m + k) + i)), by omega, rfl, rfl, rfl, by omega, .inl rfl, by rw [hab]; exact r0, fun i hi => by omega, hbb, sk⟩
           ·rfl
          ·rfl
         ·kernel_rfl
        ·rfl
       ·rfl
      ·rfl
   ·rfl
  ·rfl
 ·rfl
/-- Add: more bytes come. -/
theorem add_any (l s : List UInt8) (B : Nat → Nat) (g0 : Nat) (w : World) (hl : (l ++ s).length < 1152921504606846976) (hB : HS l B)
  (r0 : Row w g0 (hC true (sw l) B l.length) 56) (kT : KT w) (hg : 0 ≠ g0) :
  Calls Tryd.prog 31 #[.pointer (some ⟨g0, 0, none⟩), .string ⟨s.toArray⟩] w fun e w' => e = .returned (.tuple #[]) ∧
   ∃ B', HS (l ++ s) B' ∧ Row w' g0 (hC true (sw (l ++ s)) B' (l ++ s).length) 56 ∧ Kept [g0] w w' := by
 have e1 : l.length = 64 * (l.length / 64) + l.length % 64 := by omega
 have e2 : ab (bf l) (l.length / 64) = ab (bf (l ++ s)) (l.length / 64) := ab_congr _ fun i hi => (bf_left l s i (by omega)).symm
 have e3 : (l ++ s).drop (64 * (l.length / 64) + l.length % 64) = s := by rw [← e1]; exact List.drop_left
 have r1 : Row w g0 (hC true (ab (bf (l ++ s)) (l.length / 64)) B (64 * (l.length / 64) + l.length % 64)) 56 := by
  rw [← e2, ← e1]; exact r0
 have h := add_core (l ++ s) B (l ++ s).length (l.length / 64) (l.length % 64) s.length g0 w rfl hl (by rw [List.length_append]; omega) (by omega)
  (fun i hi => (hB.b i hi).trans (bf_left l s _ (by omega)).symm) hB.lt r1 kT hg
 rw [e3] at h
 exact h
end Go.Proofs.YtdanmnhknmepiaaDoor
