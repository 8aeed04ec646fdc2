/- The document's space: Sorted. -/
import Derived.Test.YtchiiphmpkmloaaSpROp
namespace Go.Proofs.Ytchiiphmpkmloaa
open Go.RowKit
set_option linter.unusedVariables false
set_option linter.unusedSectionVars false
set_option linter.unusedSimpArgs false
/-- What is there behind j rounds. -/
def srtL (ks us : List Ky) (j : Nat) : List Ky := ks.map fun k => if k ∈ us.take j then k else []
theorem srtL_len (ks us : List Ky) (j : Nat) : (srtL ks us j).length = ks.length := by unfold srtL; rw [List.length_map]
theorem srtL_at (ks us : List Ky) (j t : Nat) : (srtL ks us j).getD t [] = if ks.getD t [] ∈ us.take j then ks.getD t [] else [] := by
 unfold srtL
 by_cases h : t < ks.length
 ·rw [List.getD_eq_getElem?_getD, List.getElem?_map, List.getElem?_eq_getElem h, List.getD_eq_getElem?_getD, List.getElem?_eq_getElem h]
  rfl
 ·rw [List.getD_eq_getElem?_getD, List.getElem?_eq_none (by rw [List.length_map]; omega), List.getD_eq_getElem?_getD, List.getElem?_eq_none (by omega)]
  simp
theorem srtL_zero (ks us : List Ky) (t : Nat) : (srtL ks us 0).getD t [] = [] := by
 rw [srtL_at]
 simp
theorem srtL_end {ks us : List Ky} (hp : us.Perm ks) : srtL ks us us.length = ks := by
 unfold srtL
 rw [List.take_length]
 have : ∀ k ∈ ks, (if k ∈ us then k else ([] : Ky)) = k := fun k hk => if_pos (hp.mem_iff.2 hk)
 exact (List.map_congr_left this).trans (List.map_id _)
theorem srtL_step {ks us : List Ky} (hs : Srt ks) (hp : us.Perm ks) {j : Nat} (hj : j < us.length) {k : Ky} (hk : us.getD j [] = k) :
  rk k us < ks.length ∧ stC (srtL ks us (j + 1)) (rk k us) = #[strV k] ∧ ∀ t, t < ks.length → t ≠ rk k us → stC (srtL ks us (j + 1)) t = stC (srtL ks us j) t := by
 have hm : k ∈ us := by rw [← hk]; exact getD_mem hj
 have h1 := (rk_mem ks hs).1 (hp.mem_iff.1 hm)
 rw [rk_perm hp]
 have hin : k ∈ us.take (j + 1) := by rw [take_snoc hj, hk]; simp
 refine ⟨h1.1, ?_, fun t ht hne => ?_⟩
 ·unfold stC
  rw [srtL_at, h1.2, if_pos hin]
  rfl
 ·unfold stC
  rw [srtL_at, srtL_at]
  have hne2 : ks.getD t [] ≠ k := fun e => hne (by rw [← e, srt_rk hs ht])
  have : (ks.getD t [] ∈ us.take (j + 1)) = (ks.getD t [] ∈ us.take j) := by
   rw [take_snoc hj, hk, List.mem_append, List.mem_singleton]
   exact propext ⟨fun h => h.resolve_right hne2, .inl⟩
  simp only [this]
set_option maxRecDepth 100000 in
set_option maxHeartbeats 2000000 in
theorem rsrt_any (n m : Int) (v2 : Value) (ab : Option Addr) (c : Nat) (us ks : List Ky) (gb ob : Nat) (bcs : Array Value) (tb : TypeId) (w : World) (hn : us.length ≤ 1000) (hs : Srt ks) (hp : us.Perm ks) (hz : ElsAt 1 w ab us.length (stC us) gb ob bcs tb) :
  Calls Try.prog 20 #[.agg (sxC n m (.slice ab us.length c) v2)] w fun e w' => ∃ g, e = .returned (.slice (some ⟨g, 0, none⟩) ks.length ks.length) ∧ (∃ cs, ElsAt 1 w' (some ⟨g, 0, none⟩) ks.length (stC ks) g 0 cs 9) ∧ Below w.heap.size w w' := by
 have HB : Hid (ElsAt 1 w ab us.length (stC us) gb ob bcs tb) := hz
 have hlen : us.length = ks.length := hp.length_eq
 rw [← hlen]
 have HL : Hid (us.length = ks.length) := hlen
 clear hz hlen
 obtain ⟨is, hsi, hsz, hss, hsb⟩ := of_info info_str
 have HP : Hid (us.Perm ks ∧ Srt ks) := ⟨hp, hs⟩
 clear hp hs
 go_enter Try.func20, Try.ntmps20
 have sb := sbmk w
 (repeat ((fail_if_success with_reducible refine rg ?_); go_step))
 refine wp_region_pw ?_
 refine pw_boxr (by rfl) 33 _ rfl (sxC n m (.slice ab us.length c) v2) rfl ?_
 intro g1 z0 n0 r1 k
 simp only [Act.put, pu]
 have b1 := Nat.le_trans sb.size n0
 clear n0
 replace sb := sb.trans (k.below w.heap.size sb.size (by simp <;> omega))
 clear k
 refine pw_value (by rfl) (.slice none 0 0) (fun _ => rfl) ?_
 simp only [Act.put, pu]
 refine pw_nil ?_
 (repeat ((fail_if_success with_reducible refine rg ?_); go_step))
 refine wp_region_pw ?_
 refine pw_value (by rfl) (.pointer (some ⟨g1, 2, none⟩)) (exec_field 33 _ 2 rfl g1 0 rfl _ Try.underlying33 _ rfl 0 Try.sizeOf30) ?_
 simp only [Act.put, pu]
 refine pw_loadk (by rfl) 30 _ rfl _ (2) rfl r1.r (.slice ab us.length c) rfl Try.isAgg30 ?_
 simp only [Act.put, pu]
 refine pw_value (by rfl) (.int .i64 (us.length : Nat)) (exec_len_s 30 _ rfl (ab) (us.length) (c) rfl sl_strs) ?_
 simp only [Act.put, pu]
 refine pw_make (by rfl) 30 9 _ _ rfl is _ Try.underlying30 hsi hsz (us.length) rfl rfl (by rw [hss]; omega) (by rw [hsb]; omega) (by omega) ?_
 intro gO z1003 n0 rO k
 simp only [Act.put, pu]
 have d1xO := Nat.lt_of_lt_of_le r1.lt n0
 have bO := Nat.le_trans sb.size n0
 clear n0
 replace r1 := k.row r1 (by simp <;> omega)
 replace sb := sb.trans (k.below w.heap.size sb.size (by simp <;> omega))
 clear k
 refine pw_as (by rfl) rfl rfl ?_
 simp only [Act.put, pu]
 refine pw_nil ?_
 rw [hss, made_els (k := 1) _ rfl, esC_congr (D := stC (srtL ks us 0)) (fun i _ => by unfold stC; rw [srtL_zero]; rfl)] at rO
 clear hsi hsz hss hsb
 (repeat ((fail_if_success with_reducible refine rg ?_); go_step))
 refine wp_region_pw ?_
 refine pw_value (by rfl) (.int .i64 0) (fun _ => rfl) ?_
 simp only [Act.put, pu]
 refine pw_nil ?_
 go_wp2_with fail
 go_loopg [4, 5, 6] us.length (fun x s4 s5 s6 wr => ∃ j : Nat, j + x = us.length ∧ s4 = .int .i64 j ∧ Row wr g1 (sxC n m (.slice ab us.length c) v2) 33 ∧ Row wr gO (esC 1 us.length (stC (srtL ks us j))) 9 ∧ Below w.heap.size w wr)
 case atStart => exact ⟨0, by omega, rfl, r1, rO, sb⟩
 case round =>
  clear sb r1 rO
  obtain ⟨j, hj, rfl, r1, rO, sb⟩ := hrel
  cases gk with
  | zero =>
   have h1 : ¬ (j : Int) < (us.length : Int) := by omega
   obtain rfl : j = us.length := by omega
   rw [srtL_end HP.out.1] at rO
   clear hj
   (repeat ((fail_if_success with_reducible refine rg ?_); go_step))
   refine wp_region_pw ?_
   refine pw_mv (by rfl) rfl rfl ?_
   simp only [Act.put, pu]
   refine pw_value (by rfl) (.pointer (some ⟨g1, 2, none⟩)) (exec_field 33 _ 2 rfl g1 0 rfl _ Try.underlying33 _ rfl 0 Try.sizeOf30) ?_
   simp only [Act.put, pu]
   refine pw_loadk (by rfl) 30 _ rfl _ (2) rfl r1.r (.slice (ab) us.length c) rfl Try.isAgg30 ?_
   simp only [Act.put, pu]
   refine pw_value (by rfl) (.int .i64 (us.length : Nat)) (exec_len_s 30 _ rfl (ab) (us.length) (c) rfl sl_strs) ?_
   simp only [Act.put, pu]
   refine pw_value (by rfl) (.bool false) (exec_lt_b _ _ _ _ rfl ((us.length : Nat)) ((us.length : Nat)) rfl rfl false (decide_eq_false h1)) ?_
   simp only [Act.put, pu]
   refine pw_nil ?_
   (repeat ((fail_if_success with_reducible refine rg ?_); go_step))
   refine wp_region_pw ?_
   refine pw_mv (by rfl) rfl rfl ?_
   simp only [Act.put, pu]
   refine pw_as (by rfl) rfl rfl ?_
   simp only [Act.put, pu]
   refine pw_nil ?_
   go_wp2
   go_ret
   exact ⟨gO, rfl, ⟨_, els_row (stC_size ks) rO⟩, sb⟩
  | succ y =>
   have hlt : j < us.length := by omega
   have h1 : (j : Int) < (us.length : Int) := by omega
   obtain h0 | ⟨rfl, rB, hbt⟩ := (HB.out.below sb).at'
   ·exact absurd h0 (by omega)
   obtain ⟨k, hk⟩ : ∃ k, us.getD j [] = k := ⟨_, rfl⟩
   have HX : Hid (us.getD j [] = k) := hk
   have hbx : bcs[ob + j * 1]? = some (.string ⟨k.toArray⟩) := by rw [← hk]; exact hbt j hlt 0 _ rfl
   obtain ⟨hr1, hr2, hr3⟩ := srtL_step HP.out.2 HP.out.1 hlt hk
   have hmk : k ∈ us := by rw [← hk]; exact getD_mem hlt
   have hF := fun w' (hb : Below w.heap.size w w') => rfnd_any n m v2 (some ⟨gb, ob, none⟩) c us gb ob bcs tb k w' (by omega) (HB.out.below hb)
   rw [show fdP us k = rk k us from if_pos hmk] at hF
   obtain ⟨r, hr⟩ : ∃ r, rk k us = r := ⟨_, rfl⟩
   rw [hr] at hF hr1 hr2 hr3
   have hle := HL.out
   have hru : r < us.length := by omega
   have hput : putL (esC 1 us.length (stC (srtL ks us j))) (0 + r * 1) (#[Value.string ⟨k.toArray⟩] : Array Value).toList = esC 1 us.length (stC (srtL ks us (j + 1))) := by
    have h9 := esC_put (k := 1) (n := us.length) (C := stC (srtL ks us j)) (D := stC (srtL ks us (j + 1))) (fun _ => rfl) (fun _ => rfl) r hru (0 + r * 1) (by omega) (fun t ht hne => hr3 t (by omega) hne)
    rw [hr2] at h9
    exact h9
   clear hbt hk hmk hr hr2 hr3 hle
   replace hr1 := hru
   (repeat ((fail_if_success with_reducible refine rg ?_); go_step))
   refine wp_region_pw ?_
   refine pw_mv (by rfl) rfl rfl ?_
   simp only [Act.put, pu]
   refine pw_value (by rfl) (.pointer (some ⟨g1, 2, none⟩)) (exec_field 33 _ 2 rfl g1 0 rfl _ Try.underlying33 _ rfl 0 Try.sizeOf30) ?_
   simp only [Act.put, pu]
   refine pw_loadk (by rfl) 30 _ rfl _ (2) rfl r1.r (.slice (some ⟨gb, ob, none⟩) us.length c) rfl Try.isAgg30 ?_
   simp only [Act.put, pu]
   refine pw_value (by rfl) (.int .i64 (us.length : Nat)) (exec_len_s 30 _ rfl (some ⟨gb, ob, none⟩) (us.length) (c) rfl sl_strs) ?_
   simp only [Act.put, pu]
   refine pw_value (by rfl) (.bool true) (exec_lt_b _ _ _ _ rfl ((j : Nat)) ((us.length : Nat)) rfl rfl true (decide_eq_true h1)) ?_
   simp only [Act.put, pu]
   refine pw_nil ?_
   (repeat ((fail_if_success with_reducible refine rg ?_); go_step))
   refine wp_region_qw (by kernel_rfl) (by kernel_rfl) ?_
   refine qw_loadm (by rfl) 33 _ rfl _ (0) rfl r1 ((sxC n m (.slice (some ⟨gb, ob, none⟩) us.length c) v2)) (part_all _) _ Try.underlying33 rfl (by rw [sxC_size]; exact size_rf) ?_
   simp only [Act.put, pu]
   refine qw_value (by rfl) (.pointer (some ⟨g1, 2, none⟩)) (exec_field 33 _ 2 rfl g1 0 rfl _ Try.underlying33 _ rfl 0 Try.sizeOf30) ?_
   simp only [Act.put, pu]
   refine qw_loadc (by rfl) 30 _ rfl _ (2) rfl r1 (.slice (some ⟨gb, ob, none⟩) us.length c) rfl Try.isAgg30 ?_
   simp only [Act.put, pu]
   refine qw_move (by rfl) rfl rfl ?_
   simp only [Act.put, pu]
   refine qw_value (by rfl) (.pointer (some ⟨gb, ob + j * 1, none⟩)) ((exec_index_s 30 _ _ rfl (gb) (ob) (us.length) (c) rfl (j) rfl (hlt) _ Try.underlying30 1 Try.sizeOf9)) ?_
   simp only [Act.put, pu]
   refine qw_loadcR (by rfl) 9 _ rfl _ (ob + j * 1) rfl rB (.string ⟨k.toArray⟩) hbx Try.isAgg9 ?_
   simp only [Act.put, pu]
   refine qw_callK (by rfl) 13 _ _ rfl Try.func13 (by kernel_rfl) #[.agg (sxC n m (.slice (some ⟨gb, ob, none⟩) us.length c) v2), .string ⟨k.toArray⟩] rfl _ (fun w' hb => hF w' (below_on sb (Nat.le_refl _) hb)) ?_
   simp only [Act.put, pu]
   refine qw_move (by rfl) rfl rfl ?_
   simp only [Act.put, pu]
   refine qw_ext (by rfl) rfl rfl rfl ?_
   simp only [Act.put, pu]
   refine qw_ext (by rfl) rfl rfl rfl ?_
   simp only [Act.put, pu]
   refine qw_asg (by rfl) rfl rfl ?_
   simp only [Act.put, pu]
   refine qw_asg (by rfl) rfl rfl ?_
   simp only [Act.put, pu]
   refine qw_nil ?_
   intro w9 hqb
   replace r1 := r1.belowAll hqb
   replace rO := rO.belowAll hqb
   replace rB := rB.belowAll hqb
   replace sb := below_on sb (Nat.le_refl _) hqb
   clear hqb
   (repeat ((fail_if_success with_reducible refine rg ?_); go_step))
   refine wp_region_pw ?_
   refine pw_mv (by rfl) rfl rfl ?_
   simp only [Act.put, pu]
   refine pw_mv (by rfl) rfl rfl ?_
   simp only [Act.put, pu]
   refine pw_value (by rfl) (.pointer (some ⟨g1, 2, none⟩)) (exec_field 33 _ 2 rfl g1 0 rfl _ Try.underlying33 _ rfl 0 Try.sizeOf30) ?_
   simp only [Act.put, pu]
   refine pw_loadk (by rfl) 30 _ rfl _ (2) rfl r1.r (.slice (some ⟨gb, ob, none⟩) us.length c) rfl Try.isAgg30 ?_
   simp only [Act.put, pu]
   refine pw_mv (by rfl) rfl rfl ?_
   simp only [Act.put, pu]
   refine pw_value (by rfl) (.pointer (some ⟨gb, ob + j * 1, none⟩)) ((exec_index_s 30 _ _ rfl (gb) (ob) (us.length) (c) rfl (j) rfl (hlt) _ Try.underlying30 1 Try.sizeOf9)) ?_
   simp only [Act.put, pu]
   refine pw_loadk (by rfl) 9 _ rfl _ (ob + j * 1) rfl rB (.string ⟨k.toArray⟩) hbx Try.isAgg9 ?_
   simp only [Act.put, pu]
   refine pw_value (by rfl) (.pointer (some ⟨gO, 0 + r * 1, none⟩)) ((exec_index_s 30 _ _ rfl (gO) (0) (us.length) (us.length) rfl (r) rfl (hru) _ Try.underlying30 1 Try.sizeOf9)) ?_
   simp only [Act.put, pu]
   refine pw_putv (by rfl) 9 _ _ rfl _ (0 + r * 1) rfl rO (.string ⟨k.toArray⟩) rfl rfl rfl size1tstring (by rw [esC_size]; omega) (esC 1 us.length (stC (srtL ks us (j + 1)))) hput ?_
   clear rO
   intro z6008 rO k
   simp only [Act.put]
   replace r1 := k.row r1 (by simp <;> omega)
   replace sb := sb.trans (k.below w.heap.size sb.size (by simp <;> omega))
   clear k
   refine pw_nil ?_
   clear rB hF
   (repeat ((fail_if_success with_reducible refine rg ?_); go_step))
   refine wp_region_pw ?_
   refine pw_mv (by rfl) rfl rfl ?_
   simp only [Act.put, pu]
   refine pw_value (by rfl) (.int .i64 (((j + 1 : Nat) : Int))) (x_addz _ _ _ _ rfl ((j : Nat)) (1) (((j + 1 : Nat) : Int)) rfl rfl (by omega) (by omega) (by omega)) ?_
   simp only [Act.put, pu]
   refine pw_as (by rfl) rfl rfl ?_
   simp only [Act.put, pu]
   refine pw_nil ?_
   go_wp2
   go_roundg y
   case measure => omega
   case rel => exact ⟨j + 1, by omega, rfl, r1, rO, sb⟩
end Go.Proofs.Ytchiiphmpkmloaa
