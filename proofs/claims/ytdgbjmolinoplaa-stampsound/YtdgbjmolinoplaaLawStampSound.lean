/- StampSound: for any number, whatever seven servers hold, whoever lies, whatever: what is vouched for is no more than some other one told truly, and no less than any number that enough others had reached; no condition. -/
import Derived.Test.YtdgbjmolinoplaaStLied
namespace Go.Proofs.Ytdgbjmolinoplaa
open Go.ChangeShapes Go.WideShapes Go.ChangeAt Go.RowKit
set_option linter.unusedVariables false
set_option linter.unusedSectionVars false
set_option linter.unusedSimpArgs false
namespace stampSoundP
set_option maxRecDepth 100000 in
set_option maxHeartbeats 8000000 in
theorem core (t : Int) (H L : Nat → Int) (f n : Nat) (w : World) (hf1 : 1 ≤ f) (hf2 : f ≤ 2) (hn : n = 3 * f + 1) (b : Int) (hb : an t 1 = b) (hfb : (f : Int) = 1 + b) :
  Calls Try.prog 5 #[.int .i64 t, .agg (zC 7 H), .agg (zC 7 L)] w fun e w' => e = .returned (.bool true) ∧ Below w.heap.size w w' := by
 obtain ⟨ie, hie, hze, hsz, hby⟩ := info_int'
 have hvo := fun w' gT (r : Row w' gT (zC n (tlK H L f n)) 3) => vou_any f (some ⟨gT, 0, none⟩) n n (tl H L f) gT 0 _ _ w' (zs_rowR r (fun i hi => (zC_get _ hi).trans (by rw [show tlK H L f n i = tl H L f i from if_pos hi]))) (by omega)
 have HM : Hid (∀ h : voB f n (tl H L f) = true, 0 ≤ voV f n (tl H L f) ∧ voV f n (tl H L f) ≤ mst H L f n) := fun h => snd_most h
 have HL : Hid (∀ (h : voB f n (tl H L f) = true) (x : Int), f + 1 ≤ cb (rcb H L f x) n → x ≤ voV f n (tl H L f)) := fun h x hr => snd_least h hr
 have H0 : Hid (voB f n (tl H L f) = false → voV f n (tl H L f) = 0) := fun h => if_neg (by rw [h]; exact Bool.false_ne_true)
 generalize voV f n (tl H L f) = v at *
 generalize voB f n (tl H L f) = ok at *
 have hn7 : n ≤ 7 := by omega
 go_enter Try.func5, Try.ntmps5
 have sb := sbmk w
 (repeat ((fail_if_success with_reducible refine rg ?_); go_step))
 refine wp_region_pw ?_
 refine pw_boxr (by rfl) 35 _ rfl (zC 7 H) rfl ?_
 intro g4 z0 n0 r4 k
 simp only [Act.put, pu]
 have b4 := Nat.le_trans sb.size n0
 clear n0
 replace sb := sb.trans (k.below w.heap.size sb.size (by simp <;> omega))
 clear k
 refine pw_boxr (by rfl) 35 _ rfl (zC 7 L) rfl ?_
 intro g5 z1 n0 r5 k
 simp only [Act.put, pu]
 have d4x5 := Nat.lt_of_lt_of_le r4.lt n0
 have b5 := Nat.le_trans sb.size n0
 clear n0
 replace r4 := k.row r4 (by simp <;> omega)
 replace sb := sb.trans (k.below w.heap.size sb.size (by simp <;> omega))
 clear k
 refine pw_value (by rfl) (.bool false) (fun _ => rfl) ?_
 simp only [Act.put, pu]
 refine pw_nil ?_
 (repeat ((fail_if_success with_reducible refine rg ?_); go_step))
 refine wp_region_pw ?_
 refine pw_mv (by rfl) rfl rfl ?_
 simp only [Act.put, pu]
 refine pw_value (by rfl) (.int .i64 b) (x_an _ _ _ _ rfl (t) 1 b rfl rfl hb) ?_
 simp only [Act.put, pu]
 refine pw_value (by rfl) (.int .i64 ((f : Nat))) (x_addz _ _ _ _ rfl (1) (b) ((f : Nat)) rfl rfl (by omega) (by omega) (by omega)) ?_
 simp only [Act.put, pu]
 refine pw_as (by rfl) rfl rfl ?_
 simp only [Act.put, pu]
 refine pw_nil ?_
 (repeat ((fail_if_success with_reducible refine rg ?_); go_step))
 refine wp_region_pw ?_
 refine pw_mv (by rfl) rfl rfl ?_
 simp only [Act.put, pu]
 refine pw_value (by rfl) (.int .i64 (3 * (f : Nat))) (x_mulz _ _ _ _ rfl (3) ((f : Nat)) (3 * (f : Nat)) rfl rfl (by omega) (by omega) (by omega)) ?_
 simp only [Act.put, pu]
 refine pw_value (by rfl) (.int .i64 ((n : Nat))) (x_addz _ _ _ _ rfl (3 * (f : Nat)) (1) ((n : Nat)) rfl rfl (by omega) (by omega) (by omega)) ?_
 simp only [Act.put, pu]
 refine pw_as (by rfl) rfl rfl ?_
 simp only [Act.put, pu]
 refine pw_nil ?_
 (repeat ((fail_if_success with_reducible refine rg ?_); go_step))
 refine wp_region_pw ?_
 refine pw_mv (by rfl) rfl rfl ?_
 simp only [Act.put, pu]
 refine pw_make (by rfl) 31 3 _ _ rfl ie _ Try.underlying31 hie hze n rfl rfl (by rw [hsz]; omega) (by rw [hby]; omega) (by omega) ?_
 intro gT z3001 n0 rT k
 simp only [Act.put, pu]
 have d4xT := Nat.lt_of_lt_of_le r4.lt n0
 have d5xT := Nat.lt_of_lt_of_le r5.lt n0
 have bT := Nat.le_trans sb.size n0
 clear n0
 replace r4 := k.row r4 (by simp <;> omega)
 replace r5 := k.row r5 (by simp <;> omega)
 replace sb := sb.trans (k.below w.heap.size sb.size (by simp <;> omega))
 clear k
 refine pw_as (by rfl) rfl rfl ?_
 simp only [Act.put, pu]
 refine pw_nil ?_
 rw [hsz, made_ints, tlK_0 H L f n] at rT
 (repeat ((fail_if_success with_reducible refine rg ?_); go_step))
 refine wp_region_pw ?_
 refine pw_move (by rfl) (.inr rfl) rfl ?_
 simp only [Act.put, pu]
 refine pw_value (by rfl) (.int .i64 0) (fun _ => rfl) ?_
 simp only [Act.put, pu]
 refine pw_nil ?_
 (repeat ((fail_if_success with_reducible refine rg ?_); go_step))
 refine wp_region_pw ?_
 refine pw_value (by rfl) (.int .i64 0) (fun _ => rfl) ?_
 simp only [Act.put, pu]
 refine pw_nil ?_
 have HN : Hid (n = 3 * f + 1) := hn
 clear hn hfb hb
 go_wp2_with fail
 go_loopg [10, 11, 12, 13] n (fun x s10 s11 s12 s13 wr => ∃ k : Nat, k + x = n ∧ s10 = .int .i64 (mst H L f k) ∧ s11 = .int .i64 (lnum L f k : Nat) ∧ s12 = .int .i64 k ∧ Row wr g4 (zC 7 H) 35 ∧ Row wr g5 (zC 7 L) 35 ∧ Row wr gT (zC n (tlK H L f k)) 3 ∧ Below w.heap.size w wr)
 case atStart => exact ⟨0, by omega, rfl, by exact congrArg (fun x : Nat => Value.int .i64 (x : Int)) (show 0 = lnum L f 0 from (cb_lie L f 0)), rfl, r4, r5, rT, sb⟩
 case round =>
  clear sb r4 r5 rT
  obtain ⟨k, hk, rfl, rfl, rfl, r4, r5, rT, sb⟩ := hrel
  cases gk with
  | succ g =>
   clear hvo HM HL H0
   have hkn : k < n := by omega
   have hk7 : k < 7 := by omega
   obtain ⟨h, hh⟩ : ∃ h, an (H k) 1048575 = h := ⟨_, rfl⟩
   obtain ⟨x, hx⟩ : ∃ x, H k / 2 ^ 20 = x := ⟨_, rfl⟩
   obtain ⟨q, hq⟩ : ∃ q, an x 3 = q := ⟨_, rfl⟩
   obtain ⟨y, hy⟩ : ∃ y, an (L k) 7 = y := ⟨_, rfl⟩
   have HM : Hid (hv H k = h) := hh
   cases hqb : decide (q = 0) with
   | true =>
    have hzv : hzb H k = true := by show decide (an (H k / 2 ^ 20) 3 = 0) = true; rw [hx, hq]; exact hqb
    cases hyb : decide (y = 0) with
    | false =>
     have hlv : lqb L k = false := by show decide (an (L k) 7 = 0) = false; rw [hy]; exact hyb
     have hli := lnum_no (f := f) hlv
     have htl : tl H L f k = -1 := by unfold tl; rw [hli.1, if_neg Bool.false_ne_true, hzv]; rfl
     have hln := hli.2
     have hms : mst H L f (k + 1) = mst H L f k := if_neg (fun h => by rw [htl] at h; omega)
     have htk := tlK_succ H L f k
     rw [htl] at htk
     have hlm := lnum_le L f k
     clear htl hli hzv hlv HM
     generalize mst H L f k = ms at *
     generalize lnum L f k = m at *
     generalize tlK H L f k = Z0 at *
     (repeat ((fail_if_success with_reducible refine rg ?_); go_step))
     refine wp_region_pw ?_
     refine pw_mv (by rfl) rfl rfl ?_
     simp only [Act.put, pu]
     refine pw_mv (by rfl) rfl rfl ?_
     simp only [Act.put, pu]
     refine pw_value (by rfl) (.bool true) (exec_lt_b _ _ _ _ rfl (k) (n) rfl rfl true (decide_eq_true (by omega))) ?_
     simp only [Act.put, pu]
     refine pw_nil ?_
     (repeat ((fail_if_success with_reducible refine rg ?_); go_step))
     refine wp_region_pw ?_
     refine pw_mv (by rfl) rfl rfl ?_
     simp only [Act.put, pu]
     refine pw_value (by rfl) (.pointer (some ⟨g4, k, none⟩)) ((exec_index 35 _ _ rfl g4 rfl k 7 rfl (hk7) _ Try.underlying35 Try.sizeOf3)) ?_
     simp only [Act.put, pu]
     refine pw_loadk (by rfl) 3 _ rfl _ (k) rfl r4.r (.int .i64 (H k)) (zC_get H (hk7)) Try.isAgg3 ?_
     simp only [Act.put, pu]
     refine pw_value (by rfl) (.int .i64 h) (x_an _ _ _ _ rfl (H k) 1048575 h rfl rfl hh) ?_
     simp only [Act.put, pu]
     refine pw_as (by rfl) rfl rfl ?_
     simp only [Act.put, pu]
     refine pw_nil ?_
     (repeat ((fail_if_success with_reducible refine rg ?_); go_step))
     refine wp_region_pw ?_
     refine pw_mv (by rfl) rfl rfl ?_
     simp only [Act.put, pu]
     refine pw_mv (by rfl) rfl rfl ?_
     simp only [Act.put, pu]
     refine pw_mv (by rfl) rfl rfl ?_
     simp only [Act.put, pu]
     refine pw_value (by rfl) (.pointer (some ⟨gT, 0 + k * 1, none⟩)) ((exec_index_s 31 _ _ rfl gT 0 (n) (n) rfl (k) rfl (hkn) _ Try.underlying31 1 Try.sizeOf3)) ?_
     simp only [Act.put, pu]
     refine pw_putv (by rfl) 3 _ _ rfl _ (0 + k * 1) rfl rT (.int .i64 h) rfl rfl rfl size1tint (by rw [zC_size]; omega) (zC n (updZ Z0 k h)) (zC_upd Z0 hkn h) ?_
     clear rT
     intro z9004 rT k
     simp only [Act.put]
     replace r4 := k.row r4 (by simp <;> omega)
     replace r5 := k.row r5 (by simp <;> omega)
     replace sb := sb.trans (k.below w.heap.size sb.size (by simp <;> omega))
     clear k
     refine pw_nil ?_
     (repeat ((fail_if_success with_reducible refine rg ?_); go_step))
     refine wp_region_pw ?_
     refine pw_mv (by rfl) rfl rfl ?_
     simp only [Act.put, pu]
     refine pw_value (by rfl) (.pointer (some ⟨g4, k, none⟩)) ((exec_index 35 _ _ rfl g4 rfl k 7 rfl (hk7) _ Try.underlying35 Try.sizeOf3)) ?_
     simp only [Act.put, pu]
     refine pw_loadk (by rfl) 3 _ rfl _ (k) rfl r4.r (.int .i64 (H k)) (zC_get H (hk7)) Try.isAgg3 ?_
     simp only [Act.put, pu]
     refine pw_value (by rfl) (.int .i64 x) (x_shz _ _ _ _ rfl (H k) 20 x rfl rfl (by decide) hx) ?_
     simp only [Act.put, pu]
     refine pw_value (by rfl) (.int .i64 q) (x_an _ _ _ _ rfl (x) 3 q rfl rfl hq) ?_
     simp only [Act.put, pu]
     refine pw_value (by rfl) (.bool true) (exec_eql_k .i64 _ _ _ _ rfl (q) (0) rfl rfl true (hqb)) ?_
     simp only [Act.put, pu]
     refine pw_nil ?_
     (repeat ((fail_if_success with_reducible refine rg ?_); go_step))
     refine wp_region_pw ?_
     refine pw_mv (by rfl) rfl rfl ?_
     simp only [Act.put, pu]
     refine pw_mv (by rfl) rfl rfl ?_
     simp only [Act.put, pu]
     refine pw_value (by rfl) (.pointer (some ⟨gT, 0 + k * 1, none⟩)) ((exec_index_s 31 _ _ rfl gT 0 (n) (n) rfl (k) rfl (hkn) _ Try.underlying31 1 Try.sizeOf3)) ?_
     simp only [Act.put, pu]
     refine pw_putv (by rfl) 3 _ _ rfl _ (0 + k * 1) rfl rT (.int .i64 (-1)) rfl rfl rfl size1tint (by rw [zC_size]; omega) (zC n (updZ Z0 k (-1))) ((zC_upd _ hkn _).trans (by rw [updZ_two])) ?_
     clear rT
     intro z11003 rT k
     simp only [Act.put]
     replace r4 := k.row r4 (by simp <;> omega)
     replace r5 := k.row r5 (by simp <;> omega)
     replace sb := sb.trans (k.below w.heap.size sb.size (by simp <;> omega))
     clear k
     refine pw_nil ?_
     (repeat ((fail_if_success with_reducible refine rg ?_); go_step))
     refine wp_region_pw ?_
     refine pw_mv (by rfl) rfl rfl ?_
     simp only [Act.put, pu]
     refine pw_value (by rfl) (.pointer (some ⟨g5, k, none⟩)) ((exec_index 35 _ _ rfl g5 rfl k 7 rfl (hk7) _ Try.underlying35 Try.sizeOf3)) ?_
     simp only [Act.put, pu]
     refine pw_loadk (by rfl) 3 _ rfl _ (k) rfl r5.r (.int .i64 (L k)) (zC_get L (hk7)) Try.isAgg3 ?_
     simp only [Act.put, pu]
     refine pw_value (by rfl) (.int .i64 y) (x_an _ _ _ _ rfl (L k) 7 y rfl rfl hy) ?_
     simp only [Act.put, pu]
     refine pw_value (by rfl) (.bool false) (exec_eql_k .i64 _ _ _ _ rfl (y) (0) rfl rfl false (hyb)) ?_
     simp only [Act.put, pu]
     refine pw_mv (by rfl) rfl rfl ?_
     simp only [Act.put, pu]
     refine pw_skip (by rfl) ?_
     simp only [Act.put, pu]
     refine pw_skip (by rfl) ?_
     simp only [Act.put, pu]
     refine pw_skip (by rfl) ?_
     simp only [Act.put, pu]
     refine pw_pick (by rfl) false (v := .bool false) rfl rfl rfl ?_
     simp only [Act.put, pu]
     refine pw_nil ?_
     (repeat ((fail_if_success with_reducible refine rg ?_); go_step))
     refine wp_region_pw ?_
     refine pw_mv (by rfl) rfl rfl ?_
     simp only [Act.put, pu]
     refine pw_mv (by rfl) rfl rfl ?_
     simp only [Act.put, pu]
     refine pw_value (by rfl) (.pointer (some ⟨gT, 0 + k * 1, none⟩)) ((exec_index_s 31 _ _ rfl gT 0 (n) (n) rfl (k) rfl (hkn) _ Try.underlying31 1 Try.sizeOf3)) ?_
     simp only [Act.put, pu]
     refine pw_loadk (by rfl) 3 _ rfl _ (0 + k * 1) rfl rT.r (.int .i64 (-1)) ((zC_get1 _ hkn).trans (by rw [updZ_at])) Try.isAgg3 ?_
     simp only [Act.put, pu]
     refine pw_value (by rfl) (.bool false) (exec_geq_i _ _ _ _ rfl (-1) (0) rfl rfl false (decide_eq_false (by omega))) ?_
     simp only [Act.put, pu]
     refine pw_nil ?_
     (repeat ((fail_if_success with_reducible refine rg ?_); go_step))
     refine wp_region_pw ?_
     refine pw_mv (by rfl) rfl rfl ?_
     simp only [Act.put, pu]
     refine pw_value (by rfl) (.int .i64 ((k + 1 : Nat))) (x_addz _ _ _ _ rfl (k) (1) ((k + 1 : Nat)) rfl rfl (by omega) (by omega) (by omega)) ?_
     simp only [Act.put, pu]
     refine pw_as (by rfl) rfl rfl ?_
     simp only [Act.put, pu]
     refine pw_nil ?_
     go_wp2
     go_roundg g
     case measure => omega
     case rel => exact ⟨k + 1, by omega, by rw [hms], by exact congrArg (fun x : Nat => Value.int .i64 (x : Int)) hln.symm, rfl, r4, r5, by rw [← htk]; exact rT, sb⟩
    | true =>
     have hlv : lqb L k = true := by show decide (an (L k) 7 = 0) = true; rw [hy]; exact hyb
     by_cases hlf : lnum L f k < f
     ·have hli := lnum_yes hlv hlf
      obtain ⟨c, hc⟩ : ∃ c, L k / 2 ^ 3 = c := ⟨_, rfl⟩
      have htl : tl H L f k = c := by unfold tl; rw [hli.1, if_pos rfl]; exact hc
      have hms : mst H L f (k + 1) = mst H L f k := if_neg (by rw [hli.1]; simp)
      have hln := hli.2
      have htk := tlK_succ H L f k
      rw [htl] at htk
      have hlm := lnum_le L f k
      clear htl hli hzv hlv HM
      generalize mst H L f k = ms at *
      generalize lnum L f k = m at *
      generalize tlK H L f k = Z0 at *
      (repeat ((fail_if_success with_reducible refine rg ?_); go_step))
      refine wp_region_pw ?_
      refine pw_mv (by rfl) rfl rfl ?_
      simp only [Act.put, pu]
      refine pw_mv (by rfl) rfl rfl ?_
      simp only [Act.put, pu]
      refine pw_value (by rfl) (.bool true) (exec_lt_b _ _ _ _ rfl (k) (n) rfl rfl true (decide_eq_true (by omega))) ?_
      simp only [Act.put, pu]
      refine pw_nil ?_
      (repeat ((fail_if_success with_reducible refine rg ?_); go_step))
      refine wp_region_pw ?_
      refine pw_mv (by rfl) rfl rfl ?_
      simp only [Act.put, pu]
      refine pw_value (by rfl) (.pointer (some ⟨g4, k, none⟩)) ((exec_index 35 _ _ rfl g4 rfl k 7 rfl (hk7) _ Try.underlying35 Try.sizeOf3)) ?_
      simp only [Act.put, pu]
      refine pw_loadk (by rfl) 3 _ rfl _ (k) rfl r4.r (.int .i64 (H k)) (zC_get H (hk7)) Try.isAgg3 ?_
      simp only [Act.put, pu]
      refine pw_value (by rfl) (.int .i64 h) (x_an _ _ _ _ rfl (H k) 1048575 h rfl rfl hh) ?_
      simp only [Act.put, pu]
      refine pw_as (by rfl) rfl rfl ?_
      simp only [Act.put, pu]
      refine pw_nil ?_
      (repeat ((fail_if_success with_reducible refine rg ?_); go_step))
      refine wp_region_pw ?_
      refine pw_mv (by rfl) rfl rfl ?_
      simp only [Act.put, pu]
      refine pw_mv (by rfl) rfl rfl ?_
      simp only [Act.put, pu]
      refine pw_mv (by rfl) rfl rfl ?_
      simp only [Act.put, pu]
      refine pw_value (by rfl) (.pointer (some ⟨gT, 0 + k * 1, none⟩)) ((exec_index_s 31 _ _ rfl gT 0 (n) (n) rfl (k) rfl (hkn) _ Try.underlying31 1 Try.sizeOf3)) ?_
      simp only [Act.put, pu]
      refine pw_putv (by rfl) 3 _ _ rfl _ (0 + k * 1) rfl rT (.int .i64 h) rfl rfl rfl size1tint (by rw [zC_size]; omega) (zC n (updZ Z0 k h)) (zC_upd Z0 hkn h) ?_
      clear rT
      intro z9004 rT k
      simp only [Act.put]
      replace r4 := k.row r4 (by simp <;> omega)
      replace r5 := k.row r5 (by simp <;> omega)
      replace sb := sb.trans (k.below w.heap.size sb.size (by simp <;> omega))
      clear k
      refine pw_nil ?_
      (repeat ((fail_if_success with_reducible refine rg ?_); go_step))
      refine wp_region_pw ?_
      refine pw_mv (by rfl) rfl rfl ?_
      simp only [Act.put, pu]
      refine pw_value (by rfl) (.pointer (some ⟨g4, k, none⟩)) ((exec_index 35 _ _ rfl g4 rfl k 7 rfl (hk7) _ Try.underlying35 Try.sizeOf3)) ?_
      simp only [Act.put, pu]
      refine pw_loadk (by rfl) 3 _ rfl _ (k) rfl r4.r (.int .i64 (H k)) (zC_get H (hk7)) Try.isAgg3 ?_
      simp only [Act.put, pu]
      refine pw_value (by rfl) (.int .i64 x) (x_shz _ _ _ _ rfl (H k) 20 x rfl rfl (by decide) hx) ?_
      simp only [Act.put, pu]
      refine pw_value (by rfl) (.int .i64 q) (x_an _ _ _ _ rfl (x) 3 q rfl rfl hq) ?_
      simp only [Act.put, pu]
      refine pw_value (by rfl) (.bool true) (exec_eql_k .i64 _ _ _ _ rfl (q) (0) rfl rfl true (hqb)) ?_
      simp only [Act.put, pu]
      refine pw_nil ?_
      (repeat ((fail_if_success with_reducible refine rg ?_); go_step))
      refine wp_region_pw ?_
      refine pw_mv (by rfl) rfl rfl ?_
      simp only [Act.put, pu]
      refine pw_mv (by rfl) rfl rfl ?_
      simp only [Act.put, pu]
      refine pw_value (by rfl) (.pointer (some ⟨gT, 0 + k * 1, none⟩)) ((exec_index_s 31 _ _ rfl gT 0 (n) (n) rfl (k) rfl (hkn) _ Try.underlying31 1 Try.sizeOf3)) ?_
      simp only [Act.put, pu]
      refine pw_putv (by rfl) 3 _ _ rfl _ (0 + k * 1) rfl rT (.int .i64 (-1)) rfl rfl rfl size1tint (by rw [zC_size]; omega) (zC n (updZ Z0 k (-1))) ((zC_upd _ hkn _).trans (by rw [updZ_two])) ?_
      clear rT
      intro z11003 rT k
      simp only [Act.put]
      replace r4 := k.row r4 (by simp <;> omega)
      replace r5 := k.row r5 (by simp <;> omega)
      replace sb := sb.trans (k.below w.heap.size sb.size (by simp <;> omega))
      clear k
      refine pw_nil ?_
      (repeat ((fail_if_success with_reducible refine rg ?_); go_step))
      refine wp_region_pw ?_
      refine pw_mv (by rfl) rfl rfl ?_
      simp only [Act.put, pu]
      refine pw_value (by rfl) (.pointer (some ⟨g5, k, none⟩)) ((exec_index 35 _ _ rfl g5 rfl k 7 rfl (hk7) _ Try.underlying35 Try.sizeOf3)) ?_
      simp only [Act.put, pu]
      refine pw_loadk (by rfl) 3 _ rfl _ (k) rfl r5.r (.int .i64 (L k)) (zC_get L (hk7)) Try.isAgg3 ?_
      simp only [Act.put, pu]
      refine pw_value (by rfl) (.int .i64 y) (x_an _ _ _ _ rfl (L k) 7 y rfl rfl hy) ?_
      simp only [Act.put, pu]
      refine pw_value (by rfl) (.bool true) (exec_eql_k .i64 _ _ _ _ rfl (y) (0) rfl rfl true (hyb)) ?_
      simp only [Act.put, pu]
      refine pw_mv (by rfl) rfl rfl ?_
      simp only [Act.put, pu]
      refine pw_mv (by rfl) rfl rfl ?_
      simp only [Act.put, pu]
      refine pw_mv (by rfl) rfl rfl ?_
      simp only [Act.put, pu]
      refine pw_value (by rfl) (.bool true) (exec_lt_b _ _ _ _ rfl ((m : Nat)) ((f : Nat)) rfl rfl true (decide_eq_true (by omega))) ?_
      simp only [Act.put, pu]
      refine pw_pick (by rfl) true (v := .bool true) rfl rfl rfl ?_
      simp only [Act.put, pu]
      refine pw_nil ?_
      (repeat ((fail_if_success with_reducible refine rg ?_); go_step))
      refine wp_region_pw ?_
      refine pw_mv (by rfl) rfl rfl ?_
      simp only [Act.put, pu]
      refine pw_mv (by rfl) rfl rfl ?_
      simp only [Act.put, pu]
      refine pw_mv (by rfl) rfl rfl ?_
      simp only [Act.put, pu]
      refine pw_value (by rfl) (.pointer (some ⟨g5, k, none⟩)) ((exec_index 35 _ _ rfl g5 rfl k 7 rfl (hk7) _ Try.underlying35 Try.sizeOf3)) ?_
      simp only [Act.put, pu]
      refine pw_loadk (by rfl) 3 _ rfl _ (k) rfl r5.r (.int .i64 (L k)) (zC_get L (hk7)) Try.isAgg3 ?_
      simp only [Act.put, pu]
      refine pw_value (by rfl) (.int .i64 c) (x_shz _ _ _ _ rfl (L k) 3 c rfl rfl (by decide) hc) ?_
      simp only [Act.put, pu]
      refine pw_value (by rfl) (.pointer (some ⟨gT, 0 + k * 1, none⟩)) ((exec_index_s 31 _ _ rfl gT 0 (n) (n) rfl (k) rfl (hkn) _ Try.underlying31 1 Try.sizeOf3)) ?_
      simp only [Act.put, pu]
      refine pw_putv (by rfl) 3 _ _ rfl _ (0 + k * 1) rfl rT (.int .i64 c) rfl rfl rfl size1tint (by rw [zC_size]; omega) (zC n (updZ Z0 k c)) ((zC_upd _ hkn _).trans (by rw [updZ_two])) ?_
      clear rT
      intro z13007 rT k
      simp only [Act.put]
      replace r4 := k.row r4 (by simp <;> omega)
      replace r5 := k.row r5 (by simp <;> omega)
      replace sb := sb.trans (k.below w.heap.size sb.size (by simp <;> omega))
      clear k
      refine pw_nil ?_
      (repeat ((fail_if_success with_reducible refine rg ?_); go_step))
      refine wp_region_pw ?_
      refine pw_mv (by rfl) rfl rfl ?_
      simp only [Act.put, pu]
      refine pw_value (by rfl) (.int .i64 ((m + 1 : Nat))) (x_addz _ _ _ _ rfl ((m : Nat)) (1) ((m + 1 : Nat)) rfl rfl (by omega) (by omega) (by omega)) ?_
      simp only [Act.put, pu]
      refine pw_as (by rfl) rfl rfl ?_
      simp only [Act.put, pu]
      refine pw_nil ?_
      (repeat ((fail_if_success with_reducible refine rg ?_); go_step))
      refine wp_region_pw ?_
      refine pw_mv (by rfl) rfl rfl ?_
      simp only [Act.put, pu]
      refine pw_value (by rfl) (.int .i64 ((k + 1 : Nat))) (x_addz _ _ _ _ rfl (k) (1) ((k + 1 : Nat)) rfl rfl (by omega) (by omega) (by omega)) ?_
      simp only [Act.put, pu]
      refine pw_as (by rfl) rfl rfl ?_
      simp only [Act.put, pu]
      refine pw_nil ?_
      go_wp2
      go_roundg g
      case measure => omega
      case rel => exact ⟨k + 1, by omega, by rw [hms], by exact congrArg (fun x : Nat => Value.int .i64 (x : Int)) hln.symm, rfl, r4, r5, by rw [← htk]; exact rT, sb⟩
     ·have hli := lnum_full hlv hlf
      have htl : tl H L f k = -1 := by unfold tl; rw [hli.1, if_neg Bool.false_ne_true, hzv]; rfl
      have hln := hli.2
      have hms : mst H L f (k + 1) = mst H L f k := if_neg (fun h => by rw [htl] at h; omega)
      have htk := tlK_succ H L f k
      rw [htl] at htk
      have hlm := lnum_le L f k
      clear htl hli hzv hlv HM
      generalize mst H L f k = ms at *
      generalize lnum L f k = m at *
      generalize tlK H L f k = Z0 at *
      (repeat ((fail_if_success with_reducible refine rg ?_); go_step))
      refine wp_region_pw ?_
      refine pw_mv (by rfl) rfl rfl ?_
      simp only [Act.put, pu]
      refine pw_mv (by rfl) rfl rfl ?_
      simp only [Act.put, pu]
      refine pw_value (by rfl) (.bool true) (exec_lt_b _ _ _ _ rfl (k) (n) rfl rfl true (decide_eq_true (by omega))) ?_
      simp only [Act.put, pu]
      refine pw_nil ?_
      (repeat ((fail_if_success with_reducible refine rg ?_); go_step))
      refine wp_region_pw ?_
      refine pw_mv (by rfl) rfl rfl ?_
      simp only [Act.put, pu]
      refine pw_value (by rfl) (.pointer (some ⟨g4, k, none⟩)) ((exec_index 35 _ _ rfl g4 rfl k 7 rfl (hk7) _ Try.underlying35 Try.sizeOf3)) ?_
      simp only [Act.put, pu]
      refine pw_loadk (by rfl) 3 _ rfl _ (k) rfl r4.r (.int .i64 (H k)) (zC_get H (hk7)) Try.isAgg3 ?_
      simp only [Act.put, pu]
      refine pw_value (by rfl) (.int .i64 h) (x_an _ _ _ _ rfl (H k) 1048575 h rfl rfl hh) ?_
      simp only [Act.put, pu]
      refine pw_as (by rfl) rfl rfl ?_
      simp only [Act.put, pu]
      refine pw_nil ?_
      (repeat ((fail_if_success with_reducible refine rg ?_); go_step))
      refine wp_region_pw ?_
      refine pw_mv (by rfl) rfl rfl ?_
      simp only [Act.put, pu]
      refine pw_mv (by rfl) rfl rfl ?_
      simp only [Act.put, pu]
      refine pw_mv (by rfl) rfl rfl ?_
      simp only [Act.put, pu]
      refine pw_value (by rfl) (.pointer (some ⟨gT, 0 + k * 1, none⟩)) ((exec_index_s 31 _ _ rfl gT 0 (n) (n) rfl (k) rfl (hkn) _ Try.underlying31 1 Try.sizeOf3)) ?_
      simp only [Act.put, pu]
      refine pw_putv (by rfl) 3 _ _ rfl _ (0 + k * 1) rfl rT (.int .i64 h) rfl rfl rfl size1tint (by rw [zC_size]; omega) (zC n (updZ Z0 k h)) (zC_upd Z0 hkn h) ?_
      clear rT
      intro z9004 rT k
      simp only [Act.put]
      replace r4 := k.row r4 (by simp <;> omega)
      replace r5 := k.row r5 (by simp <;> omega)
      replace sb := sb.trans (k.below w.heap.size sb.size (by simp <;> omega))
      clear k
      refine pw_nil ?_
      (repeat ((fail_if_success with_reducible refine rg ?_); go_step))
      refine wp_region_pw ?_
      refine pw_mv (by rfl) rfl rfl ?_
      simp only [Act.put, pu]
      refine pw_value (by rfl) (.pointer (some ⟨g4, k, none⟩)) ((exec_index 35 _ _ rfl g4 rfl k 7 rfl (hk7) _ Try.underlying35 Try.sizeOf3)) ?_
      simp only [Act.put, pu]
      refine pw_loadk (by rfl) 3 _ rfl _ (k) rfl r4.r (.int .i64 (H k)) (zC_get H (hk7)) Try.isAgg3 ?_
      simp only [Act.put, pu]
      refine pw_value (by rfl) (.int .i64 x) (x_shz _ _ _ _ rfl (H k) 20 x rfl rfl (by decide) hx) ?_
      simp only [Act.put, pu]
      refine pw_value (by rfl) (.int .i64 q) (x_an _ _ _ _ rfl (x) 3 q rfl rfl hq) ?_
      simp only [Act.put, pu]
      refine pw_value (by rfl) (.bool true) (exec_eql_k .i64 _ _ _ _ rfl (q) (0) rfl rfl true (hqb)) ?_
      simp only [Act.put, pu]
      refine pw_nil ?_
      (repeat ((fail_if_success with_reducible refine rg ?_); go_step))
      refine wp_region_pw ?_
      refine pw_mv (by rfl) rfl rfl ?_
      simp only [Act.put, pu]
      refine pw_mv (by rfl) rfl rfl ?_
      simp only [Act.put, pu]
      refine pw_value (by rfl) (.pointer (some ⟨gT, 0 + k * 1, none⟩)) ((exec_index_s 31 _ _ rfl gT 0 (n) (n) rfl (k) rfl (hkn) _ Try.underlying31 1 Try.sizeOf3)) ?_
      simp only [Act.put, pu]
      refine pw_putv (by rfl) 3 _ _ rfl _ (0 + k * 1) rfl rT (.int .i64 (-1)) rfl rfl rfl size1tint (by rw [zC_size]; omega) (zC n (updZ Z0 k (-1))) ((zC_upd _ hkn _).trans (by rw [updZ_two])) ?_
      clear rT
      intro z11003 rT k
      simp only [Act.put]
      replace r4 := k.row r4 (by simp <;> omega)
      replace r5 := k.row r5 (by simp <;> omega)
      replace sb := sb.trans (k.below w.heap.size sb.size (by simp <;> omega))
      clear k
      refine pw_nil ?_
      (repeat ((fail_if_success with_reducible refine rg ?_); go_step))
      refine wp_region_pw ?_
      refine pw_mv (by rfl) rfl rfl ?_
      simp only [Act.put, pu]
      refine pw_value (by rfl) (.pointer (some ⟨g5, k, none⟩)) ((exec_index 35 _ _ rfl g5 rfl k 7 rfl (hk7) _ Try.underlying35 Try.sizeOf3)) ?_
      simp only [Act.put, pu]
      refine pw_loadk (by rfl) 3 _ rfl _ (k) rfl r5.r (.int .i64 (L k)) (zC_get L (hk7)) Try.isAgg3 ?_
      simp only [Act.put, pu]
      refine pw_value (by rfl) (.int .i64 y) (x_an _ _ _ _ rfl (L k) 7 y rfl rfl hy) ?_
      simp only [Act.put, pu]
      refine pw_value (by rfl) (.bool true) (exec_eql_k .i64 _ _ _ _ rfl (y) (0) rfl rfl true (hyb)) ?_
      simp only [Act.put, pu]
      refine pw_mv (by rfl) rfl rfl ?_
      simp only [Act.put, pu]
      refine pw_mv (by rfl) rfl rfl ?_
      simp only [Act.put, pu]
      refine pw_mv (by rfl) rfl rfl ?_
      simp only [Act.put, pu]
      refine pw_value (by rfl) (.bool false) (exec_lt_b _ _ _ _ rfl ((m : Nat)) ((f : Nat)) rfl rfl false (decide_eq_false (by omega))) ?_
      simp only [Act.put, pu]
      refine pw_pick (by rfl) true (v := .bool false) rfl rfl rfl ?_
      simp only [Act.put, pu]
      refine pw_nil ?_
      (repeat ((fail_if_success with_reducible refine rg ?_); go_step))
      refine wp_region_pw ?_
      refine pw_mv (by rfl) rfl rfl ?_
      simp only [Act.put, pu]
      refine pw_mv (by rfl) rfl rfl ?_
      simp only [Act.put, pu]
      refine pw_value (by rfl) (.pointer (some ⟨gT, 0 + k * 1, none⟩)) ((exec_index_s 31 _ _ rfl gT 0 (n) (n) rfl (k) rfl (hkn) _ Try.underlying31 1 Try.sizeOf3)) ?_
      simp only [Act.put, pu]
      refine pw_loadk (by rfl) 3 _ rfl _ (0 + k * 1) rfl rT.r (.int .i64 (-1)) ((zC_get1 _ hkn).trans (by rw [updZ_at])) Try.isAgg3 ?_
      simp only [Act.put, pu]
      refine pw_value (by rfl) (.bool false) (exec_geq_i _ _ _ _ rfl (-1) (0) rfl rfl false (decide_eq_false (by omega))) ?_
      simp only [Act.put, pu]
      refine pw_nil ?_
      (repeat ((fail_if_success with_reducible refine rg ?_); go_step))
      refine wp_region_pw ?_
      refine pw_mv (by rfl) rfl rfl ?_
      simp only [Act.put, pu]
      refine pw_value (by rfl) (.int .i64 ((k + 1 : Nat))) (x_addz _ _ _ _ rfl (k) (1) ((k + 1 : Nat)) rfl rfl (by omega) (by omega) (by omega)) ?_
      simp only [Act.put, pu]
      refine pw_as (by rfl) rfl rfl ?_
      simp only [Act.put, pu]
      refine pw_nil ?_
      go_wp2
      go_roundg g
      case measure => omega
      case rel => exact ⟨k + 1, by omega, by rw [hms], by exact congrArg (fun x : Nat => Value.int .i64 (x : Int)) hln.symm, rfl, r4, r5, by rw [← htk]; exact rT, sb⟩
   | false =>
    have hzv : hzb H k = false := by show decide (an (H k / 2 ^ 20) 3 = 0) = false; rw [hx, hq]; exact hqb
    cases hyb : decide (y = 0) with
    | false =>
     have hlv : lqb L k = false := by show decide (an (L k) 7 = 0) = false; rw [hy]; exact hyb
     have hli := lnum_no (f := f) hlv
     have htl : tl H L f k = h := by unfold tl; rw [hli.1, if_neg Bool.false_ne_true, hzv]; exact hh
     have hln := hli.2
     by_cases h0 : 0 ≤ h
     ·have hms : mst H L f (k + 1) = max (mst H L f k) h := by rw [← HM.out]; exact if_pos ⟨hli.1, by rw [htl]; exact h0⟩
      have htk := tlK_succ H L f k
      rw [htl] at htk
      have hlm := lnum_le L f k
      clear htl hli hzv hlv HM
      generalize mst H L f k = ms at *
      generalize lnum L f k = m at *
      generalize tlK H L f k = Z0 at *
      (repeat ((fail_if_success with_reducible refine rg ?_); go_step))
      refine wp_region_pw ?_
      refine pw_mv (by rfl) rfl rfl ?_
      simp only [Act.put, pu]
      refine pw_mv (by rfl) rfl rfl ?_
      simp only [Act.put, pu]
      refine pw_value (by rfl) (.bool true) (exec_lt_b _ _ _ _ rfl (k) (n) rfl rfl true (decide_eq_true (by omega))) ?_
      simp only [Act.put, pu]
      refine pw_nil ?_
      (repeat ((fail_if_success with_reducible refine rg ?_); go_step))
      refine wp_region_pw ?_
      refine pw_mv (by rfl) rfl rfl ?_
      simp only [Act.put, pu]
      refine pw_value (by rfl) (.pointer (some ⟨g4, k, none⟩)) ((exec_index 35 _ _ rfl g4 rfl k 7 rfl (hk7) _ Try.underlying35 Try.sizeOf3)) ?_
      simp only [Act.put, pu]
      refine pw_loadk (by rfl) 3 _ rfl _ (k) rfl r4.r (.int .i64 (H k)) (zC_get H (hk7)) Try.isAgg3 ?_
      simp only [Act.put, pu]
      refine pw_value (by rfl) (.int .i64 h) (x_an _ _ _ _ rfl (H k) 1048575 h rfl rfl hh) ?_
      simp only [Act.put, pu]
      refine pw_as (by rfl) rfl rfl ?_
      simp only [Act.put, pu]
      refine pw_nil ?_
      (repeat ((fail_if_success with_reducible refine rg ?_); go_step))
      refine wp_region_pw ?_
      refine pw_mv (by rfl) rfl rfl ?_
      simp only [Act.put, pu]
      refine pw_mv (by rfl) rfl rfl ?_
      simp only [Act.put, pu]
      refine pw_mv (by rfl) rfl rfl ?_
      simp only [Act.put, pu]
      refine pw_value (by rfl) (.pointer (some ⟨gT, 0 + k * 1, none⟩)) ((exec_index_s 31 _ _ rfl gT 0 (n) (n) rfl (k) rfl (hkn) _ Try.underlying31 1 Try.sizeOf3)) ?_
      simp only [Act.put, pu]
      refine pw_putv (by rfl) 3 _ _ rfl _ (0 + k * 1) rfl rT (.int .i64 h) rfl rfl rfl size1tint (by rw [zC_size]; omega) (zC n (updZ Z0 k h)) (zC_upd Z0 hkn h) ?_
      clear rT
      intro z9004 rT k
      simp only [Act.put]
      replace r4 := k.row r4 (by simp <;> omega)
      replace r5 := k.row r5 (by simp <;> omega)
      replace sb := sb.trans (k.below w.heap.size sb.size (by simp <;> omega))
      clear k
      refine pw_nil ?_
      (repeat ((fail_if_success with_reducible refine rg ?_); go_step))
      refine wp_region_pw ?_
      refine pw_mv (by rfl) rfl rfl ?_
      simp only [Act.put, pu]
      refine pw_value (by rfl) (.pointer (some ⟨g4, k, none⟩)) ((exec_index 35 _ _ rfl g4 rfl k 7 rfl (hk7) _ Try.underlying35 Try.sizeOf3)) ?_
      simp only [Act.put, pu]
      refine pw_loadk (by rfl) 3 _ rfl _ (k) rfl r4.r (.int .i64 (H k)) (zC_get H (hk7)) Try.isAgg3 ?_
      simp only [Act.put, pu]
      refine pw_value (by rfl) (.int .i64 x) (x_shz _ _ _ _ rfl (H k) 20 x rfl rfl (by decide) hx) ?_
      simp only [Act.put, pu]
      refine pw_value (by rfl) (.int .i64 q) (x_an _ _ _ _ rfl (x) 3 q rfl rfl hq) ?_
      simp only [Act.put, pu]
      refine pw_value (by rfl) (.bool false) (exec_eql_k .i64 _ _ _ _ rfl (q) (0) rfl rfl false (hqb)) ?_
      simp only [Act.put, pu]
      refine pw_nil ?_
      (repeat ((fail_if_success with_reducible refine rg ?_); go_step))
      refine wp_region_pw ?_
      refine pw_mv (by rfl) rfl rfl ?_
      simp only [Act.put, pu]
      refine pw_value (by rfl) (.pointer (some ⟨g5, k, none⟩)) ((exec_index 35 _ _ rfl g5 rfl k 7 rfl (hk7) _ Try.underlying35 Try.sizeOf3)) ?_
      simp only [Act.put, pu]
      refine pw_loadk (by rfl) 3 _ rfl _ (k) rfl r5.r (.int .i64 (L k)) (zC_get L (hk7)) Try.isAgg3 ?_
      simp only [Act.put, pu]
      refine pw_value (by rfl) (.int .i64 y) (x_an _ _ _ _ rfl (L k) 7 y rfl rfl hy) ?_
      simp only [Act.put, pu]
      refine pw_value (by rfl) (.bool false) (exec_eql_k .i64 _ _ _ _ rfl (y) (0) rfl rfl false (hyb)) ?_
      simp only [Act.put, pu]
      refine pw_mv (by rfl) rfl rfl ?_
      simp only [Act.put, pu]
      refine pw_skip (by rfl) ?_
      simp only [Act.put, pu]
      refine pw_skip (by rfl) ?_
      simp only [Act.put, pu]
      refine pw_skip (by rfl) ?_
      simp only [Act.put, pu]
      refine pw_pick (by rfl) false (v := .bool false) rfl rfl rfl ?_
      simp only [Act.put, pu]
      refine pw_nil ?_
      (repeat ((fail_if_success with_reducible refine rg ?_); go_step))
      refine wp_region_pw ?_
      refine pw_mv (by rfl) rfl rfl ?_
      simp only [Act.put, pu]
      refine pw_mv (by rfl) rfl rfl ?_
      simp only [Act.put, pu]
      refine pw_value (by rfl) (.pointer (some ⟨gT, 0 + k * 1, none⟩)) ((exec_index_s 31 _ _ rfl gT 0 (n) (n) rfl (k) rfl (hkn) _ Try.underlying31 1 Try.sizeOf3)) ?_
      simp only [Act.put, pu]
      refine pw_loadk (by rfl) 3 _ rfl _ (0 + k * 1) rfl rT.r (.int .i64 (h)) ((zC_get1 _ hkn).trans (by rw [updZ_at])) Try.isAgg3 ?_
      simp only [Act.put, pu]
      refine pw_value (by rfl) (.bool true) (exec_geq_i _ _ _ _ rfl (h) (0) rfl rfl true (decide_eq_true (by omega))) ?_
      simp only [Act.put, pu]
      refine pw_nil ?_
      (repeat ((fail_if_success with_reducible refine rg ?_); go_step))
      refine wp_region_pw ?_
      refine pw_mv (by rfl) rfl rfl ?_
      simp only [Act.put, pu]
      refine pw_mv (by rfl) rfl rfl ?_
      simp only [Act.put, pu]
      refine pw_value (by rfl) (.int .i64 (max ms h)) (x_max2 _ _ _ _ rfl ms h rfl rfl) ?_
      simp only [Act.put, pu]
      refine pw_as (by rfl) rfl rfl ?_
      simp only [Act.put, pu]
      refine pw_nil ?_
      (repeat ((fail_if_success with_reducible refine rg ?_); go_step))
      refine wp_region_pw ?_
      refine pw_mv (by rfl) rfl rfl ?_
      simp only [Act.put, pu]
      refine pw_value (by rfl) (.int .i64 ((k + 1 : Nat))) (x_addz _ _ _ _ rfl (k) (1) ((k + 1 : Nat)) rfl rfl (by omega) (by omega) (by omega)) ?_
      simp only [Act.put, pu]
      refine pw_as (by rfl) rfl rfl ?_
      simp only [Act.put, pu]
      refine pw_nil ?_
      go_wp2
      go_roundg g
      case measure => omega
      case rel => exact ⟨k + 1, by omega, by rw [hms], by exact congrArg (fun x : Nat => Value.int .i64 (x : Int)) hln.symm, rfl, r4, r5, by rw [← htk]; exact rT, sb⟩
     ·have hms : mst H L f (k + 1) = mst H L f k := if_neg (fun h => by rw [htl] at h; omega)
      have htk := tlK_succ H L f k
      rw [htl] at htk
      have hlm := lnum_le L f k
      clear htl hli hzv hlv HM
      generalize mst H L f k = ms at *
      generalize lnum L f k = m at *
      generalize tlK H L f k = Z0 at *
      (repeat ((fail_if_success with_reducible refine rg ?_); go_step))
      refine wp_region_pw ?_
      refine pw_mv (by rfl) rfl rfl ?_
      simp only [Act.put, pu]
      refine pw_mv (by rfl) rfl rfl ?_
      simp only [Act.put, pu]
      refine pw_value (by rfl) (.bool true) (exec_lt_b _ _ _ _ rfl (k) (n) rfl rfl true (decide_eq_true (by omega))) ?_
      simp only [Act.put, pu]
      refine pw_nil ?_
      (repeat ((fail_if_success with_reducible refine rg ?_); go_step))
      refine wp_region_pw ?_
      refine pw_mv (by rfl) rfl rfl ?_
      simp only [Act.put, pu]
      refine pw_value (by rfl) (.pointer (some ⟨g4, k, none⟩)) ((exec_index 35 _ _ rfl g4 rfl k 7 rfl (hk7) _ Try.underlying35 Try.sizeOf3)) ?_
      simp only [Act.put, pu]
      refine pw_loadk (by rfl) 3 _ rfl _ (k) rfl r4.r (.int .i64 (H k)) (zC_get H (hk7)) Try.isAgg3 ?_
      simp only [Act.put, pu]
      refine pw_value (by rfl) (.int .i64 h) (x_an _ _ _ _ rfl (H k) 1048575 h rfl rfl hh) ?_
      simp only [Act.put, pu]
      refine pw_as (by rfl) rfl rfl ?_
      simp only [Act.put, pu]
      refine pw_nil ?_
      (repeat ((fail_if_success with_reducible refine rg ?_); go_step))
      refine wp_region_pw ?_
      refine pw_mv (by rfl) rfl rfl ?_
      simp only [Act.put, pu]
      refine pw_mv (by rfl) rfl rfl ?_
      simp only [Act.put, pu]
      refine pw_mv (by rfl) rfl rfl ?_
      simp only [Act.put, pu]
      refine pw_value (by rfl) (.pointer (some ⟨gT, 0 + k * 1, none⟩)) ((exec_index_s 31 _ _ rfl gT 0 (n) (n) rfl (k) rfl (hkn) _ Try.underlying31 1 Try.sizeOf3)) ?_
      simp only [Act.put, pu]
      refine pw_putv (by rfl) 3 _ _ rfl _ (0 + k * 1) rfl rT (.int .i64 h) rfl rfl rfl size1tint (by rw [zC_size]; omega) (zC n (updZ Z0 k h)) (zC_upd Z0 hkn h) ?_
      clear rT
      intro z9004 rT k
      simp only [Act.put]
      replace r4 := k.row r4 (by simp <;> omega)
      replace r5 := k.row r5 (by simp <;> omega)
      replace sb := sb.trans (k.below w.heap.size sb.size (by simp <;> omega))
      clear k
      refine pw_nil ?_
      (repeat ((fail_if_success with_reducible refine rg ?_); go_step))
      refine wp_region_pw ?_
      refine pw_mv (by rfl) rfl rfl ?_
      simp only [Act.put, pu]
      refine pw_value (by rfl) (.pointer (some ⟨g4, k, none⟩)) ((exec_index 35 _ _ rfl g4 rfl k 7 rfl (hk7) _ Try.underlying35 Try.sizeOf3)) ?_
      simp only [Act.put, pu]
      refine pw_loadk (by rfl) 3 _ rfl _ (k) rfl r4.r (.int .i64 (H k)) (zC_get H (hk7)) Try.isAgg3 ?_
      simp only [Act.put, pu]
      refine pw_value (by rfl) (.int .i64 x) (x_shz _ _ _ _ rfl (H k) 20 x rfl rfl (by decide) hx) ?_
      simp only [Act.put, pu]
      refine pw_value (by rfl) (.int .i64 q) (x_an _ _ _ _ rfl (x) 3 q rfl rfl hq) ?_
      simp only [Act.put, pu]
      refine pw_value (by rfl) (.bool false) (exec_eql_k .i64 _ _ _ _ rfl (q) (0) rfl rfl false (hqb)) ?_
      simp only [Act.put, pu]
      refine pw_nil ?_
      (repeat ((fail_if_success with_reducible refine rg ?_); go_step))
      refine wp_region_pw ?_
      refine pw_mv (by rfl) rfl rfl ?_
      simp only [Act.put, pu]
      refine pw_value (by rfl) (.pointer (some ⟨g5, k, none⟩)) ((exec_index 35 _ _ rfl g5 rfl k 7 rfl (hk7) _ Try.underlying35 Try.sizeOf3)) ?_
      simp only [Act.put, pu]
      refine pw_loadk (by rfl) 3 _ rfl _ (k) rfl r5.r (.int .i64 (L k)) (zC_get L (hk7)) Try.isAgg3 ?_
      simp only [Act.put, pu]
      refine pw_value (by rfl) (.int .i64 y) (x_an _ _ _ _ rfl (L k) 7 y rfl rfl hy) ?_
      simp only [Act.put, pu]
      refine pw_value (by rfl) (.bool false) (exec_eql_k .i64 _ _ _ _ rfl (y) (0) rfl rfl false (hyb)) ?_
      simp only [Act.put, pu]
      refine pw_mv (by rfl) rfl rfl ?_
      simp only [Act.put, pu]
      refine pw_skip (by rfl) ?_
      simp only [Act.put, pu]
      refine pw_skip (by rfl) ?_
      simp only [Act.put, pu]
      refine pw_skip (by rfl) ?_
      simp only [Act.put, pu]
      refine pw_pick (by rfl) false (v := .bool false) rfl rfl rfl ?_
      simp only [Act.put, pu]
      refine pw_nil ?_
      (repeat ((fail_if_success with_reducible refine rg ?_); go_step))
      refine wp_region_pw ?_
      refine pw_mv (by rfl) rfl rfl ?_
      simp only [Act.put, pu]
      refine pw_mv (by rfl) rfl rfl ?_
      simp only [Act.put, pu]
      refine pw_value (by rfl) (.pointer (some ⟨gT, 0 + k * 1, none⟩)) ((exec_index_s 31 _ _ rfl gT 0 (n) (n) rfl (k) rfl (hkn) _ Try.underlying31 1 Try.sizeOf3)) ?_
      simp only [Act.put, pu]
      refine pw_loadk (by rfl) 3 _ rfl _ (0 + k * 1) rfl rT.r (.int .i64 (h)) ((zC_get1 _ hkn).trans (by rw [updZ_at])) Try.isAgg3 ?_
      simp only [Act.put, pu]
      refine pw_value (by rfl) (.bool false) (exec_geq_i _ _ _ _ rfl (h) (0) rfl rfl false (decide_eq_false (by omega))) ?_
      simp only [Act.put, pu]
      refine pw_nil ?_
      (repeat ((fail_if_success with_reducible refine rg ?_); go_step))
      refine wp_region_pw ?_
      refine pw_mv (by rfl) rfl rfl ?_
      simp only [Act.put, pu]
      refine pw_value (by rfl) (.int .i64 ((k + 1 : Nat))) (x_addz _ _ _ _ rfl (k) (1) ((k + 1 : Nat)) rfl rfl (by omega) (by omega) (by omega)) ?_
      simp only [Act.put, pu]
      refine pw_as (by rfl) rfl rfl ?_
      simp only [Act.put, pu]
      refine pw_nil ?_
      go_wp2
      go_roundg g
      case measure => omega
      case rel => exact ⟨k + 1, by omega, by rw [hms], by exact congrArg (fun x : Nat => Value.int .i64 (x : Int)) hln.symm, rfl, r4, r5, by rw [← htk]; exact rT, sb⟩
    | true =>
     have hlv : lqb L k = true := by show decide (an (L k) 7 = 0) = true; rw [hy]; exact hyb
     by_cases hlf : lnum L f k < f
     ·have hli := lnum_yes hlv hlf
      obtain ⟨c, hc⟩ : ∃ c, L k / 2 ^ 3 = c := ⟨_, rfl⟩
      have htl : tl H L f k = c := by unfold tl; rw [hli.1, if_pos rfl]; exact hc
      have hms : mst H L f (k + 1) = mst H L f k := if_neg (by rw [hli.1]; simp)
      have hln := hli.2
      have htk := tlK_succ H L f k
      rw [htl] at htk
      have hlm := lnum_le L f k
      clear htl hli hzv hlv HM
      generalize mst H L f k = ms at *
      generalize lnum L f k = m at *
      generalize tlK H L f k = Z0 at *
      (repeat ((fail_if_success with_reducible refine rg ?_); go_step))
      refine wp_region_pw ?_
      refine pw_mv (by rfl) rfl rfl ?_
      simp only [Act.put, pu]
      refine pw_mv (by rfl) rfl rfl ?_
      simp only [Act.put, pu]
      refine pw_value (by rfl) (.bool true) (exec_lt_b _ _ _ _ rfl (k) (n) rfl rfl true (decide_eq_true (by omega))) ?_
      simp only [Act.put, pu]
      refine pw_nil ?_
      (repeat ((fail_if_success with_reducible refine rg ?_); go_step))
      refine wp_region_pw ?_
      refine pw_mv (by rfl) rfl rfl ?_
      simp only [Act.put, pu]
      refine pw_value (by rfl) (.pointer (some ⟨g4, k, none⟩)) ((exec_index 35 _ _ rfl g4 rfl k 7 rfl (hk7) _ Try.underlying35 Try.sizeOf3)) ?_
      simp only [Act.put, pu]
      refine pw_loadk (by rfl) 3 _ rfl _ (k) rfl r4.r (.int .i64 (H k)) (zC_get H (hk7)) Try.isAgg3 ?_
      simp only [Act.put, pu]
      refine pw_value (by rfl) (.int .i64 h) (x_an _ _ _ _ rfl (H k) 1048575 h rfl rfl hh) ?_
      simp only [Act.put, pu]
      refine pw_as (by rfl) rfl rfl ?_
      simp only [Act.put, pu]
      refine pw_nil ?_
      (repeat ((fail_if_success with_reducible refine rg ?_); go_step))
      refine wp_region_pw ?_
      refine pw_mv (by rfl) rfl rfl ?_
      simp only [Act.put, pu]
      refine pw_mv (by rfl) rfl rfl ?_
      simp only [Act.put, pu]
      refine pw_mv (by rfl) rfl rfl ?_
      simp only [Act.put, pu]
      refine pw_value (by rfl) (.pointer (some ⟨gT, 0 + k * 1, none⟩)) ((exec_index_s 31 _ _ rfl gT 0 (n) (n) rfl (k) rfl (hkn) _ Try.underlying31 1 Try.sizeOf3)) ?_
      simp only [Act.put, pu]
      refine pw_putv (by rfl) 3 _ _ rfl _ (0 + k * 1) rfl rT (.int .i64 h) rfl rfl rfl size1tint (by rw [zC_size]; omega) (zC n (updZ Z0 k h)) (zC_upd Z0 hkn h) ?_
      clear rT
      intro z9004 rT k
      simp only [Act.put]
      replace r4 := k.row r4 (by simp <;> omega)
      replace r5 := k.row r5 (by simp <;> omega)
      replace sb := sb.trans (k.below w.heap.size sb.size (by simp <;> omega))
      clear k
      refine pw_nil ?_
      (repeat ((fail_if_success with_reducible refine rg ?_); go_step))
      refine wp_region_pw ?_
      refine pw_mv (by rfl) rfl rfl ?_
      simp only [Act.put, pu]
      refine pw_value (by rfl) (.pointer (some ⟨g4, k, none⟩)) ((exec_index 35 _ _ rfl g4 rfl k 7 rfl (hk7) _ Try.underlying35 Try.sizeOf3)) ?_
      simp only [Act.put, pu]
      refine pw_loadk (by rfl) 3 _ rfl _ (k) rfl r4.r (.int .i64 (H k)) (zC_get H (hk7)) Try.isAgg3 ?_
      simp only [Act.put, pu]
      refine pw_value (by rfl) (.int .i64 x) (x_shz _ _ _ _ rfl (H k) 20 x rfl rfl (by decide) hx) ?_
      simp only [Act.put, pu]
      refine pw_value (by rfl) (.int .i64 q) (x_an _ _ _ _ rfl (x) 3 q rfl rfl hq) ?_
      simp only [Act.put, pu]
      refine pw_value (by rfl) (.bool false) (exec_eql_k .i64 _ _ _ _ rfl (q) (0) rfl rfl false (hqb)) ?_
      simp only [Act.put, pu]
      refine pw_nil ?_
      (repeat ((fail_if_success with_reducible refine rg ?_); go_step))
      refine wp_region_pw ?_
      refine pw_mv (by rfl) rfl rfl ?_
      simp only [Act.put, pu]
      refine pw_value (by rfl) (.pointer (some ⟨g5, k, none⟩)) ((exec_index 35 _ _ rfl g5 rfl k 7 rfl (hk7) _ Try.underlying35 Try.sizeOf3)) ?_
      simp only [Act.put, pu]
      refine pw_loadk (by rfl) 3 _ rfl _ (k) rfl r5.r (.int .i64 (L k)) (zC_get L (hk7)) Try.isAgg3 ?_
      simp only [Act.put, pu]
      refine pw_value (by rfl) (.int .i64 y) (x_an _ _ _ _ rfl (L k) 7 y rfl rfl hy) ?_
      simp only [Act.put, pu]
      refine pw_value (by rfl) (.bool true) (exec_eql_k .i64 _ _ _ _ rfl (y) (0) rfl rfl true (hyb)) ?_
      simp only [Act.put, pu]
      refine pw_mv (by rfl) rfl rfl ?_
      simp only [Act.put, pu]
      refine pw_mv (by rfl) rfl rfl ?_
      simp only [Act.put, pu]
      refine pw_mv (by rfl) rfl rfl ?_
      simp only [Act.put, pu]
      refine pw_value (by rfl) (.bool true) (exec_lt_b _ _ _ _ rfl ((m : Nat)) ((f : Nat)) rfl rfl true (decide_eq_true (by omega))) ?_
      simp only [Act.put, pu]
      refine pw_pick (by rfl) true (v := .bool true) rfl rfl rfl ?_
      simp only [Act.put, pu]
      refine pw_nil ?_
      (repeat ((fail_if_success with_reducible refine rg ?_); go_step))
      refine wp_region_pw ?_
      refine pw_mv (by rfl) rfl rfl ?_
      simp only [Act.put, pu]
      refine pw_mv (by rfl) rfl rfl ?_
      simp only [Act.put, pu]
      refine pw_mv (by rfl) rfl rfl ?_
      simp only [Act.put, pu]
      refine pw_value (by rfl) (.pointer (some ⟨g5, k, none⟩)) ((exec_index 35 _ _ rfl g5 rfl k 7 rfl (hk7) _ Try.underlying35 Try.sizeOf3)) ?_
      simp only [Act.put, pu]
      refine pw_loadk (by rfl) 3 _ rfl _ (k) rfl r5.r (.int .i64 (L k)) (zC_get L (hk7)) Try.isAgg3 ?_
      simp only [Act.put, pu]
      refine pw_value (by rfl) (.int .i64 c) (x_shz _ _ _ _ rfl (L k) 3 c rfl rfl (by decide) hc) ?_
      simp only [Act.put, pu]
      refine pw_value (by rfl) (.pointer (some ⟨gT, 0 + k * 1, none⟩)) ((exec_index_s 31 _ _ rfl gT 0 (n) (n) rfl (k) rfl (hkn) _ Try.underlying31 1 Try.sizeOf3)) ?_
      simp only [Act.put, pu]
      refine pw_putv (by rfl) 3 _ _ rfl _ (0 + k * 1) rfl rT (.int .i64 c) rfl rfl rfl size1tint (by rw [zC_size]; omega) (zC n (updZ Z0 k c)) ((zC_upd _ hkn _).trans (by rw [updZ_two])) ?_
      clear rT
      intro z13007 rT k
      simp only [Act.put]
      replace r4 := k.row r4 (by simp <;> omega)
      replace r5 := k.row r5 (by simp <;> omega)
      replace sb := sb.trans (k.below w.heap.size sb.size (by simp <;> omega))
      clear k
      refine pw_nil ?_
      (repeat ((fail_if_success with_reducible refine rg ?_); go_step))
      refine wp_region_pw ?_
      refine pw_mv (by rfl) rfl rfl ?_
      simp only [Act.put, pu]
      refine pw_value (by rfl) (.int .i64 ((m + 1 : Nat))) (x_addz _ _ _ _ rfl ((m : Nat)) (1) ((m + 1 : Nat)) rfl rfl (by omega) (by omega) (by omega)) ?_
      simp only [Act.put, pu]
      refine pw_as (by rfl) rfl rfl ?_
      simp only [Act.put, pu]
      refine pw_nil ?_
      (repeat ((fail_if_success with_reducible refine rg ?_); go_step))
      refine wp_region_pw ?_
      refine pw_mv (by rfl) rfl rfl ?_
      simp only [Act.put, pu]
      refine pw_value (by rfl) (.int .i64 ((k + 1 : Nat))) (x_addz _ _ _ _ rfl (k) (1) ((k + 1 : Nat)) rfl rfl (by omega) (by omega) (by omega)) ?_
      simp only [Act.put, pu]
      refine pw_as (by rfl) rfl rfl ?_
      simp only [Act.put, pu]
      refine pw_nil ?_
      go_wp2
      go_roundg g
      case measure => omega
      case rel => exact ⟨k + 1, by omega, by rw [hms], by exact congrArg (fun x : Nat => Value.int .i64 (x : Int)) hln.symm, rfl, r4, r5, by rw [← htk]; exact rT, sb⟩
     ·have hli := lnum_full hlv hlf
      have htl : tl H L f k = h := by unfold tl; rw [hli.1, if_neg Bool.false_ne_true, hzv]; exact hh
      have hln := hli.2
      by_cases h0 : 0 ≤ h
      ·have hms : mst H L f (k + 1) = max (mst H L f k) h := by rw [← HM.out]; exact if_pos ⟨hli.1, by rw [htl]; exact h0⟩
       have htk := tlK_succ H L f k
       rw [htl] at htk
       have hlm := lnum_le L f k
       clear htl hli hzv hlv HM
       generalize mst H L f k = ms at *
       generalize lnum L f k = m at *
       generalize tlK H L f k = Z0 at *
       (repeat ((fail_if_success with_reducible refine rg ?_); go_step))
       refine wp_region_pw ?_
       refine pw_mv (by rfl) rfl rfl ?_
       simp only [Act.put, pu]
       refine pw_mv (by rfl) rfl rfl ?_
       simp only [Act.put, pu]
       refine pw_value (by rfl) (.bool true) (exec_lt_b _ _ _ _ rfl (k) (n) rfl rfl true (decide_eq_true (by omega))) ?_
       simp only [Act.put, pu]
       refine pw_nil ?_
       (repeat ((fail_if_success with_reducible refine rg ?_); go_step))
       refine wp_region_pw ?_
       refine pw_mv (by rfl) rfl rfl ?_
       simp only [Act.put, pu]
       refine pw_value (by rfl) (.pointer (some ⟨g4, k, none⟩)) ((exec_index 35 _ _ rfl g4 rfl k 7 rfl (hk7) _ Try.underlying35 Try.sizeOf3)) ?_
       simp only [Act.put, pu]
       refine pw_loadk (by rfl) 3 _ rfl _ (k) rfl r4.r (.int .i64 (H k)) (zC_get H (hk7)) Try.isAgg3 ?_
       simp only [Act.put, pu]
       refine pw_value (by rfl) (.int .i64 h) (x_an _ _ _ _ rfl (H k) 1048575 h rfl rfl hh) ?_
       simp only [Act.put, pu]
       refine pw_as (by rfl) rfl rfl ?_
       simp only [Act.put, pu]
       refine pw_nil ?_
       (repeat ((fail_if_success with_reducible refine rg ?_); go_step))
       refine wp_region_pw ?_
       refine pw_mv (by rfl) rfl rfl ?_
       simp only [Act.put, pu]
       refine pw_mv (by rfl) rfl rfl ?_
       simp only [Act.put, pu]
       refine pw_mv (by rfl) rfl rfl ?_
       simp only [Act.put, pu]
       refine pw_value (by rfl) (.pointer (some ⟨gT, 0 + k * 1, none⟩)) ((exec_index_s 31 _ _ rfl gT 0 (n) (n) rfl (k) rfl (hkn) _ Try.underlying31 1 Try.sizeOf3)) ?_
       simp only [Act.put, pu]
       refine pw_putv (by rfl) 3 _ _ rfl _ (0 + k * 1) rfl rT (.int .i64 h) rfl rfl rfl size1tint (by rw [zC_size]; omega) (zC n (updZ Z0 k h)) (zC_upd Z0 hkn h) ?_
       clear rT
       intro z9004 rT k
       simp only [Act.put]
       replace r4 := k.row r4 (by simp <;> omega)
       replace r5 := k.row r5 (by simp <;> omega)
       replace sb := sb.trans (k.below w.heap.size sb.size (by simp <;> omega))
       clear k
       refine pw_nil ?_
       (repeat ((fail_if_success with_reducible refine rg ?_); go_step))
       refine wp_region_pw ?_
       refine pw_mv (by rfl) rfl rfl ?_
       simp only [Act.put, pu]
       refine pw_value (by rfl) (.pointer (some ⟨g4, k, none⟩)) ((exec_index 35 _ _ rfl g4 rfl k 7 rfl (hk7) _ Try.underlying35 Try.sizeOf3)) ?_
       simp only [Act.put, pu]
       refine pw_loadk (by rfl) 3 _ rfl _ (k) rfl r4.r (.int .i64 (H k)) (zC_get H (hk7)) Try.isAgg3 ?_
       simp only [Act.put, pu]
       refine pw_value (by rfl) (.int .i64 x) (x_shz _ _ _ _ rfl (H k) 20 x rfl rfl (by decide) hx) ?_
       simp only [Act.put, pu]
       refine pw_value (by rfl) (.int .i64 q) (x_an _ _ _ _ rfl (x) 3 q rfl rfl hq) ?_
       simp only [Act.put, pu]
       refine pw_value (by rfl) (.bool false) (exec_eql_k .i64 _ _ _ _ rfl (q) (0) rfl rfl false (hqb)) ?_
       simp only [Act.put, pu]
       refine pw_nil ?_
       (repeat ((fail_if_success with_reducible refine rg ?_); go_step))
       refine wp_region_pw ?_
       refine pw_mv (by rfl) rfl rfl ?_
       simp only [Act.put, pu]
       refine pw_value (by rfl) (.pointer (some ⟨g5, k, none⟩)) ((exec_index 35 _ _ rfl g5 rfl k 7 rfl (hk7) _ Try.underlying35 Try.sizeOf3)) ?_
       simp only [Act.put, pu]
       refine pw_loadk (by rfl) 3 _ rfl _ (k) rfl r5.r (.int .i64 (L k)) (zC_get L (hk7)) Try.isAgg3 ?_
       simp only [Act.put, pu]
       refine pw_value (by rfl) (.int .i64 y) (x_an _ _ _ _ rfl (L k) 7 y rfl rfl hy) ?_
       simp only [Act.put, pu]
       refine pw_value (by rfl) (.bool true) (exec_eql_k .i64 _ _ _ _ rfl (y) (0) rfl rfl true (hyb)) ?_
       simp only [Act.put, pu]
       refine pw_mv (by rfl) rfl rfl ?_
       simp only [Act.put, pu]
       refine pw_mv (by rfl) rfl rfl ?_
       simp only [Act.put, pu]
       refine pw_mv (by rfl) rfl rfl ?_
       simp only [Act.put, pu]
       refine pw_value (by rfl) (.bool false) (exec_lt_b _ _ _ _ rfl ((m : Nat)) ((f : Nat)) rfl rfl false (decide_eq_false (by omega))) ?_
       simp only [Act.put, pu]
       refine pw_pick (by rfl) true (v := .bool false) rfl rfl rfl ?_
       simp only [Act.put, pu]
       refine pw_nil ?_
       (repeat ((fail_if_success with_reducible refine rg ?_); go_step))
       refine wp_region_pw ?_
       refine pw_mv (by rfl) rfl rfl ?_
       simp only [Act.put, pu]
       refine pw_mv (by rfl) rfl rfl ?_
       simp only [Act.put, pu]
       refine pw_value (by rfl) (.pointer (some ⟨gT, 0 + k * 1, none⟩)) ((exec_index_s 31 _ _ rfl gT 0 (n) (n) rfl (k) rfl (hkn) _ Try.underlying31 1 Try.sizeOf3)) ?_
       simp only [Act.put, pu]
       refine pw_loadk (by rfl) 3 _ rfl _ (0 + k * 1) rfl rT.r (.int .i64 (h)) ((zC_get1 _ hkn).trans (by rw [updZ_at])) Try.isAgg3 ?_
       simp only [Act.put, pu]
       refine pw_value (by rfl) (.bool true) (exec_geq_i _ _ _ _ rfl (h) (0) rfl rfl true (decide_eq_true (by omega))) ?_
       simp only [Act.put, pu]
       refine pw_nil ?_
       (repeat ((fail_if_success with_reducible refine rg ?_); go_step))
       refine wp_region_pw ?_
       refine pw_mv (by rfl) rfl rfl ?_
       simp only [Act.put, pu]
       refine pw_mv (by rfl) rfl rfl ?_
       simp only [Act.put, pu]
       refine pw_value (by rfl) (.int .i64 (max ms h)) (x_max2 _ _ _ _ rfl ms h rfl rfl) ?_
       simp only [Act.put, pu]
       refine pw_as (by rfl) rfl rfl ?_
       simp only [Act.put, pu]
       refine pw_nil ?_
       (repeat ((fail_if_success with_reducible refine rg ?_); go_step))
       refine wp_region_pw ?_
       refine pw_mv (by rfl) rfl rfl ?_
       simp only [Act.put, pu]
       refine pw_value (by rfl) (.int .i64 ((k + 1 : Nat))) (x_addz _ _ _ _ rfl (k) (1) ((k + 1 : Nat)) rfl rfl (by omega) (by omega) (by omega)) ?_
       simp only [Act.put, pu]
       refine pw_as (by rfl) rfl rfl ?_
       simp only [Act.put, pu]
       refine pw_nil ?_
       go_wp2
       go_roundg g
       case measure => omega
       case rel => exact ⟨k + 1, by omega, by rw [hms], by exact congrArg (fun x : Nat => Value.int .i64 (x : Int)) hln.symm, rfl, r4, r5, by rw [← htk]; exact rT, sb⟩
      ·have hms : mst H L f (k + 1) = mst H L f k := if_neg (fun h => by rw [htl] at h; omega)
       have htk := tlK_succ H L f k
       rw [htl] at htk
       have hlm := lnum_le L f k
       clear htl hli hzv hlv HM
       generalize mst H L f k = ms at *
       generalize lnum L f k = m at *
       generalize tlK H L f k = Z0 at *
       (repeat ((fail_if_success with_reducible refine rg ?_); go_step))
       refine wp_region_pw ?_
       refine pw_mv (by rfl) rfl rfl ?_
       simp only [Act.put, pu]
       refine pw_mv (by rfl) rfl rfl ?_
       simp only [Act.put, pu]
       refine pw_value (by rfl) (.bool true) (exec_lt_b _ _ _ _ rfl (k) (n) rfl rfl true (decide_eq_true (by omega))) ?_
       simp only [Act.put, pu]
       refine pw_nil ?_
       (repeat ((fail_if_success with_reducible refine rg ?_); go_step))
       refine wp_region_pw ?_
       refine pw_mv (by rfl) rfl rfl ?_
       simp only [Act.put, pu]
       refine pw_value (by rfl) (.pointer (some ⟨g4, k, none⟩)) ((exec_index 35 _ _ rfl g4 rfl k 7 rfl (hk7) _ Try.underlying35 Try.sizeOf3)) ?_
       simp only [Act.put, pu]
       refine pw_loadk (by rfl) 3 _ rfl _ (k) rfl r4.r (.int .i64 (H k)) (zC_get H (hk7)) Try.isAgg3 ?_
       simp only [Act.put, pu]
       refine pw_value (by rfl) (.int .i64 h) (x_an _ _ _ _ rfl (H k) 1048575 h rfl rfl hh) ?_
       simp only [Act.put, pu]
       refine pw_as (by rfl) rfl rfl ?_
       simp only [Act.put, pu]
       refine pw_nil ?_
       (repeat ((fail_if_success with_reducible refine rg ?_); go_step))
       refine wp_region_pw ?_
       refine pw_mv (by rfl) rfl rfl ?_
       simp only [Act.put, pu]
       refine pw_mv (by rfl) rfl rfl ?_
       simp only [Act.put, pu]
       refine pw_mv (by rfl) rfl rfl ?_
       simp only [Act.put, pu]
       refine pw_value (by rfl) (.pointer (some ⟨gT, 0 + k * 1, none⟩)) ((exec_index_s 31 _ _ rfl gT 0 (n) (n) rfl (k) rfl (hkn) _ Try.underlying31 1 Try.sizeOf3)) ?_
       simp only [Act.put, pu]
       refine pw_putv (by rfl) 3 _ _ rfl _ (0 + k * 1) rfl rT (.int .i64 h) rfl rfl rfl size1tint (by rw [zC_size]; omega) (zC n (updZ Z0 k h)) (zC_upd Z0 hkn h) ?_
       clear rT
       intro z9004 rT k
       simp only [Act.put]
       replace r4 := k.row r4 (by simp <;> omega)
       replace r5 := k.row r5 (by simp <;> omega)
       replace sb := sb.trans (k.below w.heap.size sb.size (by simp <;> omega))
       clear k
       refine pw_nil ?_
       (repeat ((fail_if_success with_reducible refine rg ?_); go_step))
       refine wp_region_pw ?_
       refine pw_mv (by rfl) rfl rfl ?_
       simp only [Act.put, pu]
       refine pw_value (by rfl) (.pointer (some ⟨g4, k, none⟩)) ((exec_index 35 _ _ rfl g4 rfl k 7 rfl (hk7) _ Try.underlying35 Try.sizeOf3)) ?_
       simp only [Act.put, pu]
       refine pw_loadk (by rfl) 3 _ rfl _ (k) rfl r4.r (.int .i64 (H k)) (zC_get H (hk7)) Try.isAgg3 ?_
       simp only [Act.put, pu]
       refine pw_value (by rfl) (.int .i64 x) (x_shz _ _ _ _ rfl (H k) 20 x rfl rfl (by decide) hx) ?_
       simp only [Act.put, pu]
       refine pw_value (by rfl) (.int .i64 q) (x_an _ _ _ _ rfl (x) 3 q rfl rfl hq) ?_
       simp only [Act.put, pu]
       refine pw_value (by rfl) (.bool false) (exec_eql_k .i64 _ _ _ _ rfl (q) (0) rfl rfl false (hqb)) ?_
       simp only [Act.put, pu]
       refine pw_nil ?_
       (repeat ((fail_if_success with_reducible refine rg ?_); go_step))
       refine wp_region_pw ?_
       refine pw_mv (by rfl) rfl rfl ?_
       simp only [Act.put, pu]
       refine pw_value (by rfl) (.pointer (some ⟨g5, k, none⟩)) ((exec_index 35 _ _ rfl g5 rfl k 7 rfl (hk7) _ Try.underlying35 Try.sizeOf3)) ?_
       simp only [Act.put, pu]
       refine pw_loadk (by rfl) 3 _ rfl _ (k) rfl r5.r (.int .i64 (L k)) (zC_get L (hk7)) Try.isAgg3 ?_
       simp only [Act.put, pu]
       refine pw_value (by rfl) (.int .i64 y) (x_an _ _ _ _ rfl (L k) 7 y rfl rfl hy) ?_
       simp only [Act.put, pu]
       refine pw_value (by rfl) (.bool true) (exec_eql_k .i64 _ _ _ _ rfl (y) (0) rfl rfl true (hyb)) ?_
       simp only [Act.put, pu]
       refine pw_mv (by rfl) rfl rfl ?_
       simp only [Act.put, pu]
       refine pw_mv (by rfl) rfl rfl ?_
       simp only [Act.put, pu]
       refine pw_mv (by rfl) rfl rfl ?_
       simp only [Act.put, pu]
       refine pw_value (by rfl) (.bool false) (exec_lt_b _ _ _ _ rfl ((m : Nat)) ((f : Nat)) rfl rfl false (decide_eq_false (by omega))) ?_
       simp only [Act.put, pu]
       refine pw_pick (by rfl) true (v := .bool false) rfl rfl rfl ?_
       simp only [Act.put, pu]
       refine pw_nil ?_
       (repeat ((fail_if_success with_reducible refine rg ?_); go_step))
       refine wp_region_pw ?_
       refine pw_mv (by rfl) rfl rfl ?_
       simp only [Act.put, pu]
       refine pw_mv (by rfl) rfl rfl ?_
       simp only [Act.put, pu]
       refine pw_value (by rfl) (.pointer (some ⟨gT, 0 + k * 1, none⟩)) ((exec_index_s 31 _ _ rfl gT 0 (n) (n) rfl (k) rfl (hkn) _ Try.underlying31 1 Try.sizeOf3)) ?_
       simp only [Act.put, pu]
       refine pw_loadk (by rfl) 3 _ rfl _ (0 + k * 1) rfl rT.r (.int .i64 (h)) ((zC_get1 _ hkn).trans (by rw [updZ_at])) Try.isAgg3 ?_
       simp only [Act.put, pu]
       refine pw_value (by rfl) (.bool false) (exec_geq_i _ _ _ _ rfl (h) (0) rfl rfl false (decide_eq_false (by omega))) ?_
       simp only [Act.put, pu]
       refine pw_nil ?_
       (repeat ((fail_if_success with_reducible refine rg ?_); go_step))
       refine wp_region_pw ?_
       refine pw_mv (by rfl) rfl rfl ?_
       simp only [Act.put, pu]
       refine pw_value (by rfl) (.int .i64 ((k + 1 : Nat))) (x_addz _ _ _ _ rfl (k) (1) ((k + 1 : Nat)) rfl rfl (by omega) (by omega) (by omega)) ?_
       simp only [Act.put, pu]
       refine pw_as (by rfl) rfl rfl ?_
       simp only [Act.put, pu]
       refine pw_nil ?_
       go_wp2
       go_roundg g
       case measure => omega
       case rel => exact ⟨k + 1, by omega, by rw [hms], by exact congrArg (fun x : Nat => Value.int .i64 (x : Int)) hln.symm, rfl, r4, r5, by rw [← htk]; exact rT, sb⟩
  | zero =>
   obtain rfl : k = n := by omega
   clear hk
   (repeat ((fail_if_success with_reducible refine rg ?_); go_step))
   refine wp_region_pw ?_
   refine pw_mv (by rfl) rfl rfl ?_
   simp only [Act.put, pu]
   refine pw_mv (by rfl) rfl rfl ?_
   simp only [Act.put, pu]
   refine pw_value (by rfl) (.bool false) (exec_lt_b _ _ _ _ rfl (k) (k) rfl rfl false (decide_eq_false (Int.lt_irrefl _))) ?_
   simp only [Act.put, pu]
   refine pw_nil ?_
   (repeat ((fail_if_success with_reducible refine rg ?_); go_step))
   refine wp_region_pw ?_
   refine pw_mv (by rfl) rfl rfl ?_
   simp only [Act.put, pu]
   refine pw_mv (by rfl) rfl rfl ?_
   simp only [Act.put, pu]
   refine pw_callB (by rfl) 14 _ _ rfl Try.func14 (by kernel_rfl) #[.int .i64 (f : Nat), .slice (some ⟨gT, 0, none⟩) k k] rfl _ (hvo _ gT rT) ?_
   intro z17002 k
   simp only [Act.put, pu]
   replace r4 := k.row r4 (by simp <;> omega)
   replace r5 := k.row r5 (by simp <;> omega)
   replace sb := sb.trans (k.below w.heap.size sb.size (by simp <;> omega))
   clear k
   refine pw_mv (by rfl) rfl rfl ?_
   simp only [Act.put, pu]
   refine pw_ext (by rfl) rfl rfl rfl ?_
   simp only [Act.put, pu]
   refine pw_ext (by rfl) rfl rfl rfl ?_
   simp only [Act.put, pu]
   refine pw_as (by rfl) rfl rfl ?_
   simp only [Act.put, pu]
   refine pw_as (by rfl) rfl rfl ?_
   simp only [Act.put, pu]
   refine pw_nil ?_
   clear hvo
   cases ok with
   | false =>
    obtain rfl : v = 0 := H0.out rfl
    clear HM HL H0
    (repeat ((fail_if_success with_reducible refine rg ?_); go_step))
    refine wp_region_pw ?_
    refine pw_mv (by rfl) rfl rfl ?_
    simp only [Act.put, pu]
    refine pw_value (by rfl) (.bool true) (exec_not _ _ rfl false rfl) ?_
    simp only [Act.put, pu]
    refine pw_nil ?_
    (repeat ((fail_if_success with_reducible refine rg ?_); go_step))
    refine wp_region_pw ?_
    refine pw_mv (by rfl) rfl rfl ?_
    simp only [Act.put, pu]
    refine pw_value (by rfl) (.bool true) (exec_eql_k .i64 _ _ _ _ rfl (0) (0) rfl rfl true (decide_eq_true rfl)) ?_
    simp only [Act.put, pu]
    refine pw_mv (by rfl) rfl rfl ?_
    simp only [Act.put, pu]
    refine pw_callB (by rfl) 13 _ _ rfl Try.func13 (by kernel_rfl) #[] rfl _ (awake_any _) ?_
    intro z19003 k
    simp only [Act.put, pu]
    replace sb := sb.trans (k.below w.heap.size sb.size (by simp <;> omega))
    clear k
    refine pw_pick (by rfl) true (v := .bool true) rfl rfl rfl ?_
    simp only [Act.put, pu]
    refine pw_as (by rfl) rfl rfl ?_
    simp only [Act.put, pu]
    refine pw_nil ?_
    go_wp2
    go_ret
    exact ⟨rfl, sb⟩
   | true =>
    obtain ⟨hv0, hvm⟩ := HM.out rfl
    have HK : Hid (∀ x : Int, f + 1 ≤ cb (rcb H L f x) k → x ≤ v) := HL.out rfl
    clear HM HL H0
    generalize mst H L f k = ms at *
    (repeat ((fail_if_success with_reducible refine rg ?_); go_step))
    refine wp_region_pw ?_
    refine pw_mv (by rfl) rfl rfl ?_
    simp only [Act.put, pu]
    refine pw_value (by rfl) (.bool false) (exec_not _ _ rfl true rfl) ?_
    simp only [Act.put, pu]
    refine pw_nil ?_
    (repeat ((fail_if_success with_reducible refine rg ?_); go_step))
    refine wp_region_pw ?_
    refine pw_mv (by rfl) rfl rfl ?_
    simp only [Act.put, pu]
    refine pw_mv (by rfl) rfl rfl ?_
    simp only [Act.put, pu]
    refine pw_value (by rfl) (.bool false) (exec_gt_i _ _ _ _ rfl (v) (ms) rfl rfl false (decide_eq_false (by omega))) ?_
    simp only [Act.put, pu]
    refine pw_mv (by rfl) rfl rfl ?_
    simp only [Act.put, pu]
    refine pw_mv (by rfl) rfl rfl ?_
    simp only [Act.put, pu]
    refine pw_value (by rfl) (.bool false) (exec_lt_b _ _ _ _ rfl (v) (0) rfl rfl false (decide_eq_false (by omega))) ?_
    simp only [Act.put, pu]
    refine pw_pick (by rfl) false (v := .bool false) rfl rfl rfl ?_
    simp only [Act.put, pu]
    refine pw_nil ?_
    (repeat ((fail_if_success with_reducible refine rg ?_); go_step))
    refine wp_region_pw ?_
    refine pw_value (by rfl) (.int .i64 0) (fun _ => rfl) ?_
    simp only [Act.put, pu]
    refine pw_nil ?_
    clear hv0 hvm
    go_wp2_with fail
    go_loopg [16, 17, 18, 19, 20] k (fun x s16 s17 s18 s19 s20 wr => ∃ i : Nat, i + x = k ∧ s16 = .int .i64 i ∧ Row wr g4 (zC 7 H) 35 ∧ Row wr g5 (zC 7 L) 35 ∧ Below w.heap.size w wr)
    case atStart => exact ⟨0, by omega, rfl, r4, r5, sb⟩
    case round =>
     clear sb r4 r5
     obtain ⟨i, hi, rfl, r4, r5, sb⟩ := hrel
     cases gk with
     | zero =>
      obtain rfl : i = k := by omega
      clear hi
      (repeat ((fail_if_success with_reducible refine rg ?_); go_step))
      refine wp_region_pw ?_
      refine pw_mv (by rfl) rfl rfl ?_
      simp only [Act.put, pu]
      refine pw_mv (by rfl) rfl rfl ?_
      simp only [Act.put, pu]
      refine pw_value (by rfl) (.bool false) (exec_lt_b _ _ _ _ rfl (i) (i) rfl rfl false (decide_eq_false (Int.lt_irrefl _))) ?_
      simp only [Act.put, pu]
      refine pw_nil ?_
      (repeat ((fail_if_success with_reducible refine rg ?_); go_step))
      refine wp_region_pw ?_
      refine pw_callB (by rfl) 13 _ _ rfl Try.func13 (by kernel_rfl) #[] rfl _ (awake_any _) ?_
      intro z37000 k
      simp only [Act.put, pu]
      replace sb := sb.trans (k.below w.heap.size sb.size (by simp <;> omega))
      clear k
      refine pw_as (by rfl) rfl rfl ?_
      simp only [Act.put, pu]
      refine pw_nil ?_
      go_wp2
      go_ret
      exact ⟨rfl, sb⟩
     | succ g =>
      have hi7 : i < 7 := by omega
      obtain ⟨x, hx⟩ : ∃ x, an (H i) 1048575 = x := ⟨_, rfl⟩
      (repeat ((fail_if_success with_reducible refine rg ?_); go_step))
      refine wp_region_pw ?_
      refine pw_mv (by rfl) rfl rfl ?_
      simp only [Act.put, pu]
      refine pw_mv (by rfl) rfl rfl ?_
      simp only [Act.put, pu]
      refine pw_value (by rfl) (.bool true) (exec_lt_b _ _ _ _ rfl (i) (k) rfl rfl true (decide_eq_true (by omega))) ?_
      simp only [Act.put, pu]
      refine pw_nil ?_
      (repeat ((fail_if_success with_reducible refine rg ?_); go_step))
      refine wp_region_pw ?_
      refine pw_mv (by rfl) rfl rfl ?_
      simp only [Act.put, pu]
      refine pw_value (by rfl) (.pointer (some ⟨g4, i, none⟩)) ((exec_index 35 _ _ rfl g4 rfl i 7 rfl (hi7) _ Try.underlying35 Try.sizeOf3)) ?_
      simp only [Act.put, pu]
      refine pw_loadk (by rfl) 3 _ rfl _ (i) rfl r4.r (.int .i64 (H i)) (zC_get H (hi7)) Try.isAgg3 ?_
      simp only [Act.put, pu]
      refine pw_value (by rfl) (.int .i64 x) (x_an _ _ _ _ rfl (H i) 1048575 x rfl rfl hx) ?_
      simp only [Act.put, pu]
      refine pw_as (by rfl) rfl rfl ?_
      simp only [Act.put, pu]
      refine pw_nil ?_
      (repeat ((fail_if_success with_reducible refine rg ?_); go_step))
      refine wp_region_pw ?_
      refine pw_value (by rfl) (.int .i64 0) (fun _ => rfl) ?_
      simp only [Act.put, pu]
      refine pw_nil ?_
      (repeat ((fail_if_success with_reducible refine rg ?_); go_step))
      refine wp_region_pw ?_
      refine pw_value (by rfl) (.int .i64 0) (fun _ => rfl) ?_
      simp only [Act.put, pu]
      refine pw_nil ?_
      (repeat ((fail_if_success with_reducible refine rg ?_); go_step))
      refine wp_region_pw ?_
      refine pw_value (by rfl) (.int .i64 0) (fun _ => rfl) ?_
      simp only [Act.put, pu]
      refine pw_nil ?_
      clear hx
      go_wp2_with fail
      go_loopg [18, 19, 20] k (fun y s18 s19 s20 wr => ∃ j : Nat, j + y = k ∧ s18 = .int .i64 (cb (rcb H L f x) j : Nat) ∧ s19 = .int .i64 (cb (lie L f) j : Nat) ∧ s20 = .int .i64 j ∧ Row wr g4 (zC 7 H) 35 ∧ Row wr g5 (zC 7 L) 35 ∧ Below w.heap.size w wr)
      case atStart => exact ⟨0, by omega, rfl, rfl, rfl, r4, r5, sb⟩
      case round =>
       clear sb r4 r5
       obtain ⟨j, hj, rfl, rfl, rfl, r4, r5, sb⟩ := hrel
       cases gk with
       | zero =>
        obtain rfl : j = k := by omega
        clear hj
        have hk2 := HK.out x
        have hl1 := cb_le (rcb H L f x) j
        have hl2 := cb_le (lie L f) j
        have hl3 := cb_lie L f j
        have hl4 := lnum_le L f j
        rw [← hl3] at hl4
        clear HK hl3
        generalize cb (rcb H L f x) j = rc at *
        generalize cb (lie L f) j = sn at *
        (repeat ((fail_if_success with_reducible refine rg ?_); go_step))
        refine wp_region_pw ?_
        refine pw_mv (by rfl) rfl rfl ?_
        simp only [Act.put, pu]
        refine pw_mv (by rfl) rfl rfl ?_
        simp only [Act.put, pu]
        refine pw_value (by rfl) (.bool false) (exec_lt_b _ _ _ _ rfl (j) (j) rfl rfl false (decide_eq_false (Int.lt_irrefl _))) ?_
        simp only [Act.put, pu]
        refine pw_nil ?_
        by_cases hrc : f + 1 ≤ rc
        ·have hxv := hk2 hrc
         clear hk2
         (repeat ((fail_if_success with_reducible refine rg ?_); go_step))
         refine wp_region_pw ?_
         refine pw_mv (by rfl) rfl rfl ?_
         simp only [Act.put, pu]
         refine pw_mv (by rfl) rfl rfl ?_
         simp only [Act.put, pu]
         refine pw_value (by rfl) (.int .i64 ((f + 1 : Nat))) (x_addz _ _ _ _ rfl ((f : Nat)) (1) ((f + 1 : Nat)) rfl rfl (by omega) (by omega) (by omega)) ?_
         simp only [Act.put, pu]
         refine pw_value (by rfl) (.bool true) (exec_geq_i _ _ _ _ rfl ((rc : Nat)) ((f + 1 : Nat)) rfl rfl true (decide_eq_true (by omega))) ?_
         simp only [Act.put, pu]
         refine pw_mv (by rfl) rfl rfl ?_
         simp only [Act.put, pu]
         refine pw_mv (by rfl) rfl rfl ?_
         simp only [Act.put, pu]
         refine pw_mv (by rfl) rfl rfl ?_
         simp only [Act.put, pu]
         refine pw_value (by rfl) (.bool true) (exec_leq_i _ _ _ _ rfl ((sn : Nat)) ((f : Nat)) rfl rfl true (decide_eq_true (by omega))) ?_
         simp only [Act.put, pu]
         refine pw_pick (by rfl) true (v := .bool true) rfl rfl rfl ?_
         simp only [Act.put, pu]
         refine pw_mv (by rfl) rfl rfl ?_
         simp only [Act.put, pu]
         refine pw_mv (by rfl) rfl rfl ?_
         simp only [Act.put, pu]
         refine pw_mv (by rfl) rfl rfl ?_
         simp only [Act.put, pu]
         refine pw_value (by rfl) (.bool false) (exec_lt_b _ _ _ _ rfl (v) (x) rfl rfl false (decide_eq_false (by omega))) ?_
         simp only [Act.put, pu]
         refine pw_pick (by rfl) true (v := .bool false) rfl rfl rfl ?_
         simp only [Act.put, pu]
         refine pw_nil ?_
         (repeat ((fail_if_success with_reducible refine rg ?_); go_step))
         refine wp_region_pw ?_
         refine pw_mv (by rfl) rfl rfl ?_
         simp only [Act.put, pu]
         refine pw_value (by rfl) (.int .i64 ((i + 1 : Nat))) (x_addz _ _ _ _ rfl (i) (1) ((i + 1 : Nat)) rfl rfl (by omega) (by omega) (by omega)) ?_
         simp only [Act.put, pu]
         refine pw_as (by rfl) rfl rfl ?_
         simp only [Act.put, pu]
         refine pw_nil ?_
         go_wp2
         go_roundg g
         case measure => omega
         case rel => exact ⟨i + 1, by omega, rfl, r4, r5, sb⟩
        ·clear hk2
         (repeat ((fail_if_success with_reducible refine rg ?_); go_step))
         refine wp_region_pw ?_
         refine pw_mv (by rfl) rfl rfl ?_
         simp only [Act.put, pu]
         refine pw_mv (by rfl) rfl rfl ?_
         simp only [Act.put, pu]
         refine pw_value (by rfl) (.int .i64 ((f + 1 : Nat))) (x_addz _ _ _ _ rfl ((f : Nat)) (1) ((f + 1 : Nat)) rfl rfl (by omega) (by omega) (by omega)) ?_
         simp only [Act.put, pu]
         refine pw_value (by rfl) (.bool false) (exec_geq_i _ _ _ _ rfl ((rc : Nat)) ((f + 1 : Nat)) rfl rfl false (decide_eq_false (by omega))) ?_
         simp only [Act.put, pu]
         refine pw_mv (by rfl) rfl rfl ?_
         simp only [Act.put, pu]
         refine pw_skip (by rfl) ?_
         simp only [Act.put, pu]
         refine pw_skip (by rfl) ?_
         simp only [Act.put, pu]
         refine pw_skip (by rfl) ?_
         simp only [Act.put, pu]
         refine pw_pick (by rfl) false (v := .bool false) rfl rfl rfl ?_
         simp only [Act.put, pu]
         refine pw_mv (by rfl) rfl rfl ?_
         simp only [Act.put, pu]
         refine pw_skip (by rfl) ?_
         simp only [Act.put, pu]
         refine pw_skip (by rfl) ?_
         simp only [Act.put, pu]
         refine pw_skip (by rfl) ?_
         simp only [Act.put, pu]
         refine pw_pick (by rfl) false (v := .bool false) rfl rfl rfl ?_
         simp only [Act.put, pu]
         refine pw_nil ?_
         (repeat ((fail_if_success with_reducible refine rg ?_); go_step))
         refine wp_region_pw ?_
         refine pw_mv (by rfl) rfl rfl ?_
         simp only [Act.put, pu]
         refine pw_value (by rfl) (.int .i64 ((i + 1 : Nat))) (x_addz _ _ _ _ rfl (i) (1) ((i + 1 : Nat)) rfl rfl (by omega) (by omega) (by omega)) ?_
         simp only [Act.put, pu]
         refine pw_as (by rfl) rfl rfl ?_
         simp only [Act.put, pu]
         refine pw_nil ?_
         go_wp2
         go_roundg g
         case measure => omega
         case rel => exact ⟨i + 1, by omega, rfl, r4, r5, sb⟩
       | succ g2 =>
        clear HK
        have hj7 : j < 7 := by omega
        obtain ⟨y, hy⟩ : ∃ y, an (L j) 7 = y := ⟨_, rfl⟩
        obtain ⟨h, hh⟩ : ∃ h, an (H j) 1048575 = h := ⟨_, rfl⟩
        have hhv : hv H j = h := hh
        cases hyb : decide (y = 0) with
        | false =>
         have hlv : lqb L j = false := by show decide (an (L j) 7 = 0) = false; rw [hy]; exact hyb
         by_cases hge : x ≤ h
         ·skip
          have hld0 : lie L f j = false := by unfold lie; rw [hlv]; rfl
          have hrc := cb_yes (b := rcb H L f x) (k := j) (by unfold rcb; rw [hld0, hhv, decide_eq_true hge]; rfl)
          have hsn := cb_no hld0
          have hl1 := cb_le (rcb H L f x) j
          have hl2 := cb_le (lie L f) j
          clear hld0 hhv hlv
          generalize cb (rcb H L f x) j = rc at *
          generalize cb (lie L f) j = sn at *
          (repeat ((fail_if_success with_reducible refine rg ?_); go_step))
          refine wp_region_pw ?_
          refine pw_mv (by rfl) rfl rfl ?_
          simp only [Act.put, pu]
          refine pw_mv (by rfl) rfl rfl ?_
          simp only [Act.put, pu]
          refine pw_value (by rfl) (.bool true) (exec_lt_b _ _ _ _ rfl (j) (k) rfl rfl true (decide_eq_true (by omega))) ?_
          simp only [Act.put, pu]
          refine pw_nil ?_
          (repeat ((fail_if_success with_reducible refine rg ?_); go_step))
          refine wp_region_pw ?_
          refine pw_mv (by rfl) rfl rfl ?_
          simp only [Act.put, pu]
          refine pw_value (by rfl) (.pointer (some ⟨g5, j, none⟩)) ((exec_index 35 _ _ rfl g5 rfl j 7 rfl (hj7) _ Try.underlying35 Try.sizeOf3)) ?_
          simp only [Act.put, pu]
          refine pw_loadk (by rfl) 3 _ rfl _ (j) rfl r5.r (.int .i64 (L j)) (zC_get L (hj7)) Try.isAgg3 ?_
          simp only [Act.put, pu]
          refine pw_value (by rfl) (.int .i64 y) (x_an _ _ _ _ rfl (L j) 7 y rfl rfl hy) ?_
          simp only [Act.put, pu]
          refine pw_value (by rfl) (.bool true) (exec_neq_k .i64 _ _ _ _ rfl (y) (0) rfl rfl true (by rw [hyb]; rfl)) ?_
          simp only [Act.put, pu]
          refine pw_mv (by rfl) rfl rfl ?_
          simp only [Act.put, pu]
          refine pw_skip (by rfl) ?_
          simp only [Act.put, pu]
          refine pw_skip (by rfl) ?_
          simp only [Act.put, pu]
          refine pw_skip (by rfl) ?_
          simp only [Act.put, pu]
          refine pw_skip (by rfl) ?_
          simp only [Act.put, pu]
          refine pw_skip (by rfl) ?_
          simp only [Act.put, pu]
          refine pw_pick (by rfl) true (v := .bool true) rfl rfl rfl ?_
          simp only [Act.put, pu]
          refine pw_mv (by rfl) rfl rfl ?_
          simp only [Act.put, pu]
          refine pw_mv (by rfl) rfl rfl ?_
          simp only [Act.put, pu]
          refine pw_value (by rfl) (.pointer (some ⟨g4, j, none⟩)) ((exec_index 35 _ _ rfl g4 rfl j 7 rfl (hj7) _ Try.underlying35 Try.sizeOf3)) ?_
          simp only [Act.put, pu]
          refine pw_loadk (by rfl) 3 _ rfl _ (j) rfl r4.r (.int .i64 (H j)) (zC_get H (hj7)) Try.isAgg3 ?_
          simp only [Act.put, pu]
          refine pw_value (by rfl) (.int .i64 h) (x_an _ _ _ _ rfl (H j) 1048575 h rfl rfl hh) ?_
          simp only [Act.put, pu]
          refine pw_mv (by rfl) rfl rfl ?_
          simp only [Act.put, pu]
          refine pw_value (by rfl) (.bool true) (exec_geq_i _ _ _ _ rfl (h) (x) rfl rfl true (decide_eq_true (by omega))) ?_
          simp only [Act.put, pu]
          refine pw_pick (by rfl) true (v := .bool true) rfl rfl rfl ?_
          simp only [Act.put, pu]
          refine pw_nil ?_
          (repeat ((fail_if_success with_reducible refine rg ?_); go_step))
          refine wp_region_pw ?_
          refine pw_mv (by rfl) rfl rfl ?_
          simp only [Act.put, pu]
          refine pw_value (by rfl) (.int .i64 ((rc + 1 : Nat))) (x_addz _ _ _ _ rfl ((rc : Nat)) (1) ((rc + 1 : Nat)) rfl rfl (by omega) (by omega) (by omega)) ?_
          simp only [Act.put, pu]
          refine pw_as (by rfl) rfl rfl ?_
          simp only [Act.put, pu]
          refine pw_nil ?_
          (repeat ((fail_if_success with_reducible refine rg ?_); go_step))
          refine wp_region_pw ?_
          refine pw_mv (by rfl) rfl rfl ?_
          simp only [Act.put, pu]
          refine pw_value (by rfl) (.pointer (some ⟨g5, j, none⟩)) ((exec_index 35 _ _ rfl g5 rfl j 7 rfl (hj7) _ Try.underlying35 Try.sizeOf3)) ?_
          simp only [Act.put, pu]
          refine pw_loadk (by rfl) 3 _ rfl _ (j) rfl r5.r (.int .i64 (L j)) (zC_get L (hj7)) Try.isAgg3 ?_
          simp only [Act.put, pu]
          refine pw_value (by rfl) (.int .i64 y) (x_an _ _ _ _ rfl (L j) 7 y rfl rfl hy) ?_
          simp only [Act.put, pu]
          refine pw_value (by rfl) (.bool false) (exec_eql_k .i64 _ _ _ _ rfl (y) (0) rfl rfl false (hyb)) ?_
          simp only [Act.put, pu]
          refine pw_mv (by rfl) rfl rfl ?_
          simp only [Act.put, pu]
          refine pw_skip (by rfl) ?_
          simp only [Act.put, pu]
          refine pw_skip (by rfl) ?_
          simp only [Act.put, pu]
          refine pw_skip (by rfl) ?_
          simp only [Act.put, pu]
          refine pw_skip (by rfl) ?_
          simp only [Act.put, pu]
          refine pw_pick (by rfl) false (v := .bool false) rfl rfl rfl ?_
          simp only [Act.put, pu]
          refine pw_nil ?_
          (repeat ((fail_if_success with_reducible refine rg ?_); go_step))
          refine wp_region_pw ?_
          refine pw_mv (by rfl) rfl rfl ?_
          simp only [Act.put, pu]
          refine pw_value (by rfl) (.int .i64 ((j + 1 : Nat))) (x_addz _ _ _ _ rfl (j) (1) ((j + 1 : Nat)) rfl rfl (by omega) (by omega) (by omega)) ?_
          simp only [Act.put, pu]
          refine pw_as (by rfl) rfl rfl ?_
          simp only [Act.put, pu]
          refine pw_nil ?_
          go_wp2
          go_roundg g2
          case measure => omega
          case rel => exact ⟨j + 1, by omega, by exact congrArg (fun x : Nat => Value.int .i64 (x : Int)) hrc.symm, by exact congrArg (fun x : Nat => Value.int .i64 (x : Int)) hsn.symm, rfl, r4, r5, sb⟩
         ·skip
          have hld0 : lie L f j = false := by unfold lie; rw [hlv]; rfl
          have hrc := cb_no (b := rcb H L f x) (k := j) (by unfold rcb; rw [hld0, hhv, decide_eq_false hge]; rfl)
          have hsn := cb_no hld0
          have hl1 := cb_le (rcb H L f x) j
          have hl2 := cb_le (lie L f) j
          clear hld0 hhv hlv
          generalize cb (rcb H L f x) j = rc at *
          generalize cb (lie L f) j = sn at *
          (repeat ((fail_if_success with_reducible refine rg ?_); go_step))
          refine wp_region_pw ?_
          refine pw_mv (by rfl) rfl rfl ?_
          simp only [Act.put, pu]
          refine pw_mv (by rfl) rfl rfl ?_
          simp only [Act.put, pu]
          refine pw_value (by rfl) (.bool true) (exec_lt_b _ _ _ _ rfl (j) (k) rfl rfl true (decide_eq_true (by omega))) ?_
          simp only [Act.put, pu]
          refine pw_nil ?_
          (repeat ((fail_if_success with_reducible refine rg ?_); go_step))
          refine wp_region_pw ?_
          refine pw_mv (by rfl) rfl rfl ?_
          simp only [Act.put, pu]
          refine pw_value (by rfl) (.pointer (some ⟨g5, j, none⟩)) ((exec_index 35 _ _ rfl g5 rfl j 7 rfl (hj7) _ Try.underlying35 Try.sizeOf3)) ?_
          simp only [Act.put, pu]
          refine pw_loadk (by rfl) 3 _ rfl _ (j) rfl r5.r (.int .i64 (L j)) (zC_get L (hj7)) Try.isAgg3 ?_
          simp only [Act.put, pu]
          refine pw_value (by rfl) (.int .i64 y) (x_an _ _ _ _ rfl (L j) 7 y rfl rfl hy) ?_
          simp only [Act.put, pu]
          refine pw_value (by rfl) (.bool true) (exec_neq_k .i64 _ _ _ _ rfl (y) (0) rfl rfl true (by rw [hyb]; rfl)) ?_
          simp only [Act.put, pu]
          refine pw_mv (by rfl) rfl rfl ?_
          simp only [Act.put, pu]
          refine pw_skip (by rfl) ?_
          simp only [Act.put, pu]
          refine pw_skip (by rfl) ?_
          simp only [Act.put, pu]
          refine pw_skip (by rfl) ?_
          simp only [Act.put, pu]
          refine pw_skip (by rfl) ?_
          simp only [Act.put, pu]
          refine pw_skip (by rfl) ?_
          simp only [Act.put, pu]
          refine pw_pick (by rfl) true (v := .bool true) rfl rfl rfl ?_
          simp only [Act.put, pu]
          refine pw_mv (by rfl) rfl rfl ?_
          simp only [Act.put, pu]
          refine pw_mv (by rfl) rfl rfl ?_
          simp only [Act.put, pu]
          refine pw_value (by rfl) (.pointer (some ⟨g4, j, none⟩)) ((exec_index 35 _ _ rfl g4 rfl j 7 rfl (hj7) _ Try.underlying35 Try.sizeOf3)) ?_
          simp only [Act.put, pu]
          refine pw_loadk (by rfl) 3 _ rfl _ (j) rfl r4.r (.int .i64 (H j)) (zC_get H (hj7)) Try.isAgg3 ?_
          simp only [Act.put, pu]
          refine pw_value (by rfl) (.int .i64 h) (x_an _ _ _ _ rfl (H j) 1048575 h rfl rfl hh) ?_
          simp only [Act.put, pu]
          refine pw_mv (by rfl) rfl rfl ?_
          simp only [Act.put, pu]
          refine pw_value (by rfl) (.bool false) (exec_geq_i _ _ _ _ rfl (h) (x) rfl rfl false (decide_eq_false (by omega))) ?_
          simp only [Act.put, pu]
          refine pw_pick (by rfl) true (v := .bool false) rfl rfl rfl ?_
          simp only [Act.put, pu]
          refine pw_nil ?_
          (repeat ((fail_if_success with_reducible refine rg ?_); go_step))
          refine wp_region_pw ?_
          refine pw_mv (by rfl) rfl rfl ?_
          simp only [Act.put, pu]
          refine pw_value (by rfl) (.pointer (some ⟨g5, j, none⟩)) ((exec_index 35 _ _ rfl g5 rfl j 7 rfl (hj7) _ Try.underlying35 Try.sizeOf3)) ?_
          simp only [Act.put, pu]
          refine pw_loadk (by rfl) 3 _ rfl _ (j) rfl r5.r (.int .i64 (L j)) (zC_get L (hj7)) Try.isAgg3 ?_
          simp only [Act.put, pu]
          refine pw_value (by rfl) (.int .i64 y) (x_an _ _ _ _ rfl (L j) 7 y rfl rfl hy) ?_
          simp only [Act.put, pu]
          refine pw_value (by rfl) (.bool false) (exec_eql_k .i64 _ _ _ _ rfl (y) (0) rfl rfl false (hyb)) ?_
          simp only [Act.put, pu]
          refine pw_mv (by rfl) rfl rfl ?_
          simp only [Act.put, pu]
          refine pw_skip (by rfl) ?_
          simp only [Act.put, pu]
          refine pw_skip (by rfl) ?_
          simp only [Act.put, pu]
          refine pw_skip (by rfl) ?_
          simp only [Act.put, pu]
          refine pw_skip (by rfl) ?_
          simp only [Act.put, pu]
          refine pw_pick (by rfl) false (v := .bool false) rfl rfl rfl ?_
          simp only [Act.put, pu]
          refine pw_nil ?_
          (repeat ((fail_if_success with_reducible refine rg ?_); go_step))
          refine wp_region_pw ?_
          refine pw_mv (by rfl) rfl rfl ?_
          simp only [Act.put, pu]
          refine pw_value (by rfl) (.int .i64 ((j + 1 : Nat))) (x_addz _ _ _ _ rfl (j) (1) ((j + 1 : Nat)) rfl rfl (by omega) (by omega) (by omega)) ?_
          simp only [Act.put, pu]
          refine pw_as (by rfl) rfl rfl ?_
          simp only [Act.put, pu]
          refine pw_nil ?_
          go_wp2
          go_roundg g2
          case measure => omega
          case rel => exact ⟨j + 1, by omega, by exact congrArg (fun x : Nat => Value.int .i64 (x : Int)) hrc.symm, by exact congrArg (fun x : Nat => Value.int .i64 (x : Int)) hsn.symm, rfl, r4, r5, sb⟩
        | true =>
         have hlv : lqb L j = true := by show decide (an (L j) 7 = 0) = true; rw [hy]; exact hyb
         cases hdb : lie L f j with
         | true =>
          have hld0 : lie L f j = true := hdb
          have hrc := cb_no (b := rcb H L f x) (k := j) (by unfold rcb; rw [hld0]; rfl)
          have hsn := cb_yes hld0
          have hl1 := cb_le (rcb H L f x) j
          have hl2 := cb_le (lie L f) j
          have hld := fun w' => lied_any L j f w' hj7
          rw [hld0] at hld
          clear hld0 hhv hlv hdb
          generalize cb (rcb H L f x) j = rc at *
          generalize cb (lie L f) j = sn at *
          (repeat ((fail_if_success with_reducible refine rg ?_); go_step))
          refine wp_region_pw ?_
          refine pw_mv (by rfl) rfl rfl ?_
          simp only [Act.put, pu]
          refine pw_mv (by rfl) rfl rfl ?_
          simp only [Act.put, pu]
          refine pw_value (by rfl) (.bool true) (exec_lt_b _ _ _ _ rfl (j) (k) rfl rfl true (decide_eq_true (by omega))) ?_
          simp only [Act.put, pu]
          refine pw_nil ?_
          (repeat ((fail_if_success with_reducible refine rg ?_); go_step))
          refine wp_region_pw ?_
          refine pw_mv (by rfl) rfl rfl ?_
          simp only [Act.put, pu]
          refine pw_value (by rfl) (.pointer (some ⟨g5, j, none⟩)) ((exec_index 35 _ _ rfl g5 rfl j 7 rfl (hj7) _ Try.underlying35 Try.sizeOf3)) ?_
          simp only [Act.put, pu]
          refine pw_loadk (by rfl) 3 _ rfl _ (j) rfl r5.r (.int .i64 (L j)) (zC_get L (hj7)) Try.isAgg3 ?_
          simp only [Act.put, pu]
          refine pw_value (by rfl) (.int .i64 y) (x_an _ _ _ _ rfl (L j) 7 y rfl rfl hy) ?_
          simp only [Act.put, pu]
          refine pw_value (by rfl) (.bool false) (exec_neq_k .i64 _ _ _ _ rfl (y) (0) rfl rfl false (by rw [hyb]; rfl)) ?_
          simp only [Act.put, pu]
          refine pw_mv (by rfl) rfl rfl ?_
          simp only [Act.put, pu]
          refine pw_loadm (by rfl) 35 _ rfl _ 0 rfl r5.r _ (part_all _) _ Try.underlying35 rfl (by rw [zC_size]; exact info_i7) ?_
          simp only [Act.put, pu]
          refine pw_mv (by rfl) rfl rfl ?_
          simp only [Act.put, pu]
          refine pw_mv (by rfl) rfl rfl ?_
          simp only [Act.put, pu]
          refine pw_callB (by rfl) 16 _ _ rfl Try.func16 (by kernel_rfl) #[.agg (zC 7 L), .int .i64 (j : Nat), .int .i64 (f : Nat)] rfl _ (hld _) ?_
          intro z31009 k
          simp only [Act.put, pu]
          replace r4 := k.row r4 (by simp <;> omega)
          replace r5 := k.row r5 (by simp <;> omega)
          replace sb := sb.trans (k.below w.heap.size sb.size (by simp <;> omega))
          clear k
          refine pw_value (by rfl) (.bool false) (exec_not _ _ rfl true rfl) ?_
          simp only [Act.put, pu]
          refine pw_pick (by rfl) false (v := .bool false) rfl rfl rfl ?_
          simp only [Act.put, pu]
          refine pw_mv (by rfl) rfl rfl ?_
          simp only [Act.put, pu]
          refine pw_skip (by rfl) ?_
          simp only [Act.put, pu]
          refine pw_skip (by rfl) ?_
          simp only [Act.put, pu]
          refine pw_skip (by rfl) ?_
          simp only [Act.put, pu]
          refine pw_skip (by rfl) ?_
          simp only [Act.put, pu]
          refine pw_skip (by rfl) ?_
          simp only [Act.put, pu]
          refine pw_skip (by rfl) ?_
          simp only [Act.put, pu]
          refine pw_pick (by rfl) false (v := .bool false) rfl rfl rfl ?_
          simp only [Act.put, pu]
          refine pw_nil ?_
          (repeat ((fail_if_success with_reducible refine rg ?_); go_step))
          refine wp_region_pw ?_
          refine pw_mv (by rfl) rfl rfl ?_
          simp only [Act.put, pu]
          refine pw_value (by rfl) (.pointer (some ⟨g5, j, none⟩)) ((exec_index 35 _ _ rfl g5 rfl j 7 rfl (hj7) _ Try.underlying35 Try.sizeOf3)) ?_
          simp only [Act.put, pu]
          refine pw_loadk (by rfl) 3 _ rfl _ (j) rfl r5.r (.int .i64 (L j)) (zC_get L (hj7)) Try.isAgg3 ?_
          simp only [Act.put, pu]
          refine pw_value (by rfl) (.int .i64 y) (x_an _ _ _ _ rfl (L j) 7 y rfl rfl hy) ?_
          simp only [Act.put, pu]
          refine pw_value (by rfl) (.bool true) (exec_eql_k .i64 _ _ _ _ rfl (y) (0) rfl rfl true (hyb)) ?_
          simp only [Act.put, pu]
          refine pw_mv (by rfl) rfl rfl ?_
          simp only [Act.put, pu]
          refine pw_loadm (by rfl) 35 _ rfl _ 0 rfl r5.r _ (part_all _) _ Try.underlying35 rfl (by rw [zC_size]; exact info_i7) ?_
          simp only [Act.put, pu]
          refine pw_mv (by rfl) rfl rfl ?_
          simp only [Act.put, pu]
          refine pw_mv (by rfl) rfl rfl ?_
          simp only [Act.put, pu]
          refine pw_callB (by rfl) 16 _ _ rfl Try.func16 (by kernel_rfl) #[.agg (zC 7 L), .int .i64 (j : Nat), .int .i64 (f : Nat)] rfl _ (hld _) ?_
          intro z33009 k
          simp only [Act.put, pu]
          replace r4 := k.row r4 (by simp <;> omega)
          replace r5 := k.row r5 (by simp <;> omega)
          replace sb := sb.trans (k.below w.heap.size sb.size (by simp <;> omega))
          clear k
          refine pw_pick (by rfl) true (v := .bool true) rfl rfl rfl ?_
          simp only [Act.put, pu]
          refine pw_nil ?_
          (repeat ((fail_if_success with_reducible refine rg ?_); go_step))
          refine wp_region_pw ?_
          refine pw_mv (by rfl) rfl rfl ?_
          simp only [Act.put, pu]
          refine pw_value (by rfl) (.int .i64 ((sn + 1 : Nat))) (x_addz _ _ _ _ rfl ((sn : Nat)) (1) ((sn + 1 : Nat)) rfl rfl (by omega) (by omega) (by omega)) ?_
          simp only [Act.put, pu]
          refine pw_as (by rfl) rfl rfl ?_
          simp only [Act.put, pu]
          refine pw_nil ?_
          (repeat ((fail_if_success with_reducible refine rg ?_); go_step))
          refine wp_region_pw ?_
          refine pw_mv (by rfl) rfl rfl ?_
          simp only [Act.put, pu]
          refine pw_value (by rfl) (.int .i64 ((j + 1 : Nat))) (x_addz _ _ _ _ rfl (j) (1) ((j + 1 : Nat)) rfl rfl (by omega) (by omega) (by omega)) ?_
          simp only [Act.put, pu]
          refine pw_as (by rfl) rfl rfl ?_
          simp only [Act.put, pu]
          refine pw_nil ?_
          go_wp2
          go_roundg g2
          case measure => omega
          case rel => exact ⟨j + 1, by omega, by exact congrArg (fun x : Nat => Value.int .i64 (x : Int)) hrc.symm, by exact congrArg (fun x : Nat => Value.int .i64 (x : Int)) hsn.symm, rfl, r4, r5, sb⟩
         | false =>
          by_cases hge : x ≤ h
          ·skip
           have hld0 : lie L f j = false := hdb
           have hrc := cb_yes (b := rcb H L f x) (k := j) (by unfold rcb; rw [hld0, hhv, decide_eq_true hge]; rfl)
           have hsn := cb_no hld0
           have hl1 := cb_le (rcb H L f x) j
           have hl2 := cb_le (lie L f) j
           have hld := fun w' => lied_any L j f w' hj7
           rw [hld0] at hld
           clear hld0 hhv hlv hdb
           generalize cb (rcb H L f x) j = rc at *
           generalize cb (lie L f) j = sn at *
           (repeat ((fail_if_success with_reducible refine rg ?_); go_step))
           refine wp_region_pw ?_
           refine pw_mv (by rfl) rfl rfl ?_
           simp only [Act.put, pu]
           refine pw_mv (by rfl) rfl rfl ?_
           simp only [Act.put, pu]
           refine pw_value (by rfl) (.bool true) (exec_lt_b _ _ _ _ rfl (j) (k) rfl rfl true (decide_eq_true (by omega))) ?_
           simp only [Act.put, pu]
           refine pw_nil ?_
           (repeat ((fail_if_success with_reducible refine rg ?_); go_step))
           refine wp_region_pw ?_
           refine pw_mv (by rfl) rfl rfl ?_
           simp only [Act.put, pu]
           refine pw_value (by rfl) (.pointer (some ⟨g5, j, none⟩)) ((exec_index 35 _ _ rfl g5 rfl j 7 rfl (hj7) _ Try.underlying35 Try.sizeOf3)) ?_
           simp only [Act.put, pu]
           refine pw_loadk (by rfl) 3 _ rfl _ (j) rfl r5.r (.int .i64 (L j)) (zC_get L (hj7)) Try.isAgg3 ?_
           simp only [Act.put, pu]
           refine pw_value (by rfl) (.int .i64 y) (x_an _ _ _ _ rfl (L j) 7 y rfl rfl hy) ?_
           simp only [Act.put, pu]
           refine pw_value (by rfl) (.bool false) (exec_neq_k .i64 _ _ _ _ rfl (y) (0) rfl rfl false (by rw [hyb]; rfl)) ?_
           simp only [Act.put, pu]
           refine pw_mv (by rfl) rfl rfl ?_
           simp only [Act.put, pu]
           refine pw_loadm (by rfl) 35 _ rfl _ 0 rfl r5.r _ (part_all _) _ Try.underlying35 rfl (by rw [zC_size]; exact info_i7) ?_
           simp only [Act.put, pu]
           refine pw_mv (by rfl) rfl rfl ?_
           simp only [Act.put, pu]
           refine pw_mv (by rfl) rfl rfl ?_
           simp only [Act.put, pu]
           refine pw_callB (by rfl) 16 _ _ rfl Try.func16 (by kernel_rfl) #[.agg (zC 7 L), .int .i64 (j : Nat), .int .i64 (f : Nat)] rfl _ (hld _) ?_
           intro z31009 k
           simp only [Act.put, pu]
           replace r4 := k.row r4 (by simp <;> omega)
           replace r5 := k.row r5 (by simp <;> omega)
           replace sb := sb.trans (k.below w.heap.size sb.size (by simp <;> omega))
           clear k
           refine pw_value (by rfl) (.bool true) (exec_not _ _ rfl false rfl) ?_
           simp only [Act.put, pu]
           refine pw_pick (by rfl) false (v := .bool true) rfl rfl rfl ?_
           simp only [Act.put, pu]
           refine pw_mv (by rfl) rfl rfl ?_
           simp only [Act.put, pu]
           refine pw_mv (by rfl) rfl rfl ?_
           simp only [Act.put, pu]
           refine pw_value (by rfl) (.pointer (some ⟨g4, j, none⟩)) ((exec_index 35 _ _ rfl g4 rfl j 7 rfl (hj7) _ Try.underlying35 Try.sizeOf3)) ?_
           simp only [Act.put, pu]
           refine pw_loadk (by rfl) 3 _ rfl _ (j) rfl r4.r (.int .i64 (H j)) (zC_get H (hj7)) Try.isAgg3 ?_
           simp only [Act.put, pu]
           refine pw_value (by rfl) (.int .i64 h) (x_an _ _ _ _ rfl (H j) 1048575 h rfl rfl hh) ?_
           simp only [Act.put, pu]
           refine pw_mv (by rfl) rfl rfl ?_
           simp only [Act.put, pu]
           refine pw_value (by rfl) (.bool true) (exec_geq_i _ _ _ _ rfl (h) (x) rfl rfl true (decide_eq_true (by omega))) ?_
           simp only [Act.put, pu]
           refine pw_pick (by rfl) true (v := .bool true) rfl rfl rfl ?_
           simp only [Act.put, pu]
           refine pw_nil ?_
           (repeat ((fail_if_success with_reducible refine rg ?_); go_step))
           refine wp_region_pw ?_
           refine pw_mv (by rfl) rfl rfl ?_
           simp only [Act.put, pu]
           refine pw_value (by rfl) (.int .i64 ((rc + 1 : Nat))) (x_addz _ _ _ _ rfl ((rc : Nat)) (1) ((rc + 1 : Nat)) rfl rfl (by omega) (by omega) (by omega)) ?_
           simp only [Act.put, pu]
           refine pw_as (by rfl) rfl rfl ?_
           simp only [Act.put, pu]
           refine pw_nil ?_
           (repeat ((fail_if_success with_reducible refine rg ?_); go_step))
           refine wp_region_pw ?_
           refine pw_mv (by rfl) rfl rfl ?_
           simp only [Act.put, pu]
           refine pw_value (by rfl) (.pointer (some ⟨g5, j, none⟩)) ((exec_index 35 _ _ rfl g5 rfl j 7 rfl (hj7) _ Try.underlying35 Try.sizeOf3)) ?_
           simp only [Act.put, pu]
           refine pw_loadk (by rfl) 3 _ rfl _ (j) rfl r5.r (.int .i64 (L j)) (zC_get L (hj7)) Try.isAgg3 ?_
           simp only [Act.put, pu]
           refine pw_value (by rfl) (.int .i64 y) (x_an _ _ _ _ rfl (L j) 7 y rfl rfl hy) ?_
           simp only [Act.put, pu]
           refine pw_value (by rfl) (.bool true) (exec_eql_k .i64 _ _ _ _ rfl (y) (0) rfl rfl true (hyb)) ?_
           simp only [Act.put, pu]
           refine pw_mv (by rfl) rfl rfl ?_
           simp only [Act.put, pu]
           refine pw_loadm (by rfl) 35 _ rfl _ 0 rfl r5.r _ (part_all _) _ Try.underlying35 rfl (by rw [zC_size]; exact info_i7) ?_
           simp only [Act.put, pu]
           refine pw_mv (by rfl) rfl rfl ?_
           simp only [Act.put, pu]
           refine pw_mv (by rfl) rfl rfl ?_
           simp only [Act.put, pu]
           refine pw_callB (by rfl) 16 _ _ rfl Try.func16 (by kernel_rfl) #[.agg (zC 7 L), .int .i64 (j : Nat), .int .i64 (f : Nat)] rfl _ (hld _) ?_
           intro z33009 k
           simp only [Act.put, pu]
           replace r4 := k.row r4 (by simp <;> omega)
           replace r5 := k.row r5 (by simp <;> omega)
           replace sb := sb.trans (k.below w.heap.size sb.size (by simp <;> omega))
           clear k
           refine pw_pick (by rfl) true (v := .bool false) rfl rfl rfl ?_
           simp only [Act.put, pu]
           refine pw_nil ?_
           (repeat ((fail_if_success with_reducible refine rg ?_); go_step))
           refine wp_region_pw ?_
           refine pw_mv (by rfl) rfl rfl ?_
           simp only [Act.put, pu]
           refine pw_value (by rfl) (.int .i64 ((j + 1 : Nat))) (x_addz _ _ _ _ rfl (j) (1) ((j + 1 : Nat)) rfl rfl (by omega) (by omega) (by omega)) ?_
           simp only [Act.put, pu]
           refine pw_as (by rfl) rfl rfl ?_
           simp only [Act.put, pu]
           refine pw_nil ?_
           go_wp2
           go_roundg g2
           case measure => omega
           case rel => exact ⟨j + 1, by omega, by exact congrArg (fun x : Nat => Value.int .i64 (x : Int)) hrc.symm, by exact congrArg (fun x : Nat => Value.int .i64 (x : Int)) hsn.symm, rfl, r4, r5, sb⟩
          ·skip
           have hld0 : lie L f j = false := hdb
           have hrc := cb_no (b := rcb H L f x) (k := j) (by unfold rcb; rw [hld0, hhv, decide_eq_false hge]; rfl)
           have hsn := cb_no hld0
           have hl1 := cb_le (rcb H L f x) j
           have hl2 := cb_le (lie L f) j
           have hld := fun w' => lied_any L j f w' hj7
           rw [hld0] at hld
           clear hld0 hhv hlv hdb
           generalize cb (rcb H L f x) j = rc at *
           generalize cb (lie L f) j = sn at *
           (repeat ((fail_if_success with_reducible refine rg ?_); go_step))
           refine wp_region_pw ?_
           refine pw_mv (by rfl) rfl rfl ?_
           simp only [Act.put, pu]
           refine pw_mv (by rfl) rfl rfl ?_
           simp only [Act.put, pu]
           refine pw_value (by rfl) (.bool true) (exec_lt_b _ _ _ _ rfl (j) (k) rfl rfl true (decide_eq_true (by omega))) ?_
           simp only [Act.put, pu]
           refine pw_nil ?_
           (repeat ((fail_if_success with_reducible refine rg ?_); go_step))
           refine wp_region_pw ?_
           refine pw_mv (by rfl) rfl rfl ?_
           simp only [Act.put, pu]
           refine pw_value (by rfl) (.pointer (some ⟨g5, j, none⟩)) ((exec_index 35 _ _ rfl g5 rfl j 7 rfl (hj7) _ Try.underlying35 Try.sizeOf3)) ?_
           simp only [Act.put, pu]
           refine pw_loadk (by rfl) 3 _ rfl _ (j) rfl r5.r (.int .i64 (L j)) (zC_get L (hj7)) Try.isAgg3 ?_
           simp only [Act.put, pu]
           refine pw_value (by rfl) (.int .i64 y) (x_an _ _ _ _ rfl (L j) 7 y rfl rfl hy) ?_
           simp only [Act.put, pu]
           refine pw_value (by rfl) (.bool false) (exec_neq_k .i64 _ _ _ _ rfl (y) (0) rfl rfl false (by rw [hyb]; rfl)) ?_
           simp only [Act.put, pu]
           refine pw_mv (by rfl) rfl rfl ?_
           simp only [Act.put, pu]
           refine pw_loadm (by rfl) 35 _ rfl _ 0 rfl r5.r _ (part_all _) _ Try.underlying35 rfl (by rw [zC_size]; exact info_i7) ?_
           simp only [Act.put, pu]
           refine pw_mv (by rfl) rfl rfl ?_
           simp only [Act.put, pu]
           refine pw_mv (by rfl) rfl rfl ?_
           simp only [Act.put, pu]
           refine pw_callB (by rfl) 16 _ _ rfl Try.func16 (by kernel_rfl) #[.agg (zC 7 L), .int .i64 (j : Nat), .int .i64 (f : Nat)] rfl _ (hld _) ?_
           intro z31009 k
           simp only [Act.put, pu]
           replace r4 := k.row r4 (by simp <;> omega)
           replace r5 := k.row r5 (by simp <;> omega)
           replace sb := sb.trans (k.below w.heap.size sb.size (by simp <;> omega))
           clear k
           refine pw_value (by rfl) (.bool true) (exec_not _ _ rfl false rfl) ?_
           simp only [Act.put, pu]
           refine pw_pick (by rfl) false (v := .bool true) rfl rfl rfl ?_
           simp only [Act.put, pu]
           refine pw_mv (by rfl) rfl rfl ?_
           simp only [Act.put, pu]
           refine pw_mv (by rfl) rfl rfl ?_
           simp only [Act.put, pu]
           refine pw_value (by rfl) (.pointer (some ⟨g4, j, none⟩)) ((exec_index 35 _ _ rfl g4 rfl j 7 rfl (hj7) _ Try.underlying35 Try.sizeOf3)) ?_
           simp only [Act.put, pu]
           refine pw_loadk (by rfl) 3 _ rfl _ (j) rfl r4.r (.int .i64 (H j)) (zC_get H (hj7)) Try.isAgg3 ?_
           simp only [Act.put, pu]
           refine pw_value (by rfl) (.int .i64 h) (x_an _ _ _ _ rfl (H j) 1048575 h rfl rfl hh) ?_
           simp only [Act.put, pu]
           refine pw_mv (by rfl) rfl rfl ?_
           simp only [Act.put, pu]
           refine pw_value (by rfl) (.bool false) (exec_geq_i _ _ _ _ rfl (h) (x) rfl rfl false (decide_eq_false (by omega))) ?_
           simp only [Act.put, pu]
           refine pw_pick (by rfl) true (v := .bool false) rfl rfl rfl ?_
           simp only [Act.put, pu]
           refine pw_nil ?_
           (repeat ((fail_if_success with_reducible refine rg ?_); go_step))
           refine wp_region_pw ?_
           refine pw_mv (by rfl) rfl rfl ?_
           simp only [Act.put, pu]
           refine pw_value (by rfl) (.pointer (some ⟨g5, j, none⟩)) ((exec_index 35 _ _ rfl g5 rfl j 7 rfl (hj7) _ Try.underlying35 Try.sizeOf3)) ?_
           simp only [Act.put, pu]
           refine pw_loadk (by rfl) 3 _ rfl _ (j) rfl r5.r (.int .i64 (L j)) (zC_get L (hj7)) Try.isAgg3 ?_
           simp only [Act.put, pu]
           refine pw_value (by rfl) (.int .i64 y) (x_an _ _ _ _ rfl (L j) 7 y rfl rfl hy) ?_
           simp only [Act.put, pu]
           refine pw_value (by rfl) (.bool true) (exec_eql_k .i64 _ _ _ _ rfl (y) (0) rfl rfl true (hyb)) ?_
           simp only [Act.put, pu]
           refine pw_mv (by rfl) rfl rfl ?_
           simp only [Act.put, pu]
           refine pw_loadm (by rfl) 35 _ rfl _ 0 rfl r5.r _ (part_all _) _ Try.underlying35 rfl (by rw [zC_size]; exact info_i7) ?_
           simp only [Act.put, pu]
           refine pw_mv (by rfl) rfl rfl ?_
           simp only [Act.put, pu]
           refine pw_mv (by rfl) rfl rfl ?_
           simp only [Act.put, pu]
           refine pw_callB (by rfl) 16 _ _ rfl Try.func16 (by kernel_rfl) #[.agg (zC 7 L), .int .i64 (j : Nat), .int .i64 (f : Nat)] rfl _ (hld _) ?_
           intro z33009 k
           simp only [Act.put, pu]
           replace r4 := k.row r4 (by simp <;> omega)
           replace r5 := k.row r5 (by simp <;> omega)
           replace sb := sb.trans (k.below w.heap.size sb.size (by simp <;> omega))
           clear k
           refine pw_pick (by rfl) true (v := .bool false) rfl rfl rfl ?_
           simp only [Act.put, pu]
           refine pw_nil ?_
           (repeat ((fail_if_success with_reducible refine rg ?_); go_step))
           refine wp_region_pw ?_
           refine pw_mv (by rfl) rfl rfl ?_
           simp only [Act.put, pu]
           refine pw_value (by rfl) (.int .i64 ((j + 1 : Nat))) (x_addz _ _ _ _ rfl (j) (1) ((j + 1 : Nat)) rfl rfl (by omega) (by omega) (by omega)) ?_
           simp only [Act.put, pu]
           refine pw_as (by rfl) rfl rfl ?_
           simp only [Act.put, pu]
           refine pw_nil ?_
           go_wp2
           go_roundg g2
           case measure => omega
           case rel => exact ⟨j + 1, by omega, by exact congrArg (fun x : Nat => Value.int .i64 (x : Int)) hrc.symm, by exact congrArg (fun x : Nat => Value.int .i64 (x : Int)) hsn.symm, rfl, r4, r5, sb⟩
set_option maxRecDepth 100000 in
set_option maxHeartbeats 2000000 in
theorem walk (t : Int) (H L : Nat → Int) (w : World) (ht : -9223372036854775808 ≤ t ∧ t ≤ 9223372036854775807) :
  Calls Try.prog 5 #[.int .i64 t, .agg (zC 7 H), .agg (zC 7 L)] w fun e w' => e = .returned (.bool true) ∧ Below w.heap.size w w' := by
 obtain ⟨b, h1, h2⟩ := an1 t
 exact core t H L (1 + b) (3 * (1 + b) + 1) w (by omega) (by omega) rfl b h2 (by omega)
set_option maxRecDepth 100000 in
theorem lifted (os : Os) (started : os.Started) (H : Type) (enc : TypeId × Value → H) :
  ReturnsInHanded {} Try.checked os 5 .any (Rows.stampSoundSpec.pre6 enc Try.prog Try.f5 Rows.stampSoundRow.domain false) (Rows.stampSoundSpec.post enc Try.prog Try.f5 false true false false) := by
 refine returnsInHanded_of_change (C := Try.checked) own started (by kernel_rfl) Try.func5
  (ChangeSpec.witness6 (enc := enc) (C := Try.checked) false ⟨#[], #[.int .i64 0, .agg #[.int .i64 0, .int .i64 0, .int .i64 0, .int .i64 0, .int .i64 0, .int .i64 0, .int .i64 0], .agg #[.int .i64 0, .int .i64 0, .int .i64 0, .int .i64 0, .int .i64 0, .int .i64 0, .int .i64 0]], []⟩ 8 (by kernel_rfl) (by kernel_rfl) (by kernel_rfl) (by kernel_rfl)) ?_
 intro W base args ds gs before hval0 hW hcnd _
 have hval : ∀ (j : Nat) t v, Try.f5.params[j]? = some t → args[j]? = some v → Value.okWide Try.prog W .any base t v := hval0
 have hW' := hW
 obtain ⟨p, q, hA0, hV, rfl, hfz, hnd⟩ := hW
 have hA : DataW.TrodAll enc Try.prog W 0 (fun _ => true) true Try.f5.params.toList args.toList ds p := hA0
 rw [Try.params5] at hA hval
 obtain ⟨v0, vs0, d0, ds0, p0, q0, hargs, rfl, rfl, h0, r0⟩ := trodAll_cons hA
 obtain ⟨v1, vs1, d1, ds1, p1, q1, rfl, rfl, rfl, h1, r1⟩ := trodAll_cons r0
 obtain ⟨v2, vs2, d2, ds2, p2, q2, rfl, rfl, rfl, h2, r2⟩ := trodAll_cons r1
 obtain ⟨rfl, rfl, rfl⟩ := trodAll_nil r2
 obtain rfl : args = #[v0, v1, v2] := by cases args; simp_all
 obtain ⟨rfl, rfl⟩ := trodVars_none hV
 have k0 := h0
 have lt0 := lt_of_trod h0
 obtain ⟨a0, rfl, rfl, rfl, w0⟩ := open_int Try.underlying3 (hval 0 3 v0 rfl rfl) h0
 have k1 := h1
 have lt1 := lt_of_trod h1
 obtain ⟨L1, rfl⟩ := open_i7 (hval 1 35 v1 rfl rfl) h1
 have k2 := h2
 have lt2 := lt_of_trod h2
 obtain ⟨L2, rfl⟩ := open_i7 (hval 2 35 v2 rfl rfl) h2
 clear hA0 hval0
 refine (walk a0 L1 L2 W (bounds_i64 w0)).mono fun e W' ⟨he, bel⟩ => ?_
 subst he
 exact ⟨_, rfl, _, _, _, [], _, [], hW', trodAll_mk1 (shut_bool Try.underlying4 _), (trodAll_cons_mk (Below.trod laidOut (by kernel_rfl) (of_decide_eq_true (by kernel_rfl)) k0 bel lt0) (trodAll_cons_mk (Below.trod laidOut (by kernel_rfl) (of_decide_eq_true (by kernel_rfl)) k1 bel lt1) (trodAll_cons_mk (Below.trod laidOut (by kernel_rfl) (of_decide_eq_true (by kernel_rfl)) k2 bel lt2) trodAll_mk0))), rfl, bel.frame _, fun h => by cases h⟩
theorem over : Rows.stampSoundRow.holds Try.pinned (OpenSpec.ofChange Rows.stampSoundSpec) :=
 OpenClaim.holds_of_wide 5 Try.f5 rfl rfl rfl rfl rfl rfl rfl ⟨rfl, rfl, rfl, rfl, rfl⟩ rfl rfl rfl rfl rfl (by kernel_rfl) Try.func5 (by kernel_rfl)
  (of_decide_eq_true (by kernel_rfl)) (by unfold Func.isWrapper; first | (rw [if_pos (by decide +kernel)]; kernel_rfl) | (rw [if_neg (by decide +kernel)]; exact ⟨rfl, rfl⟩))
  (fun os started H enc _ => lifted os started H enc)
end stampSoundP
/-- For any number, whatever seven servers hold, whoever lies, whatever: what is vouched for is sound; no condition. -/
theorem stampSound_holds : Rows.StampSoundSaid := stampSoundP.over
end Go.Proofs.Ytdgbjmolinoplaa
