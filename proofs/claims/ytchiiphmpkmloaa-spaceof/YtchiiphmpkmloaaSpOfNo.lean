/- The law of Of: where there is none such space. -/
import Derived.Test.YtchiiphmpkmloaaSpEnds
import Derived.Deep.Light
import Derived.Deep.CutRange
namespace Go.Proofs.Ytchiiphmpkmloaa
open Go.RowKit
set_option linter.unusedVariables false
set_option linter.unusedSectionVars false
set_option linter.unusedSimpArgs false
set_option maxRecDepth 100000 in
set_option maxHeartbeats 40000000 in
theorem spaceOf_no (n m : Int) (ak : Option Addr) (ck : Nat) (l : List Ky) (gq oq : Nat) (kcs : Array Value) (tk : TypeId) (az : Option Addr) (cz : Nat) (zs : List Int) (gz oz : Nat) (zcs : Array Value) (tz : TypeId) (w : World) (hn2 : n ≤ 9223372036854775807) (hm1 : l.length ≤ maxLen) (hc1 : ak = none → ck = 0) (hk : ElsAt 1 w ak l.length (stC l) gq oq kcs tk) (hm2 : zs.length ≤ maxLen) (hc2 : az = none → cz = 0) (hz : ElsAt 1 w az zs.length (inC zs) gz oz zcs tz) (hmode : mayOf n m zs l = false) :
  Calls Try.prog 5 #[.agg #[.int .i64 n, .int .i64 m], .slice ak l.length ck, .slice az zs.length cz] w fun e w' => e = .returned (.bool true) ∧ Below w.heap.size w w' := by
 have HK0 : Hid (ElsAt 1 w ak l.length (stC l) gq oq kcs tk) := hk
 have HZ0 : Hid (ElsAt 1 w az zs.length (inC zs) gz oz zcs tz) := hz
 have HM : Hid (mayOf n m zs l = false) := hmode
 clear hmode
 clear hn2 hm1 hm2 hk hz hc1 hc2
 go_enter Try.func5, Try.ntmps5
 have sb := sbmk w
 (repeat ((fail_if_success with_reducible refine rg ?_); go_step))
 refine wp_region_pw ?_
 refine pw_boxr (by rfl) 22 _ rfl (#[.int .i64 n, .int .i64 m]) rfl ?_
 intro g3 z0 n0 r3 k
 simp only [Act.put, pu]
 have b3 := Nat.le_trans sb.size n0
 clear n0
 replace sb := sb.trans (k.below w.heap.size sb.size (by simp <;> omega))
 clear k
 refine pw_value (by rfl) (.bool false) (fun _ => rfl) ?_
 simp only [Act.put, pu]
 refine pw_nil ?_
 have sd := sbmk z0
 have HK : Hid (ElsAt 1 z0 ak l.length (stC l) gq oq kcs tk) := HK0.out.below sb
 have HZ : Hid (ElsAt 1 z0 az zs.length (inC zs) gz oz zcs tz) := HZ0.out.below sb
 have HR3 : Hid (Row z0 g3 #[.int .i64 n, .int .i64 m] 22) := r3
 have HS0 : Hid (Below w.heap.size w z0) := sb
 clear r3 HK0 HZ0 sb
 by_cases hlk : (l.length : Int) > 20
 ·skip
  (repeat ((fail_if_success with_reducible refine rg ?_); go_step))
  refine wp_region_pw ?_
  refine pw_mv (by rfl) rfl rfl ?_
  simp only [Act.put, pu]
  refine pw_value (by rfl) (.int .i64 (l.length : Nat)) (exec_len_s 30 _ rfl (ak) (l.length) (ck) rfl sl_strs) ?_
  simp only [Act.put, pu]
  refine pw_value (by rfl) (.bool true) (exec_gt_i _ _ _ _ rfl ((l.length : Nat)) (20) rfl rfl true (decide_eq_true hlk)) ?_
  simp only [Act.put, pu]
  refine pw_mv (by rfl) rfl rfl ?_
  simp only [Act.put, pu]
  refine pw_skip (by rfl) ?_
  simp only [Act.put, pu]
  refine pw_skip (by rfl) ?_
  simp only [Act.put, pu]
  refine pw_skip (by rfl) ?_
  simp only [Act.put, pu]
  refine pw_pick (by rfl) true (v := .bool true) rfl rfl rfl ?_
  simp only [Act.put, pu]
  refine pw_nil ?_
  (repeat ((fail_if_success with_reducible refine rg ?_); go_step))
  refine wp_region_pw ?_
  refine pw_callB (by rfl) 8 _ _ rfl Try.func8 (by kernel_rfl) #[] rfl _ (awake_any _) ?_
  intro z2000 k
  simp only [Act.put, pu]
  replace sd := sd.trans (k.below z0.heap.size sd.size (by simp <;> omega))
  clear k
  refine pw_as (by rfl) rfl rfl ?_
  simp only [Act.put, pu]
  refine pw_nil ?_
  go_wp2
  go_ret
  exact ⟨rfl, below_on HS0.out (Nat.le_refl _) sd⟩
 by_cases hlz : (zs.length : Int) > 12
 ·skip
  (repeat ((fail_if_success with_reducible refine rg ?_); go_step))
  refine wp_region_pw ?_
  refine pw_mv (by rfl) rfl rfl ?_
  simp only [Act.put, pu]
  refine pw_value (by rfl) (.int .i64 (l.length : Nat)) (exec_len_s 30 _ rfl (ak) (l.length) (ck) rfl sl_strs) ?_
  simp only [Act.put, pu]
  refine pw_value (by rfl) (.bool false) (exec_gt_i _ _ _ _ rfl ((l.length : Nat)) (20) rfl rfl false (decide_eq_false hlk)) ?_
  simp only [Act.put, pu]
  refine pw_mv (by rfl) rfl rfl ?_
  simp only [Act.put, pu]
  refine pw_mv (by rfl) rfl rfl ?_
  simp only [Act.put, pu]
  refine pw_value (by rfl) (.int .i64 (zs.length : Nat)) (exec_len_s 31 _ rfl (az) (zs.length) (cz) rfl sl_ints) ?_
  simp only [Act.put, pu]
  refine pw_value (by rfl) (.bool true) (exec_gt_i _ _ _ _ rfl ((zs.length : Nat)) (12) rfl rfl true (decide_eq_true hlz)) ?_
  simp only [Act.put, pu]
  refine pw_pick (by rfl) false (v := .bool true) rfl rfl rfl ?_
  simp only [Act.put, pu]
  refine pw_nil ?_
  (repeat ((fail_if_success with_reducible refine rg ?_); go_step))
  refine wp_region_pw ?_
  refine pw_callB (by rfl) 8 _ _ rfl Try.func8 (by kernel_rfl) #[] rfl _ (awake_any _) ?_
  intro z2000 k
  simp only [Act.put, pu]
  replace sd := sd.trans (k.below z0.heap.size sd.size (by simp <;> omega))
  clear k
  refine pw_as (by rfl) rfl rfl ?_
  simp only [Act.put, pu]
  refine pw_nil ?_
  go_wp2
  go_ret
  exact ⟨rfl, below_on HS0.out (Nat.le_refl _) sd⟩
 (repeat ((fail_if_success with_reducible refine rg ?_); go_step))
 refine wp_region_pw ?_
 refine pw_mv (by rfl) rfl rfl ?_
 simp only [Act.put, pu]
 refine pw_value (by rfl) (.int .i64 (l.length : Nat)) (exec_len_s 30 _ rfl (ak) (l.length) (ck) rfl sl_strs) ?_
 simp only [Act.put, pu]
 refine pw_value (by rfl) (.bool false) (exec_gt_i _ _ _ _ rfl ((l.length : Nat)) (20) rfl rfl false (decide_eq_false hlk)) ?_
 simp only [Act.put, pu]
 refine pw_mv (by rfl) rfl rfl ?_
 simp only [Act.put, pu]
 refine pw_mv (by rfl) rfl rfl ?_
 simp only [Act.put, pu]
 refine pw_value (by rfl) (.int .i64 (zs.length : Nat)) (exec_len_s 31 _ rfl (az) (zs.length) (cz) rfl sl_ints) ?_
 simp only [Act.put, pu]
 refine pw_value (by rfl) (.bool false) (exec_gt_i _ _ _ _ rfl ((zs.length : Nat)) (12) rfl rfl false (decide_eq_false hlz)) ?_
 simp only [Act.put, pu]
 refine pw_pick (by rfl) false (v := .bool false) rfl rfl rfl ?_
 simp only [Act.put, pu]
 refine pw_nil ?_
 (repeat ((fail_if_success with_reducible refine rg ?_); go_step))
 refine wp_region_pw ?_
 refine pw_value (by rfl) (.int .i64 0) (fun _ => rfl) ?_
 simp only [Act.put, pu]
 refine pw_nil ?_
 have hl20 : l.length ≤ 20 := by omega
 have hz12 : zs.length ≤ 12 := by omega
 clear hlk hlz
 go_wp2_with fail
 go_loopg [6, 7] l.length (fun x s6 s7 wr => ∃ j : Nat, j + x = l.length ∧ s7 = .int .i64 j ∧ (∀ t, t < j → (l.getD t []).length ≤ 40) ∧ Below z0.heap.size z0 wr)
 case atStart => exact ⟨0, by omega, rfl, fun t ht => absurd ht (Nat.not_lt_zero _), sd⟩
 case round =>
  clear sd
  obtain ⟨j, hj, rfl, hall, sd⟩ := hrel
  have HA : Hid (∀ t, t < j → (l.getD t []).length ≤ 40) := hall
  clear hall
  cases gk with
  | succ y =>
   have hlt : j < l.length := by omega
   have h1 : (j : Int) < (l.length : Int) := by omega
   obtain h0 | ⟨rfl, rB, hbt⟩ := (HK.out.below sd).at'
   ·exact absurd h0 (by omega)
   obtain ⟨x, hx⟩ : ∃ x, l.getD j [] = x := ⟨_, rfl⟩
   have HX : Hid (l.getD j [] = x) := hx
   have hbx : kcs[oq + j * 1]? = some (.string ⟨x.toArray⟩) := by rw [← hx]; exact hbt j hlt 0 _ rfl
   clear hbt hx
   by_cases h40 : (x.length : Int) > 40
   ·skip
    (repeat ((fail_if_success with_reducible refine rg ?_); go_step))
    refine wp_region_pw ?_
    refine pw_mv (by rfl) rfl rfl ?_
    simp only [Act.put, pu]
    refine pw_mv (by rfl) rfl rfl ?_
    simp only [Act.put, pu]
    refine pw_value (by rfl) (.int .i64 (l.length : Nat)) (exec_len_s 30 _ rfl (some ⟨gq, oq, none⟩) (l.length) (ck) rfl sl_strs) ?_
    simp only [Act.put, pu]
    refine pw_value (by rfl) (.bool true) (exec_lt_b _ _ _ _ rfl ((j : Nat)) ((l.length : Nat)) rfl rfl true (decide_eq_true h1)) ?_
    simp only [Act.put, pu]
    refine pw_nil ?_
    (repeat ((fail_if_success with_reducible refine rg ?_); go_step))
    refine wp_region_pw ?_
    refine pw_mv (by rfl) rfl rfl ?_
    simp only [Act.put, pu]
    refine pw_mv (by rfl) rfl rfl ?_
    simp only [Act.put, pu]
    refine pw_value (by rfl) (.pointer (some ⟨gq, oq + j * 1, none⟩)) ((exec_index_s 30 _ _ rfl (gq) (oq) (l.length) (ck) rfl (j) rfl (hlt) _ Try.underlying30 1 Try.sizeOf9)) ?_
    simp only [Act.put, pu]
    refine pw_loadk (by rfl) 9 _ rfl _ (oq + j * 1) rfl rB (.string ⟨x.toArray⟩) hbx Try.isAgg9 ?_
    simp only [Act.put, pu]
    refine pw_value (by rfl) (.int .i64 (x.length : Nat)) (y_lenS _ _ rfl x rfl Try.underlying9) ?_
    simp only [Act.put, pu]
    refine pw_value (by rfl) (.bool true) (exec_gt_i _ _ _ _ rfl ((x.length : Nat)) (40) rfl rfl true (decide_eq_true h40)) ?_
    simp only [Act.put, pu]
    refine pw_nil ?_
    clear rB
    (repeat ((fail_if_success with_reducible refine rg ?_); go_step))
    refine wp_region_pw ?_
    refine pw_callB (by rfl) 8 _ _ rfl Try.func8 (by kernel_rfl) #[] rfl _ (awake_any _) ?_
    intro z7000 k
    simp only [Act.put, pu]
    replace sd := sd.trans (k.below z0.heap.size sd.size (by simp <;> omega))
    clear k
    refine pw_as (by rfl) rfl rfl ?_
    simp only [Act.put, pu]
    refine pw_nil ?_
    go_wp2
    go_ret
    exact ⟨rfl, below_on HS0.out (Nat.le_refl _) sd⟩
   ·skip
    (repeat ((fail_if_success with_reducible refine rg ?_); go_step))
    refine wp_region_pw ?_
    refine pw_mv (by rfl) rfl rfl ?_
    simp only [Act.put, pu]
    refine pw_mv (by rfl) rfl rfl ?_
    simp only [Act.put, pu]
    refine pw_value (by rfl) (.int .i64 (l.length : Nat)) (exec_len_s 30 _ rfl (some ⟨gq, oq, none⟩) (l.length) (ck) rfl sl_strs) ?_
    simp only [Act.put, pu]
    refine pw_value (by rfl) (.bool true) (exec_lt_b _ _ _ _ rfl ((j : Nat)) ((l.length : Nat)) rfl rfl true (decide_eq_true h1)) ?_
    simp only [Act.put, pu]
    refine pw_nil ?_
    (repeat ((fail_if_success with_reducible refine rg ?_); go_step))
    refine wp_region_pw ?_
    refine pw_mv (by rfl) rfl rfl ?_
    simp only [Act.put, pu]
    refine pw_mv (by rfl) rfl rfl ?_
    simp only [Act.put, pu]
    refine pw_value (by rfl) (.pointer (some ⟨gq, oq + j * 1, none⟩)) ((exec_index_s 30 _ _ rfl (gq) (oq) (l.length) (ck) rfl (j) rfl (hlt) _ Try.underlying30 1 Try.sizeOf9)) ?_
    simp only [Act.put, pu]
    refine pw_loadk (by rfl) 9 _ rfl _ (oq + j * 1) rfl rB (.string ⟨x.toArray⟩) hbx Try.isAgg9 ?_
    simp only [Act.put, pu]
    refine pw_value (by rfl) (.int .i64 (x.length : Nat)) (y_lenS _ _ rfl x rfl Try.underlying9) ?_
    simp only [Act.put, pu]
    refine pw_value (by rfl) (.bool false) (exec_gt_i _ _ _ _ rfl ((x.length : Nat)) (40) rfl rfl false (decide_eq_false h40)) ?_
    simp only [Act.put, pu]
    refine pw_nil ?_
    clear rB
    (repeat ((fail_if_success with_reducible refine rg ?_); go_step))
    refine wp_region_pw ?_
    refine pw_mv (by rfl) rfl rfl ?_
    simp only [Act.put, pu]
    refine pw_value (by rfl) (.int .i64 (((j + 1 : Nat) : Int))) (x_addz _ _ _ _ rfl ((j : Nat)) (1) (((j + 1 : Nat) : Int)) rfl rfl (by omega) (by omega) (by omega)) ?_
    simp only [Act.put, pu]
    refine pw_as (by rfl) rfl rfl ?_
    simp only [Act.put, pu]
    refine pw_nil ?_
    go_wp2
    go_roundg y
    case measure => omega
    case rel =>
     refine ⟨j + 1, by omega, rfl, fun t ht => ?_, sd⟩
     by_cases e : t = j
     ·rw [e, HX.out]; omega
     ·exact HA.out t (by omega)
  | zero =>
   have h40 : ∀ j, j < l.length → (l.getD j []).length ≤ 16777216 := fun t ht => by have := HA.out t (by omega); omega
   have h1 : ¬ (j : Int) < (l.length : Int) := by omega
   have hOf := fun w' (hb : Below z0.heap.size z0 w') => of_any n m ak ck l gq oq kcs tk az cz zs gz oz zcs tz w' (HK.out.below hb) (HZ.out.below hb) (by omega) (by omega) h40
   (repeat ((fail_if_success with_reducible refine rg ?_); go_step))
   refine wp_region_pw ?_
   refine pw_mv (by rfl) rfl rfl ?_
   simp only [Act.put, pu]
   refine pw_mv (by rfl) rfl rfl ?_
   simp only [Act.put, pu]
   refine pw_value (by rfl) (.int .i64 (l.length : Nat)) (exec_len_s 30 _ rfl (ak) (l.length) (ck) rfl sl_strs) ?_
   simp only [Act.put, pu]
   refine pw_value (by rfl) (.bool false) (exec_lt_b _ _ _ _ rfl ((j : Nat)) ((l.length : Nat)) rfl rfl false (decide_eq_false h1)) ?_
   simp only [Act.put, pu]
   refine pw_nil ?_
   clear HA hj h1
   have r3 := HR3.out.belowAll sd
   obtain ⟨bs, hbs0⟩ : ∃ bs, wr.heap.size = bs := ⟨_, rfl⟩
   have HC : Hid (z0.heap.size ≤ bs) := by rw [← hbs0]; exact sd.size
   (repeat ((fail_if_success with_reducible refine rg ?_); go_step))
   refine wp_region_pw ?_
   refine pw_value (by rfl) (.pointer (some ⟨g3, 0, none⟩)) (exec_index 22 _ _ rfl g3 rfl 0 2 rfl (by decide) _ Try.underlying22 Try.sizeOf3) ?_
   simp only [Act.put, pu]
   refine pw_loadk (by rfl) 3 _ rfl _ (0) rfl r3.r (.int .i64 n) rfl Try.isAgg3 ?_
   simp only [Act.put, pu]
   refine pw_value (by rfl) (.pointer (some ⟨g3, 1, none⟩)) (exec_index 22 _ _ rfl g3 rfl 1 2 rfl (by decide) _ Try.underlying22 Try.sizeOf3) ?_
   simp only [Act.put, pu]
   refine pw_loadk (by rfl) 3 _ rfl _ (1) rfl r3.r (.int .i64 m) rfl Try.isAgg3 ?_
   simp only [Act.put, pu]
   refine pw_mv (by rfl) rfl rfl ?_
   simp only [Act.put, pu]
   refine pw_mv (by rfl) rfl rfl ?_
   simp only [Act.put, pu]
   refine pw_callE (by rfl) 21 _ _ rfl Try.func21 (by kernel_rfl) #[.int .i64 n, .int .i64 m, .slice ak l.length ck, .slice az zs.length cz] rfl (hOf _ sd) ?_
   rintro _ z8006 ⟨pv, er, rfl, hR, hb⟩
   refine ⟨_, rfl, ?_⟩
   simp only [Act.put, pu]
   have k := Kept.ofBelow hb
   clear hb
   replace r3 := k.row r3 (by simp <;> omega)
   replace sd := sd.trans (k.below z0.heap.size sd.size (by simp <;> omega))
   clear k
   refine pw_mv (by rfl) rfl rfl ?_
   simp only [Act.put, pu]
   refine pw_ext (by rfl) rfl rfl rfl ?_
   simp only [Act.put, pu]
   refine pw_ext (by rfl) rfl rfl rfl ?_
   simp only [Act.put, pu]
   refine pw_as (by rfl) rfl rfl ?_
   simp only [Act.put, pu]
   refine pw_as (by rfl) rfl rfl ?_
   simp only [Act.put, pu]
   refine pw_nil ?_
   have HR : Hid (OfR z8006 bs n m zs l pv er) := by rw [← hbs0]; exact hR
   clear hbs0
   have HSD : Hid (Below z0.heap.size z0 z8006) := sd
   have HSB : Hid (Below w.heap.size w z8006) := below_on HS0.out (Nat.le_refl _) sd
   have HK8 : Hid (ElsAt 1 z8006 ak l.length (stC l) gq oq kcs tk) := HK.out.below sd
   have HZ8 : Hid (ElsAt 1 z8006 az zs.length (inC zs) gz oz zcs tz) := HZ.out.below sd
   have HR8 : Hid (Row z8006 g3 #[.int .i64 n, .int .i64 m] 22) := r3
   clear hR hOf h40
   have sA := sbmk z8006
   clear sd
   go_upto_region 9 with fail
   go_cut [10] from 23 (fun s10 wx => s10 = .bool (decide (1 ≤ n ∧ n ≤ 7 ∧ 1 ≤ m ∧ m ≤ 4)) ∧ Row wx g3 #[.int .i64 n, .int .i64 m] 22 ∧ Below z8006.heap.size z8006 wx)
   case first => as_aux_lemma =>
    by_cases a1 : 1 ≤ n
    ·by_cases a2 : n ≤ 7
     ·by_cases a3 : 1 ≤ m
      ·by_cases a4 : m ≤ 4
       ·skip
        (repeat ((fail_if_success with_reducible refine rg ?_); go_step))
        refine wp_region_pw ?_
        refine pw_value (by rfl) (.pointer (some ⟨g3, 0, none⟩)) (exec_index 22 _ _ rfl g3 rfl 0 2 rfl (by decide) _ Try.underlying22 Try.sizeOf3) ?_
        simp only [Act.put, pu]
        refine pw_loadk (by rfl) 3 _ rfl _ (0) rfl r3.r (.int .i64 n) rfl Try.isAgg3 ?_
        simp only [Act.put, pu]
        refine pw_value (by rfl) (.bool true) (exec_geq_i _ _ _ _ rfl (n) (1) rfl rfl true (decide_eq_true (by omega))) ?_
        simp only [Act.put, pu]
        refine pw_mv (by rfl) rfl rfl ?_
        simp only [Act.put, pu]
        refine pw_value (by rfl) (.pointer (some ⟨g3, 0, none⟩)) (exec_index 22 _ _ rfl g3 rfl 0 2 rfl (by decide) _ Try.underlying22 Try.sizeOf3) ?_
        simp only [Act.put, pu]
        refine pw_loadk (by rfl) 3 _ rfl _ (0) rfl r3.r (.int .i64 n) rfl Try.isAgg3 ?_
        simp only [Act.put, pu]
        refine pw_value (by rfl) (.bool true) (exec_leq_i _ _ _ _ rfl (n) (7) rfl rfl true (decide_eq_true (by omega))) ?_
        simp only [Act.put, pu]
        refine pw_pick (by rfl) true (v := .bool true) rfl rfl rfl ?_
        simp only [Act.put, pu]
        refine pw_mv (by rfl) rfl rfl ?_
        simp only [Act.put, pu]
        refine pw_value (by rfl) (.pointer (some ⟨g3, 1, none⟩)) (exec_index 22 _ _ rfl g3 rfl 1 2 rfl (by decide) _ Try.underlying22 Try.sizeOf3) ?_
        simp only [Act.put, pu]
        refine pw_loadk (by rfl) 3 _ rfl _ (1) rfl r3.r (.int .i64 m) rfl Try.isAgg3 ?_
        simp only [Act.put, pu]
        refine pw_value (by rfl) (.bool true) (exec_geq_i _ _ _ _ rfl (m) (1) rfl rfl true (decide_eq_true (by omega))) ?_
        simp only [Act.put, pu]
        refine pw_pick (by rfl) true (v := .bool true) rfl rfl rfl ?_
        simp only [Act.put, pu]
        refine pw_mv (by rfl) rfl rfl ?_
        simp only [Act.put, pu]
        refine pw_value (by rfl) (.pointer (some ⟨g3, 1, none⟩)) (exec_index 22 _ _ rfl g3 rfl 1 2 rfl (by decide) _ Try.underlying22 Try.sizeOf3) ?_
        simp only [Act.put, pu]
        refine pw_loadk (by rfl) 3 _ rfl _ (1) rfl r3.r (.int .i64 m) rfl Try.isAgg3 ?_
        simp only [Act.put, pu]
        refine pw_value (by rfl) (.bool true) (exec_leq_i _ _ _ _ rfl (m) (4) rfl rfl true (decide_eq_true (by omega))) ?_
        simp only [Act.put, pu]
        refine pw_pick (by rfl) true (v := .bool true) rfl rfl rfl ?_
        simp only [Act.put, pu]
        refine pw_as (by rfl) rfl rfl ?_
        simp only [Act.put, pu]
        refine pw_nil ?_
        go_wp2
        go_meet
        case rel => exact ⟨congrArg Value.bool (decide_eq_true (p := 1 ≤ n ∧ n ≤ 7 ∧ 1 ≤ m ∧ m ≤ 4) (by omega)).symm, r3, sA⟩
       ·skip
        (repeat ((fail_if_success with_reducible refine rg ?_); go_step))
        refine wp_region_pw ?_
        refine pw_value (by rfl) (.pointer (some ⟨g3, 0, none⟩)) (exec_index 22 _ _ rfl g3 rfl 0 2 rfl (by decide) _ Try.underlying22 Try.sizeOf3) ?_
        simp only [Act.put, pu]
        refine pw_loadk (by rfl) 3 _ rfl _ (0) rfl r3.r (.int .i64 n) rfl Try.isAgg3 ?_
        simp only [Act.put, pu]
        refine pw_value (by rfl) (.bool true) (exec_geq_i _ _ _ _ rfl (n) (1) rfl rfl true (decide_eq_true (by omega))) ?_
        simp only [Act.put, pu]
        refine pw_mv (by rfl) rfl rfl ?_
        simp only [Act.put, pu]
        refine pw_value (by rfl) (.pointer (some ⟨g3, 0, none⟩)) (exec_index 22 _ _ rfl g3 rfl 0 2 rfl (by decide) _ Try.underlying22 Try.sizeOf3) ?_
        simp only [Act.put, pu]
        refine pw_loadk (by rfl) 3 _ rfl _ (0) rfl r3.r (.int .i64 n) rfl Try.isAgg3 ?_
        simp only [Act.put, pu]
        refine pw_value (by rfl) (.bool true) (exec_leq_i _ _ _ _ rfl (n) (7) rfl rfl true (decide_eq_true (by omega))) ?_
        simp only [Act.put, pu]
        refine pw_pick (by rfl) true (v := .bool true) rfl rfl rfl ?_
        simp only [Act.put, pu]
        refine pw_mv (by rfl) rfl rfl ?_
        simp only [Act.put, pu]
        refine pw_value (by rfl) (.pointer (some ⟨g3, 1, none⟩)) (exec_index 22 _ _ rfl g3 rfl 1 2 rfl (by decide) _ Try.underlying22 Try.sizeOf3) ?_
        simp only [Act.put, pu]
        refine pw_loadk (by rfl) 3 _ rfl _ (1) rfl r3.r (.int .i64 m) rfl Try.isAgg3 ?_
        simp only [Act.put, pu]
        refine pw_value (by rfl) (.bool true) (exec_geq_i _ _ _ _ rfl (m) (1) rfl rfl true (decide_eq_true (by omega))) ?_
        simp only [Act.put, pu]
        refine pw_pick (by rfl) true (v := .bool true) rfl rfl rfl ?_
        simp only [Act.put, pu]
        refine pw_mv (by rfl) rfl rfl ?_
        simp only [Act.put, pu]
        refine pw_value (by rfl) (.pointer (some ⟨g3, 1, none⟩)) (exec_index 22 _ _ rfl g3 rfl 1 2 rfl (by decide) _ Try.underlying22 Try.sizeOf3) ?_
        simp only [Act.put, pu]
        refine pw_loadk (by rfl) 3 _ rfl _ (1) rfl r3.r (.int .i64 m) rfl Try.isAgg3 ?_
        simp only [Act.put, pu]
        refine pw_value (by rfl) (.bool false) (exec_leq_i _ _ _ _ rfl (m) (4) rfl rfl false (decide_eq_false (by omega))) ?_
        simp only [Act.put, pu]
        refine pw_pick (by rfl) true (v := .bool false) rfl rfl rfl ?_
        simp only [Act.put, pu]
        refine pw_as (by rfl) rfl rfl ?_
        simp only [Act.put, pu]
        refine pw_nil ?_
        go_wp2
        go_meet
        case rel => exact ⟨congrArg Value.bool (decide_eq_false (p := 1 ≤ n ∧ n ≤ 7 ∧ 1 ≤ m ∧ m ≤ 4) (by omega)).symm, r3, sA⟩
      ·skip
       (repeat ((fail_if_success with_reducible refine rg ?_); go_step))
       refine wp_region_pw ?_
       refine pw_value (by rfl) (.pointer (some ⟨g3, 0, none⟩)) (exec_index 22 _ _ rfl g3 rfl 0 2 rfl (by decide) _ Try.underlying22 Try.sizeOf3) ?_
       simp only [Act.put, pu]
       refine pw_loadk (by rfl) 3 _ rfl _ (0) rfl r3.r (.int .i64 n) rfl Try.isAgg3 ?_
       simp only [Act.put, pu]
       refine pw_value (by rfl) (.bool true) (exec_geq_i _ _ _ _ rfl (n) (1) rfl rfl true (decide_eq_true (by omega))) ?_
       simp only [Act.put, pu]
       refine pw_mv (by rfl) rfl rfl ?_
       simp only [Act.put, pu]
       refine pw_value (by rfl) (.pointer (some ⟨g3, 0, none⟩)) (exec_index 22 _ _ rfl g3 rfl 0 2 rfl (by decide) _ Try.underlying22 Try.sizeOf3) ?_
       simp only [Act.put, pu]
       refine pw_loadk (by rfl) 3 _ rfl _ (0) rfl r3.r (.int .i64 n) rfl Try.isAgg3 ?_
       simp only [Act.put, pu]
       refine pw_value (by rfl) (.bool true) (exec_leq_i _ _ _ _ rfl (n) (7) rfl rfl true (decide_eq_true (by omega))) ?_
       simp only [Act.put, pu]
       refine pw_pick (by rfl) true (v := .bool true) rfl rfl rfl ?_
       simp only [Act.put, pu]
       refine pw_mv (by rfl) rfl rfl ?_
       simp only [Act.put, pu]
       refine pw_value (by rfl) (.pointer (some ⟨g3, 1, none⟩)) (exec_index 22 _ _ rfl g3 rfl 1 2 rfl (by decide) _ Try.underlying22 Try.sizeOf3) ?_
       simp only [Act.put, pu]
       refine pw_loadk (by rfl) 3 _ rfl _ (1) rfl r3.r (.int .i64 m) rfl Try.isAgg3 ?_
       simp only [Act.put, pu]
       refine pw_value (by rfl) (.bool false) (exec_geq_i _ _ _ _ rfl (m) (1) rfl rfl false (decide_eq_false (by omega))) ?_
       simp only [Act.put, pu]
       refine pw_pick (by rfl) true (v := .bool false) rfl rfl rfl ?_
       simp only [Act.put, pu]
       refine pw_mv (by rfl) rfl rfl ?_
       simp only [Act.put, pu]
       refine pw_skip (by rfl) ?_
       simp only [Act.put, pu]
       refine pw_skip (by rfl) ?_
       simp only [Act.put, pu]
       refine pw_skip (by rfl) ?_
       simp only [Act.put, pu]
       refine pw_pick (by rfl) false (v := .bool false) rfl rfl rfl ?_
       simp only [Act.put, pu]
       refine pw_as (by rfl) rfl rfl ?_
       simp only [Act.put, pu]
       refine pw_nil ?_
       go_wp2
       go_meet
       case rel => exact ⟨congrArg Value.bool (decide_eq_false (p := 1 ≤ n ∧ n ≤ 7 ∧ 1 ≤ m ∧ m ≤ 4) (by omega)).symm, r3, sA⟩
     ·skip
      (repeat ((fail_if_success with_reducible refine rg ?_); go_step))
      refine wp_region_pw ?_
      refine pw_value (by rfl) (.pointer (some ⟨g3, 0, none⟩)) (exec_index 22 _ _ rfl g3 rfl 0 2 rfl (by decide) _ Try.underlying22 Try.sizeOf3) ?_
      simp only [Act.put, pu]
      refine pw_loadk (by rfl) 3 _ rfl _ (0) rfl r3.r (.int .i64 n) rfl Try.isAgg3 ?_
      simp only [Act.put, pu]
      refine pw_value (by rfl) (.bool true) (exec_geq_i _ _ _ _ rfl (n) (1) rfl rfl true (decide_eq_true (by omega))) ?_
      simp only [Act.put, pu]
      refine pw_mv (by rfl) rfl rfl ?_
      simp only [Act.put, pu]
      refine pw_value (by rfl) (.pointer (some ⟨g3, 0, none⟩)) (exec_index 22 _ _ rfl g3 rfl 0 2 rfl (by decide) _ Try.underlying22 Try.sizeOf3) ?_
      simp only [Act.put, pu]
      refine pw_loadk (by rfl) 3 _ rfl _ (0) rfl r3.r (.int .i64 n) rfl Try.isAgg3 ?_
      simp only [Act.put, pu]
      refine pw_value (by rfl) (.bool false) (exec_leq_i _ _ _ _ rfl (n) (7) rfl rfl false (decide_eq_false (by omega))) ?_
      simp only [Act.put, pu]
      refine pw_pick (by rfl) true (v := .bool false) rfl rfl rfl ?_
      simp only [Act.put, pu]
      refine pw_mv (by rfl) rfl rfl ?_
      simp only [Act.put, pu]
      refine pw_skip (by rfl) ?_
      simp only [Act.put, pu]
      refine pw_skip (by rfl) ?_
      simp only [Act.put, pu]
      refine pw_skip (by rfl) ?_
      simp only [Act.put, pu]
      refine pw_pick (by rfl) false (v := .bool false) rfl rfl rfl ?_
      simp only [Act.put, pu]
      refine pw_mv (by rfl) rfl rfl ?_
      simp only [Act.put, pu]
      refine pw_skip (by rfl) ?_
      simp only [Act.put, pu]
      refine pw_skip (by rfl) ?_
      simp only [Act.put, pu]
      refine pw_skip (by rfl) ?_
      simp only [Act.put, pu]
      refine pw_pick (by rfl) false (v := .bool false) rfl rfl rfl ?_
      simp only [Act.put, pu]
      refine pw_as (by rfl) rfl rfl ?_
      simp only [Act.put, pu]
      refine pw_nil ?_
      go_wp2
      go_meet
      case rel => exact ⟨congrArg Value.bool (decide_eq_false (p := 1 ≤ n ∧ n ≤ 7 ∧ 1 ≤ m ∧ m ≤ 4) (by omega)).symm, r3, sA⟩
    ·skip
     (repeat ((fail_if_success with_reducible refine rg ?_); go_step))
     refine wp_region_pw ?_
     refine pw_value (by rfl) (.pointer (some ⟨g3, 0, none⟩)) (exec_index 22 _ _ rfl g3 rfl 0 2 rfl (by decide) _ Try.underlying22 Try.sizeOf3) ?_
     simp only [Act.put, pu]
     refine pw_loadk (by rfl) 3 _ rfl _ (0) rfl r3.r (.int .i64 n) rfl Try.isAgg3 ?_
     simp only [Act.put, pu]
     refine pw_value (by rfl) (.bool false) (exec_geq_i _ _ _ _ rfl (n) (1) rfl rfl false (decide_eq_false (by omega))) ?_
     simp only [Act.put, pu]
     refine pw_mv (by rfl) rfl rfl ?_
     simp only [Act.put, pu]
     refine pw_skip (by rfl) ?_
     simp only [Act.put, pu]
     refine pw_skip (by rfl) ?_
     simp only [Act.put, pu]
     refine pw_skip (by rfl) ?_
     simp only [Act.put, pu]
     refine pw_pick (by rfl) false (v := .bool false) rfl rfl rfl ?_
     simp only [Act.put, pu]
     refine pw_mv (by rfl) rfl rfl ?_
     simp only [Act.put, pu]
     refine pw_skip (by rfl) ?_
     simp only [Act.put, pu]
     refine pw_skip (by rfl) ?_
     simp only [Act.put, pu]
     refine pw_skip (by rfl) ?_
     simp only [Act.put, pu]
     refine pw_pick (by rfl) false (v := .bool false) rfl rfl rfl ?_
     simp only [Act.put, pu]
     refine pw_mv (by rfl) rfl rfl ?_
     simp only [Act.put, pu]
     refine pw_skip (by rfl) ?_
     simp only [Act.put, pu]
     refine pw_skip (by rfl) ?_
     simp only [Act.put, pu]
     refine pw_skip (by rfl) ?_
     simp only [Act.put, pu]
     refine pw_pick (by rfl) false (v := .bool false) rfl rfl rfl ?_
     simp only [Act.put, pu]
     refine pw_as (by rfl) rfl rfl ?_
     simp only [Act.put, pu]
     refine pw_nil ?_
     go_wp2
     go_meet
     case rel => exact ⟨congrArg Value.bool (decide_eq_false (p := 1 ≤ n ∧ n ≤ 7 ∧ 1 ≤ m ∧ m ≤ 4) (by omega)).symm, r3, sA⟩
   case rest => as_aux_lemma =>
    clear r3 sA
    obtain ⟨B0, hB0⟩ : ∃ B0, decide (1 ≤ n ∧ n ≤ 7 ∧ 1 ≤ m ∧ m ≤ 4) = B0 := ⟨_, rfl⟩
    rw [hB0] at hcut
    have HB0 : Hid (decide (1 ≤ n ∧ n ≤ 7 ∧ 1 ≤ m ∧ m ≤ 4) = B0) := hB0
    clear hB0
    obtain ⟨rfl, r3, sA⟩ := hcut
    (repeat ((fail_if_success with_reducible refine rg ?_); go_step))
    refine wp_region_pw ?_
    refine pw_value (by rfl) (.pointer (some ⟨g3, 0, none⟩)) (exec_index 22 _ _ rfl g3 rfl 0 2 rfl (by decide) _ Try.underlying22 Try.sizeOf3) ?_
    simp only [Act.put, pu]
    refine pw_loadk (by rfl) 3 _ rfl _ (0) rfl r3.r (.int .i64 n) rfl Try.isAgg3 ?_
    simp only [Act.put, pu]
    refine pw_value (by rfl) (.pointer (some ⟨g3, 1, none⟩)) (exec_index 22 _ _ rfl g3 rfl 1 2 rfl (by decide) _ Try.underlying22 Try.sizeOf3) ?_
    simp only [Act.put, pu]
    refine pw_loadk (by rfl) 3 _ rfl _ (1) rfl r3.r (.int .i64 m) rfl Try.isAgg3 ?_
    simp only [Act.put, pu]
    refine pw_mv (by rfl) rfl rfl ?_
    simp only [Act.put, pu]
    refine pw_value (by rfl) (.agg (sxC n m (.slice ak l.length ck) (.slice none 0 0))) (exec_buildv _ [(0, _), (1, _), (2, _)] rfl [(0, .int .i64 n), (1, .int .i64 m), (2, .slice ak l.length ck)] rfl _ (built_rf2 n m ak l.length ck)) ?_
    simp only [Act.put, pu]
    refine pw_new (by rfl) 33 rfl _ zero_rf ?_
    intro g11 z10006 n0 r11 k
    simp only [Act.put, pu]
    have d3x11 := Nat.lt_of_lt_of_le r3.lt n0
    have b11 := Nat.le_trans sA.size n0
    clear n0
    replace r3 := k.row r3 (by simp <;> omega)
    replace sA := sA.trans (k.below z8006.heap.size sA.size (by simp <;> omega))
    clear k
    refine pw_put (by rfl) 33 _ _ rfl _ rfl r11 (sxC n m (.slice ak l.length ck) (.slice none 0 0)) rfl (by rw [sxC_size]; exact size_rf) (by simp only [sxC_size]) (sx_one _ _ _ _ (by rfl) (by rfl)) ?_
    clear r11
    intro z10007 r11 k
    simp only [Act.put]
    replace r3 := k.row r3 (by simp <;> omega)
    replace sA := sA.trans (k.below z8006.heap.size sA.size (by simp <;> omega))
    clear k
    refine pw_nil ?_
    go_upto_region 11 with fail
    go_cut [10] from 23 (fun s10 wx => s10 = .bool (B0 && decide ((zs.length : Int) = n + m)) ∧ Row wx g3 #[.int .i64 n, .int .i64 m] 22 ∧ Row wx g11 (sxC n m (.slice ak l.length ck) (.slice none 0 0)) 33 ∧ Below z8006.heap.size z8006 wx)
    case first => as_aux_lemma =>
     cases hb0 : B0 with
     | false =>
      (repeat ((fail_if_success with_reducible refine rg ?_); go_step))
      refine wp_region_pw ?_
      refine pw_mv (by rfl) rfl rfl ?_
      simp only [Act.put, pu]
      refine pw_mv (by rfl) rfl rfl ?_
      simp only [Act.put, pu]
      refine pw_skip (by rfl) ?_
      simp only [Act.put, pu]
      refine pw_skip (by rfl) ?_
      simp only [Act.put, pu]
      refine pw_skip (by rfl) ?_
      simp only [Act.put, pu]
      refine pw_skip (by rfl) ?_
      simp only [Act.put, pu]
      refine pw_skip (by rfl) ?_
      simp only [Act.put, pu]
      refine pw_skip (by rfl) ?_
      simp only [Act.put, pu]
      refine pw_skip (by rfl) ?_
      simp only [Act.put, pu]
      refine pw_skip (by rfl) ?_
      simp only [Act.put, pu]
      refine pw_pick (by rfl) false (v := .bool false) rfl rfl rfl ?_
      simp only [Act.put, pu]
      refine pw_as (by rfl) rfl rfl ?_
      simp only [Act.put, pu]
      refine pw_nil ?_
      go_wp2
      go_meet
      case rel => exact ⟨congrArg Value.bool (by rw [hb0]; first | done | rfl), r3, r11, sA⟩
     | true =>
      obtain ⟨a1, a2, a3, a4⟩ := of_decide_eq_true (HB0.out.trans hb0)
      (repeat ((fail_if_success with_reducible refine rg ?_); go_step))
      refine wp_region_pw ?_
      refine pw_mv (by rfl) rfl rfl ?_
      simp only [Act.put, pu]
      refine pw_mv (by rfl) rfl rfl ?_
      simp only [Act.put, pu]
      refine pw_mv (by rfl) rfl rfl ?_
      simp only [Act.put, pu]
      refine pw_value (by rfl) (.int .i64 (zs.length : Nat)) (exec_len_s 31 _ rfl (az) (zs.length) (cz) rfl sl_ints) ?_
      simp only [Act.put, pu]
      refine pw_value (by rfl) (.pointer (some ⟨g3, 0, none⟩)) (exec_index 22 _ _ rfl g3 rfl 0 2 rfl (by decide) _ Try.underlying22 Try.sizeOf3) ?_
      simp only [Act.put, pu]
      refine pw_loadk (by rfl) 3 _ rfl _ (0) rfl r3.r (.int .i64 n) rfl Try.isAgg3 ?_
      simp only [Act.put, pu]
      refine pw_value (by rfl) (.pointer (some ⟨g3, 1, none⟩)) (exec_index 22 _ _ rfl g3 rfl 1 2 rfl (by decide) _ Try.underlying22 Try.sizeOf3) ?_
      simp only [Act.put, pu]
      refine pw_loadk (by rfl) 3 _ rfl _ (1) rfl r3.r (.int .i64 m) rfl Try.isAgg3 ?_
      simp only [Act.put, pu]
      refine pw_value (by rfl) (.int .i64 (n + m)) (x_addz _ _ _ _ rfl (n) (m) (n + m) rfl rfl (by omega) (by omega) (by omega)) ?_
      simp only [Act.put, pu]
      refine pw_value (by rfl) (.bool (decide ((zs.length : Int) = n + m))) (exec_eql_k .i64 _ _ _ _ rfl (zs.length : Nat) (n + m) rfl rfl _ rfl) ?_
      simp only [Act.put, pu]
      refine pw_pick (by rfl) true (v := .bool (decide ((zs.length : Int) = n + m))) rfl rfl rfl ?_
      simp only [Act.put, pu]
      refine pw_as (by rfl) rfl rfl ?_
      simp only [Act.put, pu]
      refine pw_nil ?_
      go_wp2
      go_meet
      case rel => exact ⟨congrArg Value.bool (by rw [hb0, Bool.true_and]), r3, r11, sA⟩
    case rest => as_aux_lemma =>
     clear r3 r11 sA
     obtain ⟨B1, hB1⟩ : ∃ B1, (B0 && decide ((zs.length : Int) = n + m)) = B1 := ⟨_, rfl⟩
     rw [hB1] at hcut
     have HB1 : Hid ((B0 && decide ((zs.length : Int) = n + m)) = B1) := hB1
     clear hB1
     obtain ⟨rfl, r3, r11, sA⟩ := hcut
     clear r3
     have HBO : Hid (∀ b : Bool, (B1 && b) = true → 1 ≤ n ∧ n ≤ 7 ∧ 1 ≤ m ∧ m ≤ 4) := fun b h9 => by
      rw [Bool.and_eq_true, ← HB1.out, Bool.and_eq_true, ← HB0.out] at h9
      exact of_decide_eq_true h9.1.1
     obtain ⟨ii, hii, hiz, his, hib⟩ := of_info info_int
     have q3 : ¬ 1 * ii.size > 2 ^ 24 := by rw [his]; decide
     have q4 : ¬ 1 * ii.size = 0 := by rw [his]; decide
     have ql2 := fun e => lit_int1 e ii.size his
     (repeat ((fail_if_success with_reducible refine rg ?_); go_step))
     refine wp_region_pw ?_
     refine pw_value (by rfl) (.int .i64 0) (fun _ => rfl) ?_
     simp only [Act.put, pu]
     refine pw_nil ?_
     go_wp2_with fail
     go_loopg [10, 12, 13] zs.length (fun x s10 s12 s13 wr => ∃ (i : Nat) (f : Bool) (E : List Int) (ev : Value), ((i + x = zs.length) ∨ (f = false ∧ i ≤ zs.length)) ∧ s12 = .int .i64 i ∧ s10 = .bool f ∧ (f = (B1 && useB n m zs i)) ∧ (f = true → E = (endsF zs i).take (l.length + 1)) ∧ E.length ≤ l.length + 1 ∧ Row wr g11 (sxC n m (.slice ak l.length ck) (ev)) 33 ∧ OwnE 1 3 wr z8006.heap.size ev E.length (inC E) ∧ ev.ownBlock ≠ some g11 ∧ Below z8006.heap.size z8006 wr)
     case atStart =>
      exact ⟨0, B1, [], .slice none 0 0, (.inl (by omega)), rfl, rfl, (Bool.and_true _).symm, fun _ => rfl, by simp, r11, ownE_nil _ _ _ _, (fun h => by cases h), sA⟩
     case round =>
      clear sA r11
      obtain ⟨i, f, E, ev, hx, rfl, rfl, hf, hE, hEl, r11, hO, ehOx11, sA⟩ := hrel
      have HF : Hid (f = (B1 && useB n m zs i)) := hf
      have HE : Hid (f = true → E = (endsF zs i).take (l.length + 1)) := hE
      clear hf hE
      have hil : i ≤ zs.length := by rcases hx with h | ⟨_, h⟩ <;> omega
      go_upto_region 13 with fail
      go_cut [96] from 90 to 140 (fun s96 wx => s96 = .bool (decide (i < zs.length) && f) ∧ wx = wr)
      case first => as_aux_lemma =>
       by_cases h1 : (i : Int) < (zs.length : Int)
       ·have h1n : decide (i < zs.length) = true := decide_eq_true (by omega)
        (repeat ((fail_if_success with_reducible refine rg ?_); go_step))
        refine wp_region_pw ?_
        refine pw_mv (by rfl) rfl rfl ?_
        simp only [Act.put, pu]
        refine pw_mv (by rfl) rfl rfl ?_
        simp only [Act.put, pu]
        refine pw_value (by rfl) (.int .i64 (zs.length : Nat)) (exec_len_s 31 _ rfl (az) (zs.length) (cz) rfl sl_ints) ?_
        simp only [Act.put, pu]
        refine pw_value (by rfl) (.bool true) (exec_lt_b _ _ _ _ rfl ((i : Nat)) ((zs.length : Nat)) rfl rfl true (decide_eq_true h1)) ?_
        simp only [Act.put, pu]
        refine pw_mv (by rfl) rfl rfl ?_
        simp only [Act.put, pu]
        refine pw_mv (by rfl) rfl rfl ?_
        simp only [Act.put, pu]
        refine pw_pick (by rfl) true (v := .bool f) rfl rfl rfl ?_
        simp only [Act.put, pu]
        refine pw_nil ?_
        go_wp2
        go_meet
        case rel => exact ⟨by rw [h1n, Bool.true_and], rfl⟩
       ·have h1n : decide (i < zs.length) = false := decide_eq_false (by omega)
        (repeat ((fail_if_success with_reducible refine rg ?_); go_step))
        refine wp_region_pw ?_
        refine pw_mv (by rfl) rfl rfl ?_
        simp only [Act.put, pu]
        refine pw_mv (by rfl) rfl rfl ?_
        simp only [Act.put, pu]
        refine pw_value (by rfl) (.int .i64 (zs.length : Nat)) (exec_len_s 31 _ rfl (az) (zs.length) (cz) rfl sl_ints) ?_
        simp only [Act.put, pu]
        refine pw_value (by rfl) (.bool false) (exec_lt_b _ _ _ _ rfl ((i : Nat)) ((zs.length : Nat)) rfl rfl false (decide_eq_false h1)) ?_
        simp only [Act.put, pu]
        refine pw_mv (by rfl) rfl rfl ?_
        simp only [Act.put, pu]
        refine pw_skip (by rfl) ?_
        simp only [Act.put, pu]
        refine pw_pick (by rfl) false (v := .bool false) rfl rfl rfl ?_
        simp only [Act.put, pu]
        refine pw_nil ?_
        go_wp2
        go_meet
        case rel => exact ⟨by rw [h1n, Bool.false_and], rfl⟩
      case rest => as_aux_lemma =>
       obtain ⟨rfl, rfl⟩ := hcut
       cases hgo : (decide (i < zs.length) && f) with
       | true =>
        obtain ⟨hlt, hft⟩ : i < zs.length ∧ f = true := by
         rw [Bool.and_eq_true, decide_eq_true_eq] at hgo
         exact hgo
        subst hft
        have hx2 : i + gk = zs.length := by
         rcases hx with h | ⟨h, _⟩
         ·exact h
         ·cases h
        obtain ⟨y, rfl⟩ : ∃ y, gk = y + 1 := ⟨gk - 1, by omega⟩
        clear hx
        have hEE := HE.out rfl
        obtain ⟨a1, a2, a3, a4⟩ := HBO.out _ HF.out.symm
        obtain h0 | ⟨rfl, rB, hbt⟩ := (HZ8.out.below sA).at'
        ·exact absurd h0 (by omega)
        obtain ⟨z, hzx⟩ : ∃ z, zs.getD i 0 = z := ⟨_, rfl⟩
        have HX : Hid (zs.getD i 0 = z) := hzx
        have hbx : zcs[oz + i * 1]? = some (.int .i64 z) := by rw [← hzx]; exact hbt i hlt 0 _ rfl
        have HBX : Hid (zcs[oz + i * 1]? = some (.int .i64 z)) := hbx
        have HEE : Hid (E = (endsF zs i).take (l.length + 1)) := hEE
        clear hbt hzx hEE hgo
        go_upto_region 15 with fail
        go_cut [10] from 90 to 140 (fun s10 wx => s10 = .bool (decide (0 ≤ z ∧ z ≤ quo n m ((i + 1 : Nat) : Int))) ∧ Row wx g11 (sxC n m (.slice ak l.length ck) (ev)) 33 ∧ OwnE 1 3 wx z8006.heap.size ev E.length (inC E) ∧ Below z8006.heap.size z8006 wx)
        case first => as_aux_lemma =>
         by_cases c1 : 0 ≤ z
         ·by_cases c2 : z ≤ quo n m ((i + 1 : Nat) : Int)
          ·skip
           (repeat ((fail_if_success with_reducible refine rg ?_); go_step))
           refine wp_region_qw (by kernel_rfl) (by kernel_rfl) ?_
           refine qw_move (by rfl) rfl rfl ?_
           simp only [Act.put, pu]
           refine qw_move (by rfl) rfl rfl ?_
           simp only [Act.put, pu]
           refine qw_value (by rfl) (.pointer (some ⟨gz, oz + i * 1, none⟩)) ((exec_index_s 31 _ _ rfl (gz) (oz) (zs.length) (cz) rfl (i) rfl (hlt) _ Try.underlying31 1 Try.sizeOf3)) ?_
           simp only [Act.put, pu]
           refine qw_loadcR (by rfl) 3 _ rfl _ (oz + i * 1) rfl rB (.int .i64 z) hbx Try.isAgg3 ?_
           simp only [Act.put, pu]
           refine qw_value (by rfl) (.bool true) (exec_geq_i _ _ _ _ rfl (z) (0) rfl rfl true (decide_eq_true (by omega))) ?_
           simp only [Act.put, pu]
           refine qw_move (by rfl) rfl rfl ?_
           simp only [Act.put, pu]
           refine qw_move (by rfl) rfl rfl ?_
           simp only [Act.put, pu]
           refine qw_move (by rfl) rfl rfl ?_
           simp only [Act.put, pu]
           refine qw_value (by rfl) (.pointer (some ⟨gz, oz + i * 1, none⟩)) ((exec_index_s 31 _ _ rfl (gz) (oz) (zs.length) (cz) rfl (i) rfl (hlt) _ Try.underlying31 1 Try.sizeOf3)) ?_
           simp only [Act.put, pu]
           refine qw_loadcR (by rfl) 3 _ rfl _ (oz + i * 1) rfl rB (.int .i64 z) hbx Try.isAgg3 ?_
           simp only [Act.put, pu]
           refine qw_loadm (by rfl) 33 _ rfl _ (0) rfl r11 ((sxC n m (.slice ak l.length ck) (ev))) (part_all _) _ Try.underlying33 rfl (by rw [sxC_size]; exact size_rf) ?_
           simp only [Act.put, pu]
           refine qw_move (by rfl) rfl rfl ?_
           simp only [Act.put, pu]
           refine qw_value (by rfl) (.int .i64 (((i + 1 : Nat) : Int))) (x_addz _ _ _ _ rfl ((i : Nat)) (1) (((i + 1 : Nat) : Int)) rfl rfl (by omega) (by omega) (by omega)) ?_
           simp only [Act.put, pu]
           refine qw_callK (by rfl) 17 _ _ rfl Try.func17 (by kernel_rfl) #[.agg (sxC n m (.slice ak l.length ck) (ev)), .int .i64 ((i + 1 : Nat) : Int)] rfl _ (fun w' hb => rquo_any n m _ _ ((i + 1 : Nat) : Int) w' a1 a2 (by omega) a4) ?_
           simp only [Act.put, pu]
           refine qw_value (by rfl) (.bool true) (exec_leq_i _ _ _ _ rfl z (quo n m ((i + 1 : Nat) : Int)) rfl rfl true (decide_eq_true (by omega))) ?_
           simp only [Act.put, pu]
           refine qw_pick true (v := .bool true) (by rfl) rfl rfl rfl ?_
           simp only [Act.put, pu]
           refine qw_asg (by rfl) rfl rfl ?_
           simp only [Act.put, pu]
           refine qw_nil ?_
           intro w9 hqb
           replace r11 := r11.belowAll hqb
           replace hO := hO.on (Kept.ofBelow hqb) (own_ne0 _)
           replace sA := below_on sA (Nat.le_refl _) hqb
           clear hqb
           go_wp2
           go_meet
           case rel => exact ⟨congrArg Value.bool (decide_eq_true (p := 0 ≤ z ∧ z ≤ quo n m ((i + 1 : Nat) : Int)) (by omega)).symm, r11, hO, sA⟩
          ·skip
           (repeat ((fail_if_success with_reducible refine rg ?_); go_step))
           refine wp_region_qw (by kernel_rfl) (by kernel_rfl) ?_
           refine qw_move (by rfl) rfl rfl ?_
           simp only [Act.put, pu]
           refine qw_move (by rfl) rfl rfl ?_
           simp only [Act.put, pu]
           refine qw_value (by rfl) (.pointer (some ⟨gz, oz + i * 1, none⟩)) ((exec_index_s 31 _ _ rfl (gz) (oz) (zs.length) (cz) rfl (i) rfl (hlt) _ Try.underlying31 1 Try.sizeOf3)) ?_
           simp only [Act.put, pu]
           refine qw_loadcR (by rfl) 3 _ rfl _ (oz + i * 1) rfl rB (.int .i64 z) hbx Try.isAgg3 ?_
           simp only [Act.put, pu]
           refine qw_value (by rfl) (.bool true) (exec_geq_i _ _ _ _ rfl (z) (0) rfl rfl true (decide_eq_true (by omega))) ?_
           simp only [Act.put, pu]
           refine qw_move (by rfl) rfl rfl ?_
           simp only [Act.put, pu]
           refine qw_move (by rfl) rfl rfl ?_
           simp only [Act.put, pu]
           refine qw_move (by rfl) rfl rfl ?_
           simp only [Act.put, pu]
           refine qw_value (by rfl) (.pointer (some ⟨gz, oz + i * 1, none⟩)) ((exec_index_s 31 _ _ rfl (gz) (oz) (zs.length) (cz) rfl (i) rfl (hlt) _ Try.underlying31 1 Try.sizeOf3)) ?_
           simp only [Act.put, pu]
           refine qw_loadcR (by rfl) 3 _ rfl _ (oz + i * 1) rfl rB (.int .i64 z) hbx Try.isAgg3 ?_
           simp only [Act.put, pu]
           refine qw_loadm (by rfl) 33 _ rfl _ (0) rfl r11 ((sxC n m (.slice ak l.length ck) (ev))) (part_all _) _ Try.underlying33 rfl (by rw [sxC_size]; exact size_rf) ?_
           simp only [Act.put, pu]
           refine qw_move (by rfl) rfl rfl ?_
           simp only [Act.put, pu]
           refine qw_value (by rfl) (.int .i64 (((i + 1 : Nat) : Int))) (x_addz _ _ _ _ rfl ((i : Nat)) (1) (((i + 1 : Nat) : Int)) rfl rfl (by omega) (by omega) (by omega)) ?_
           simp only [Act.put, pu]
           refine qw_callK (by rfl) 17 _ _ rfl Try.func17 (by kernel_rfl) #[.agg (sxC n m (.slice ak l.length ck) (ev)), .int .i64 ((i + 1 : Nat) : Int)] rfl _ (fun w' hb => rquo_any n m _ _ ((i + 1 : Nat) : Int) w' a1 a2 (by omega) a4) ?_
           simp only [Act.put, pu]
           refine qw_value (by rfl) (.bool false) (exec_leq_i _ _ _ _ rfl z (quo n m ((i + 1 : Nat) : Int)) rfl rfl false (decide_eq_false (by omega))) ?_
           simp only [Act.put, pu]
           refine qw_pick true (v := .bool false) (by rfl) rfl rfl rfl ?_
           simp only [Act.put, pu]
           refine qw_asg (by rfl) rfl rfl ?_
           simp only [Act.put, pu]
           refine qw_nil ?_
           intro w9 hqb
           replace r11 := r11.belowAll hqb
           replace hO := hO.on (Kept.ofBelow hqb) (own_ne0 _)
           replace sA := below_on sA (Nat.le_refl _) hqb
           clear hqb
           go_wp2
           go_meet
           case rel => exact ⟨congrArg Value.bool (decide_eq_false (p := 0 ≤ z ∧ z ≤ quo n m ((i + 1 : Nat) : Int)) (by omega)).symm, r11, hO, sA⟩
         ·skip
          (repeat ((fail_if_success with_reducible refine rg ?_); go_step))
          refine wp_region_qw (by kernel_rfl) (by kernel_rfl) ?_
          refine qw_move (by rfl) rfl rfl ?_
          simp only [Act.put, pu]
          refine qw_move (by rfl) rfl rfl ?_
          simp only [Act.put, pu]
          refine qw_value (by rfl) (.pointer (some ⟨gz, oz + i * 1, none⟩)) ((exec_index_s 31 _ _ rfl (gz) (oz) (zs.length) (cz) rfl (i) rfl (hlt) _ Try.underlying31 1 Try.sizeOf3)) ?_
          simp only [Act.put, pu]
          refine qw_loadcR (by rfl) 3 _ rfl _ (oz + i * 1) rfl rB (.int .i64 z) hbx Try.isAgg3 ?_
          simp only [Act.put, pu]
          refine qw_value (by rfl) (.bool false) (exec_geq_i _ _ _ _ rfl (z) (0) rfl rfl false (decide_eq_false (by omega))) ?_
          simp only [Act.put, pu]
          refine qw_move (by rfl) rfl rfl ?_
          simp only [Act.put, pu]
          refine qw_skip (by rfl) ?_
          simp only [Act.put, pu]
          refine qw_skip (by rfl) ?_
          simp only [Act.put, pu]
          refine qw_skip (by rfl) ?_
          simp only [Act.put, pu]
          refine qw_skip (by rfl) ?_
          simp only [Act.put, pu]
          refine qw_skip (by rfl) ?_
          simp only [Act.put, pu]
          refine qw_skip (by rfl) ?_
          simp only [Act.put, pu]
          refine qw_skip (by rfl) ?_
          simp only [Act.put, pu]
          refine qw_skip (by rfl) ?_
          simp only [Act.put, pu]
          refine qw_skip (by rfl) ?_
          simp only [Act.put, pu]
          refine qw_pick false (v := .bool false) (by rfl) rfl rfl rfl ?_
          simp only [Act.put, pu]
          refine qw_asg (by rfl) rfl rfl ?_
          simp only [Act.put, pu]
          refine qw_nil ?_
          intro w9 hqb
          replace r11 := r11.belowAll hqb
          replace hO := hO.on (Kept.ofBelow hqb) (own_ne0 _)
          replace sA := below_on sA (Nat.le_refl _) hqb
          clear hqb
          go_wp2
          go_meet
          case rel => exact ⟨congrArg Value.bool (decide_eq_false (p := 0 ≤ z ∧ z ≤ quo n m ((i + 1 : Nat) : Int)) (by omega)).symm, r11, hO, sA⟩
        case rest => as_aux_lemma =>
         clear r11 hO sA rB hbx
         obtain ⟨f2, hf2⟩ : ∃ f2, decide (0 ≤ z ∧ z ≤ quo n m ((i + 1 : Nat) : Int)) = f2 := ⟨_, rfl⟩
         rw [hf2] at hcut
         obtain ⟨rfl, r11, hO, sA⟩ := hcut
         have HF2 : Hid (f2 = (B1 && useB n m zs (i + 1))) := by
          show f2 = _
          rw [useB, HX.out, ← Bool.and_assoc, ← HF.out, Bool.true_and, hf2]
         clear hf2
         obtain ⟨u, hu⟩ : ∃ u, z.toNat = u := ⟨_, rfl⟩
         have HU : Hid (endsF zs (i + 1) = endsF zs i ++ List.replicate u ((i + 1 : Nat) : Int)) := by
          show endsF zs (i + 1) = _
          rw [endsF, HX.out, hu]
         (repeat ((fail_if_success with_reducible refine rg ?_); go_step))
         refine wp_region_pw ?_
         refine pw_value (by rfl) (.int .i64 0) (fun _ => rfl) ?_
         simp only [Act.put, pu]
         refine pw_nil ?_
         go_wp2_with fail
         go_loopg [13] u (fun x s13 wr => ∃ (k : Nat) (E : List Int) (ev : Value), k + x = u ∧ s13 = .int .i64 k ∧ E = (endsF zs i ++ List.replicate k ((i + 1 : Nat) : Int)).take (l.length + 1) ∧ Row wr g11 (sxC n m (.slice ak l.length ck) (ev)) 33 ∧ OwnE 1 3 wr z8006.heap.size ev E.length (inC E) ∧ ev.ownBlock ≠ some g11 ∧ Below z8006.heap.size z8006 wr)
         case atStart => exact ⟨0, E, ev, by omega, rfl, by rw [List.replicate_zero, List.append_nil]; exact HEE.out, r11, hO, ehOx11, sA⟩
         case round =>
          clear sA r11 hO ehOx11 HEE hEl HE HF E ev
          obtain ⟨k, E, ev, hk, rfl, hE, r11, hO, ehOx11, sA⟩ := hrel
          have HEK : Hid (E = (endsF zs i ++ List.replicate k ((i + 1 : Nat) : Int)).take (l.length + 1)) := hE
          have hEl : E.length ≤ l.length + 1 := by rw [hE, List.length_take]; omega
          clear hE
          obtain h0 | ⟨_, rB, _⟩ := (HZ8.out.below sA).at'
          ·exact absurd h0 (by omega)
          have hbx := HBX.out
          cases gk with
          | zero =>
           have hku : k = u := by omega
           have hpf : f2 = true → E = (endsF zs (i + 1)).take (l.length + 1) := fun _ => by rw [HU.out, ← hku]; exact HEK.out
           have HPF : Hid (f2 = true → E = (endsF zs (i + 1)).take (l.length + 1)) := hpf
           clear hpf
           (repeat ((fail_if_success with_reducible refine rg ?_); go_step))
           refine wp_region_pw ?_
           refine pw_mv (by rfl) rfl rfl ?_
           simp only [Act.put, pu]
           refine pw_mv (by rfl) rfl rfl ?_
           simp only [Act.put, pu]
           refine pw_mv (by rfl) rfl rfl ?_
           simp only [Act.put, pu]
           refine pw_value (by rfl) (.pointer (some ⟨gz, oz + i * 1, none⟩)) ((exec_index_s 31 _ _ rfl (gz) (oz) (zs.length) (cz) rfl (i) rfl (hlt) _ Try.underlying31 1 Try.sizeOf3)) ?_
           simp only [Act.put, pu]
           refine pw_loadk (by rfl) 3 _ rfl _ (oz + i * 1) rfl rB (.int .i64 z) hbx Try.isAgg3 ?_
           simp only [Act.put, pu]
           refine pw_value (by rfl) (.bool false) (exec_lt_b _ _ _ _ rfl ((k : Nat)) (z) rfl rfl false (decide_eq_false (by omega))) ?_
           simp only [Act.put, pu]
           refine pw_mv (by rfl) rfl rfl ?_
           simp only [Act.put, pu]
           refine pw_skip (by rfl) ?_
           simp only [Act.put, pu]
           refine pw_pick (by rfl) false (v := .bool false) rfl rfl rfl ?_
           simp only [Act.put, pu]
           refine pw_mv (by rfl) rfl rfl ?_
           simp only [Act.put, pu]
           refine pw_skip (by rfl) ?_
           simp only [Act.put, pu]
           refine pw_skip (by rfl) ?_
           simp only [Act.put, pu]
           refine pw_skip (by rfl) ?_
           simp only [Act.put, pu]
           refine pw_skip (by rfl) ?_
           simp only [Act.put, pu]
           refine pw_skip (by rfl) ?_
           simp only [Act.put, pu]
           refine pw_skip (by rfl) ?_
           simp only [Act.put, pu]
           refine pw_pick (by rfl) false (v := .bool false) rfl rfl rfl ?_
           simp only [Act.put, pu]
           refine pw_nil ?_
           clear rB
           (repeat ((fail_if_success with_reducible refine rg ?_); go_step))
           refine wp_region_pw ?_
           refine pw_mv (by rfl) rfl rfl ?_
           simp only [Act.put, pu]
           refine pw_value (by rfl) (.int .i64 (((i + 1 : Nat) : Int))) (x_addz _ _ _ _ rfl ((i : Nat)) (1) (((i + 1 : Nat) : Int)) rfl rfl (by omega) (by omega) (by omega)) ?_
           simp only [Act.put, pu]
           refine pw_as (by rfl) rfl rfl ?_
           simp only [Act.put, pu]
           refine pw_nil ?_
           go_wp2
           go_roundg y
           case measure => omega
           case rel => exact ⟨i + 1, f2, E, _, .inl (by omega), rfl, rfl, HF2.out, HPF.out, hEl, r11, hO, ehOx11, sA⟩
          | succ y3 =>
           have hkz : (k : Int) < z := by omega
           cases f2 with
           | false =>
            (repeat ((fail_if_success with_reducible refine rg ?_); go_step))
            refine wp_region_pw ?_
            refine pw_mv (by rfl) rfl rfl ?_
            simp only [Act.put, pu]
            refine pw_mv (by rfl) rfl rfl ?_
            simp only [Act.put, pu]
            refine pw_mv (by rfl) rfl rfl ?_
            simp only [Act.put, pu]
            refine pw_value (by rfl) (.pointer (some ⟨gz, oz + i * 1, none⟩)) ((exec_index_s 31 _ _ rfl (gz) (oz) (zs.length) (cz) rfl (i) rfl (hlt) _ Try.underlying31 1 Try.sizeOf3)) ?_
            simp only [Act.put, pu]
            refine pw_loadk (by rfl) 3 _ rfl _ (oz + i * 1) rfl rB (.int .i64 z) hbx Try.isAgg3 ?_
            simp only [Act.put, pu]
            refine pw_value (by rfl) (.bool true) (exec_lt_b _ _ _ _ rfl ((k : Nat)) (z) rfl rfl true (decide_eq_true (by omega))) ?_
            simp only [Act.put, pu]
            refine pw_mv (by rfl) rfl rfl ?_
            simp only [Act.put, pu]
            refine pw_mv (by rfl) rfl rfl ?_
            simp only [Act.put, pu]
            refine pw_pick (by rfl) true (v := .bool false) rfl rfl rfl ?_
            simp only [Act.put, pu]
            refine pw_mv (by rfl) rfl rfl ?_
            simp only [Act.put, pu]
            refine pw_skip (by rfl) ?_
            simp only [Act.put, pu]
            refine pw_skip (by rfl) ?_
            simp only [Act.put, pu]
            refine pw_skip (by rfl) ?_
            simp only [Act.put, pu]
            refine pw_skip (by rfl) ?_
            simp only [Act.put, pu]
            refine pw_skip (by rfl) ?_
            simp only [Act.put, pu]
            refine pw_skip (by rfl) ?_
            simp only [Act.put, pu]
            refine pw_pick (by rfl) false (v := .bool false) rfl rfl rfl ?_
            simp only [Act.put, pu]
            refine pw_nil ?_
            clear rB
            (repeat ((fail_if_success with_reducible refine rg ?_); go_step))
            refine wp_region_pw ?_
            refine pw_mv (by rfl) rfl rfl ?_
            simp only [Act.put, pu]
            refine pw_value (by rfl) (.int .i64 (((i + 1 : Nat) : Int))) (x_addz _ _ _ _ rfl ((i : Nat)) (1) (((i + 1 : Nat) : Int)) rfl rfl (by omega) (by omega) (by omega)) ?_
            simp only [Act.put, pu]
            refine pw_as (by rfl) rfl rfl ?_
            simp only [Act.put, pu]
            refine pw_nil ?_
            go_wp2
            go_roundg y
            case measure => omega
            case rel => exact ⟨i + 1, false, E, _, .inl (by omega), rfl, rfl, HF2.out, (fun h => by cases h), hEl, r11, hO, ehOx11, sA⟩
           | true =>
            obtain ⟨ae, ce, rfl⟩ := own_shape hO
            by_cases hle : E.length ≤ l.length
            ·have hkl : k ≤ l.length := by
              have h8 := congrArg List.length HEK.out
              rw [List.length_take, List.length_append, List.length_replicate] at h8
              omega
             have HMO : Hid (E ++ [((i + 1 : Nat) : Int)] = (endsF zs i ++ List.replicate (k + 1) ((i + 1 : Nat) : Int)).take (l.length + 1)) := by
              have h9 := HEK.out
              rw [h9] at hle
              show E ++ _ = _
              rw [h9]
              exact ends_more hle
             obtain ⟨E2, hE2⟩ : ∃ E2, E ++ [((i + 1 : Nat) : Int)] = E2 := ⟨_, rfl⟩
             have hcg : ∀ t, t < E.length → inC E t = inC E2 t := fun t ht => by rw [← hE2]; exact inC_app E _ t ht
             have hce : inC E2 E.length = #[.int .i64 ((i + 1 : Nat) : Int)] := by rw [← hE2]; exact inC_end E _
             have hl2 : E2.length = E.length + 1 := by rw [← hE2]; simp
             rw [hE2] at HMO
             clear hE2
             (repeat ((fail_if_success with_reducible refine rg ?_); go_step))
             refine wp_region_pw ?_
             refine pw_mv (by rfl) rfl rfl ?_
             simp only [Act.put, pu]
             refine pw_mv (by rfl) rfl rfl ?_
             simp only [Act.put, pu]
             refine pw_mv (by rfl) rfl rfl ?_
             simp only [Act.put, pu]
             refine pw_value (by rfl) (.pointer (some ⟨gz, oz + i * 1, none⟩)) ((exec_index_s 31 _ _ rfl (gz) (oz) (zs.length) (cz) rfl (i) rfl (hlt) _ Try.underlying31 1 Try.sizeOf3)) ?_
             simp only [Act.put, pu]
             refine pw_loadk (by rfl) 3 _ rfl _ (oz + i * 1) rfl rB (.int .i64 z) hbx Try.isAgg3 ?_
             simp only [Act.put, pu]
             refine pw_value (by rfl) (.bool true) (exec_lt_b _ _ _ _ rfl ((k : Nat)) (z) rfl rfl true (decide_eq_true (by omega))) ?_
             simp only [Act.put, pu]
             refine pw_mv (by rfl) rfl rfl ?_
             simp only [Act.put, pu]
             refine pw_mv (by rfl) rfl rfl ?_
             simp only [Act.put, pu]
             refine pw_pick (by rfl) true (v := .bool true) rfl rfl rfl ?_
             simp only [Act.put, pu]
             refine pw_mv (by rfl) rfl rfl ?_
             simp only [Act.put, pu]
             refine pw_value (by rfl) (.pointer (some ⟨g11, 3, none⟩)) (exec_field 33 _ 3 rfl g11 0 rfl _ Try.underlying33 _ rfl 0 Try.sizeOf31) ?_
             simp only [Act.put, pu]
             refine pw_loadk (by rfl) 31 _ rfl _ (3) rfl r11.r (.slice ae E.length ce) rfl Try.isAgg31 ?_
             simp only [Act.put, pu]
             refine pw_value (by rfl) (.int .i64 (E.length : Nat)) (exec_len_s 31 _ rfl (ae) (E.length) (ce) rfl sl_ints) ?_
             simp only [Act.put, pu]
             refine pw_mv (by rfl) rfl rfl ?_
             simp only [Act.put, pu]
             refine pw_value (by rfl) (.int .i64 (l.length : Nat)) (exec_len_s 30 _ rfl (ak) (l.length) (ck) rfl sl_strs) ?_
             simp only [Act.put, pu]
             refine pw_value (by rfl) (.bool true) (exec_leq_i _ _ _ _ rfl ((E.length : Nat)) ((l.length : Nat)) rfl rfl true (decide_eq_true (by omega))) ?_
             simp only [Act.put, pu]
             refine pw_pick (by rfl) true (v := .bool true) rfl rfl rfl ?_
             simp only [Act.put, pu]
             refine pw_nil ?_
             clear rB
             (repeat ((fail_if_success with_reducible refine rg ?_); go_step))
             refine wp_region_pw ?_
             refine pw_value (by rfl) (.pointer (some ⟨g11, 3, none⟩)) (exec_field 33 _ 3 rfl g11 0 rfl _ Try.underlying33 _ rfl 0 Try.sizeOf31) ?_
             simp only [Act.put, pu]
             refine pw_loadk (by rfl) 31 _ rfl _ (3) rfl r11.r (.slice ae E.length ce) rfl Try.isAgg31 ?_
             simp only [Act.put, pu]
             refine pw_mv (by rfl) rfl rfl ?_
             simp only [Act.put, pu]
             refine pw_value (by rfl) (.int .i64 (((i + 1 : Nat) : Int))) (x_addz _ _ _ _ rfl ((i : Nat)) (1) (((i + 1 : Nat) : Int)) rfl rfl (by omega) (by omega) (by omega)) ?_
             simp only [Act.put, pu]
             refine pw_litr (by rfl) 31 3 1 _ rfl #[.int .i64 ((i + 1 : Nat) : Int)] ii _ Try.underlying31 hii hiz q3 q4 [(0, .int .i64 ((i + 1 : Nat) : Int))] rfl (ql2 _) ?_
             intro gM z19004 n0 rM k
             simp only [Act.put, pu]
             have d11xM := Nat.lt_of_lt_of_le r11.lt n0
             have ehOxM := hO.new n0
             have bM := Nat.le_trans sA.size n0
             clear n0
             replace r11 := k.row r11 (by simp <;> omega)
             replace hO := hO.on k (own_ne0 _)
             replace sA := sA.trans (k.below z8006.heap.size sA.size (by simp <;> omega))
             clear k
             replace hO := ownE_congr hO hcg
             refine pw_appE (by rfl) _ _ (31) rfl (z8006.heap.size) 3 ii _ 1 8 Try.underlying31 hii hiz his hib rfl (by decide) (by decide) (.slice ae E.length ce) (E.length) (inC E2) (inC_size E2) rfl hO gM _ rfl (by rw [hce]; exact rM) (by rw [hce]; simp [Value.oneCell']) (by omega) sA.size ?_
             intro v3 zC hO3 k9 hp
             simp only [Act.put, pu]
             have c11 := r11.lt
             have n11 := own_apart hp c11 ehOx11
             replace r11 := k9.row r11 (own_nin ehOx11)
             have nk := hO.base
             replace sA := sA.trans (k9.below z8006.heap.size sA.size nk)
             clear k9 hO nk hp rM
             obtain ⟨a3, c3, rfl⟩ := own_shape hO3
             refine pw_value (by rfl) (.pointer (some ⟨g11, 3, none⟩)) (exec_field 33 _ 3 rfl g11 0 rfl _ Try.underlying33 _ rfl 0 Try.sizeOf31) ?_
             simp only [Act.put, pu]
             refine pw_putv (by rfl) 31 _ _ rfl _ (3) rfl r11 (.slice a3 (E.length + 1) c3) rfl rfl rfl size_ints (by rw [sxC_size]; decide) (sxC n m (.slice ak l.length ck) (.slice a3 (E.length + 1) c3)) rfl ?_
             clear r11
             intro zD r11 k9
             simp only [Act.put]
             replace hO3 := hO3.on k9 (own_ne1 n11)
             replace sA := sA.trans (k9.below z8006.heap.size sA.size (by simp; omega))
             clear k9
             refine pw_nil ?_
             rw [← hl2] at hO3 r11 n11
             (repeat ((fail_if_success with_reducible refine rg ?_); go_step))
             refine wp_region_pw ?_
             refine pw_mv (by rfl) rfl rfl ?_
             simp only [Act.put, pu]
             refine pw_value (by rfl) (.int .i64 (((k + 1 : Nat) : Int))) (x_addz _ _ _ _ rfl ((k : Nat)) (1) (((k + 1 : Nat) : Int)) rfl rfl (by omega) (by omega) (by omega)) ?_
             simp only [Act.put, pu]
             refine pw_as (by rfl) rfl rfl ?_
             simp only [Act.put, pu]
             refine pw_nil ?_
             go_wp2
             go_roundg y3
             case measure => omega
             case rel => exact ⟨k + 1, E2, _, by omega, rfl, HMO.out, r11, hO3, n11, sA⟩
            ·have HPF : Hid (E = (endsF zs (i + 1)).take (l.length + 1)) := by
              show E = _
              rw [HU.out, HEK.out]
              exact ends_full (by omega) (by rw [← HEK.out]; omega)
             (repeat ((fail_if_success with_reducible refine rg ?_); go_step))
             refine wp_region_pw ?_
             refine pw_mv (by rfl) rfl rfl ?_
             simp only [Act.put, pu]
             refine pw_mv (by rfl) rfl rfl ?_
             simp only [Act.put, pu]
             refine pw_mv (by rfl) rfl rfl ?_
             simp only [Act.put, pu]
             refine pw_value (by rfl) (.pointer (some ⟨gz, oz + i * 1, none⟩)) ((exec_index_s 31 _ _ rfl (gz) (oz) (zs.length) (cz) rfl (i) rfl (hlt) _ Try.underlying31 1 Try.sizeOf3)) ?_
             simp only [Act.put, pu]
             refine pw_loadk (by rfl) 3 _ rfl _ (oz + i * 1) rfl rB (.int .i64 z) hbx Try.isAgg3 ?_
             simp only [Act.put, pu]
             refine pw_value (by rfl) (.bool true) (exec_lt_b _ _ _ _ rfl ((k : Nat)) (z) rfl rfl true (decide_eq_true (by omega))) ?_
             simp only [Act.put, pu]
             refine pw_mv (by rfl) rfl rfl ?_
             simp only [Act.put, pu]
             refine pw_mv (by rfl) rfl rfl ?_
             simp only [Act.put, pu]
             refine pw_pick (by rfl) true (v := .bool true) rfl rfl rfl ?_
             simp only [Act.put, pu]
             refine pw_mv (by rfl) rfl rfl ?_
             simp only [Act.put, pu]
             refine pw_value (by rfl) (.pointer (some ⟨g11, 3, none⟩)) (exec_field 33 _ 3 rfl g11 0 rfl _ Try.underlying33 _ rfl 0 Try.sizeOf31) ?_
             simp only [Act.put, pu]
             refine pw_loadk (by rfl) 31 _ rfl _ (3) rfl r11.r (.slice ae E.length ce) rfl Try.isAgg31 ?_
             simp only [Act.put, pu]
             refine pw_value (by rfl) (.int .i64 (E.length : Nat)) (exec_len_s 31 _ rfl (ae) (E.length) (ce) rfl sl_ints) ?_
             simp only [Act.put, pu]
             refine pw_mv (by rfl) rfl rfl ?_
             simp only [Act.put, pu]
             refine pw_value (by rfl) (.int .i64 (l.length : Nat)) (exec_len_s 30 _ rfl (ak) (l.length) (ck) rfl sl_strs) ?_
             simp only [Act.put, pu]
             refine pw_value (by rfl) (.bool false) (exec_leq_i _ _ _ _ rfl ((E.length : Nat)) ((l.length : Nat)) rfl rfl false (decide_eq_false (by omega))) ?_
             simp only [Act.put, pu]
             refine pw_pick (by rfl) true (v := .bool false) rfl rfl rfl ?_
             simp only [Act.put, pu]
             refine pw_nil ?_
             clear rB
             (repeat ((fail_if_success with_reducible refine rg ?_); go_step))
             refine wp_region_pw ?_
             refine pw_mv (by rfl) rfl rfl ?_
             simp only [Act.put, pu]
             refine pw_value (by rfl) (.int .i64 (((i + 1 : Nat) : Int))) (x_addz _ _ _ _ rfl ((i : Nat)) (1) (((i + 1 : Nat) : Int)) rfl rfl (by omega) (by omega) (by omega)) ?_
             simp only [Act.put, pu]
             refine pw_as (by rfl) rfl rfl ?_
             simp only [Act.put, pu]
             refine pw_nil ?_
             go_wp2
             go_roundg y
             case measure => omega
             case rel => exact ⟨i + 1, true, E, .slice ae E.length ce, .inl (by omega), rfl, rfl, HF2.out, fun _ => HPF.out, hEl, r11, hO, ehOx11, sA⟩
       | false =>
        have HFE : Hid (f = (B1 && useB n m zs zs.length)) := by
         show f = _
         by_cases h9 : i < zs.length
         ·have hff : f = false := by rw [decide_eq_true h9, Bool.true_and] at hgo; exact hgo
          rw [hff]
          have h8 := HF.out
          rw [hff] at h8
          cases hb1 : B1 with
          | false => rfl
          | true =>
           rw [hb1, Bool.true_and] at h8
           cases h7 : useB n m zs zs.length with
           | false => rfl
           | true =>
            have h6 := useB_at h7
            exfalso
            have h5 : useB n m zs i = true := useB_all fun t ht => h6 t (by omega)
            rw [h5] at h8
            cases h8
         ·have hie : i = zs.length := by omega
          rw [← hie]
          exact HF.out
        have HEE : Hid (f = true → E = (endsF zs zs.length).take (l.length + 1)) := fun h9 => by
         have h8 := HE.out h9
         have hie : i = zs.length := by
          rw [h9, Bool.and_true] at hgo
          have := of_decide_eq_false hgo
          omega
         rw [← hie]
         exact h8
        clear hx hgo HF HE
        obtain ⟨ae, ce, rfl⟩ := own_shape hO
        (repeat ((fail_if_success with_reducible refine rg ?_); go_step))
        refine wp_region_pw ?_
        refine pw_value (by rfl) (.int .i64 0) (fun _ => rfl) ?_
        simp only [Act.put, pu]
        refine pw_nil ?_
        go_wp2_with fail
        go_loopg [10, 14] l.length (fun x s10 s14 wr => ∃ j : Nat, j + x = l.length ∧ s14 = .int .i64 j ∧ s10 = .bool (f && keyB l j) ∧ Row wr g11 (sxC n m (.slice ak l.length ck) (.slice ae E.length ce)) 33 ∧ OwnE 1 3 wr z8006.heap.size (.slice ae E.length ce) E.length (inC E) ∧ Below z8006.heap.size z8006 wr)
        case atStart => exact ⟨0, by omega, rfl, congrArg Value.bool (Bool.and_true _).symm, r11, hO, sA⟩
        case round =>
         clear sA r11 hO
         obtain ⟨j, hj, rfl, rfl, r11, hO, sA⟩ := hrel
         cases gk with
         | succ y =>
          have hlt : j < l.length := by omega
          have h1 : (j : Int) < (l.length : Int) := by omega
          obtain h0 | ⟨rfl, rB, hbt⟩ := (HK8.out.below sA).at'
          ·exact absurd h0 (by omega)
          obtain ⟨p2, hp2⟩ : ∃ x, l.getD j [] = x := ⟨_, rfl⟩
          have hb2 : kcs[oq + j * 1]? = some (.string ⟨p2.toArray⟩) := by rw [← hp2]; exact hbt j hlt 0 _ rfl
          have hj1 : j - 1 < l.length := by omega
          obtain ⟨p1, hp1⟩ : ∃ x, l.getD (j - 1) [] = x := ⟨_, rfl⟩
          have hb1 : kcs[oq + (j - 1) * 1]? = some (.string ⟨p1.toArray⟩) := by rw [← hp1]; exact hbt (j - 1) hj1 0 _ rfl
          have HKS : Hid (keyB l (j + 1) = (keyB l j && (kyB p2 && (decide (j = 0) || lb p1 p2)))) := by
           show keyB l (j + 1) = _
           rw [keyB, hp1, hp2]
          clear hbt hp1
          obtain ⟨fj, hfj⟩ : ∃ fj, (f && keyB l j) = fj := ⟨_, rfl⟩
          rw [hfj]
          have HFJ : Hid ((f && keyB l (j + 1)) = (fj && (kyB p2 && (decide (j = 0) || lb p1 p2)))) := by
           show (f && keyB l (j + 1)) = _
           rw [HKS.out, ← Bool.and_assoc, hfj]
          clear hfj HKS hp2
          cases fj with
          | false =>
           (repeat ((fail_if_success with_reducible refine rg ?_); go_step))
           refine wp_region_pw ?_
           refine pw_mv (by rfl) rfl rfl ?_
           simp only [Act.put, pu]
           refine pw_mv (by rfl) rfl rfl ?_
           simp only [Act.put, pu]
           refine pw_value (by rfl) (.int .i64 (l.length : Nat)) (exec_len_s 30 _ rfl (some ⟨gq, oq, none⟩) (l.length) (ck) rfl sl_strs) ?_
           simp only [Act.put, pu]
           refine pw_value (by rfl) (.bool true) (exec_lt_b _ _ _ _ rfl ((j : Nat)) ((l.length : Nat)) rfl rfl true (decide_eq_true h1)) ?_
           simp only [Act.put, pu]
           refine pw_nil ?_
           (repeat ((fail_if_success with_reducible refine rg ?_); go_step))
           refine wp_region_qw (by kernel_rfl) (by kernel_rfl) ?_
           refine qw_move (by rfl) rfl rfl ?_
           simp only [Act.put, pu]
           refine qw_move (by rfl) rfl rfl ?_
           simp only [Act.put, pu]
           refine qw_skip (by rfl) ?_
           simp only [Act.put, pu]
           refine qw_skip (by rfl) ?_
           simp only [Act.put, pu]
           refine qw_skip (by rfl) ?_
           simp only [Act.put, pu]
           refine qw_skip (by rfl) ?_
           simp only [Act.put, pu]
           refine qw_skip (by rfl) ?_
           simp only [Act.put, pu]
           refine qw_skip (by rfl) ?_
           simp only [Act.put, pu]
           refine qw_pick false (v := .bool false) (by rfl) rfl rfl rfl ?_
           simp only [Act.put, pu]
           refine qw_move (by rfl) rfl rfl ?_
           simp only [Act.put, pu]
           refine qw_skip (by rfl) ?_
           simp only [Act.put, pu]
           refine qw_skip (by rfl) ?_
           simp only [Act.put, pu]
           refine qw_skip (by rfl) ?_
           simp only [Act.put, pu]
           refine qw_skip (by rfl) ?_
           simp only [Act.put, pu]
           refine qw_skip (by rfl) ?_
           simp only [Act.put, pu]
           refine qw_skip (by rfl) ?_
           simp only [Act.put, pu]
           refine qw_pick false (v := .bool false) (by rfl) rfl rfl rfl ?_
           simp only [Act.put, pu]
           refine qw_move (by rfl) rfl rfl ?_
           simp only [Act.put, pu]
           refine qw_skip (by rfl) ?_
           simp only [Act.put, pu]
           refine qw_skip (by rfl) ?_
           simp only [Act.put, pu]
           refine qw_skip (by rfl) ?_
           simp only [Act.put, pu]
           refine qw_skip (by rfl) ?_
           simp only [Act.put, pu]
           refine qw_skip (by rfl) ?_
           simp only [Act.put, pu]
           refine qw_skip (by rfl) ?_
           simp only [Act.put, pu]
           refine qw_skip (by rfl) ?_
           simp only [Act.put, pu]
           refine qw_skip (by rfl) ?_
           simp only [Act.put, pu]
           refine qw_skip (by rfl) ?_
           simp only [Act.put, pu]
           refine qw_skip (by rfl) ?_
           simp only [Act.put, pu]
           refine qw_skip (by rfl) ?_
           simp only [Act.put, pu]
           refine qw_skip (by rfl) ?_
           simp only [Act.put, pu]
           refine qw_skip (by rfl) ?_
           simp only [Act.put, pu]
           refine qw_skip (by rfl) ?_
           simp only [Act.put, pu]
           refine qw_pick false (v := .bool false) (by rfl) rfl rfl rfl ?_
           simp only [Act.put, pu]
           refine qw_asg (by rfl) rfl rfl ?_
           simp only [Act.put, pu]
           refine qw_nil ?_
           intro w9 hqb
           replace r11 := r11.belowAll hqb
           replace hO := hO.on (Kept.ofBelow hqb) (own_ne0 _)
           replace sA := below_on sA (Nat.le_refl _) hqb
           clear hqb
           clear rB
           (repeat ((fail_if_success with_reducible refine rg ?_); go_step))
           refine wp_region_pw ?_
           refine pw_mv (by rfl) rfl rfl ?_
           simp only [Act.put, pu]
           refine pw_value (by rfl) (.int .i64 (((j + 1 : Nat) : Int))) (x_addz _ _ _ _ rfl ((j : Nat)) (1) (((j + 1 : Nat) : Int)) rfl rfl (by omega) (by omega) (by omega)) ?_
           simp only [Act.put, pu]
           refine pw_as (by rfl) rfl rfl ?_
           simp only [Act.put, pu]
           refine pw_nil ?_
           go_wp2
           go_roundg y
           case measure => omega
           case rel => exact ⟨j + 1, by omega, rfl, congrArg Value.bool (HFJ.out.trans (rfl)).symm, r11, hO, sA⟩
          | true =>
           by_cases c1 : 1 ≤ p2.length
           ·by_cases c2 : p2.length ≤ 8
            ·have HKY : Hid (kyB p2 = true) := decide_eq_true ⟨c1, c2⟩
             by_cases c3 : j = 0
             ·have HD : Hid (decide (j = 0) = true) := decide_eq_true c3
              (repeat ((fail_if_success with_reducible refine rg ?_); go_step))
              refine wp_region_pw ?_
              refine pw_mv (by rfl) rfl rfl ?_
              simp only [Act.put, pu]
              refine pw_mv (by rfl) rfl rfl ?_
              simp only [Act.put, pu]
              refine pw_value (by rfl) (.int .i64 (l.length : Nat)) (exec_len_s 30 _ rfl (some ⟨gq, oq, none⟩) (l.length) (ck) rfl sl_strs) ?_
              simp only [Act.put, pu]
              refine pw_value (by rfl) (.bool true) (exec_lt_b _ _ _ _ rfl ((j : Nat)) ((l.length : Nat)) rfl rfl true (decide_eq_true h1)) ?_
              simp only [Act.put, pu]
              refine pw_nil ?_
              (repeat ((fail_if_success with_reducible refine rg ?_); go_step))
              refine wp_region_qw (by kernel_rfl) (by kernel_rfl) ?_
              refine qw_move (by rfl) rfl rfl ?_
              simp only [Act.put, pu]
              refine qw_move (by rfl) rfl rfl ?_
              simp only [Act.put, pu]
              refine qw_move (by rfl) rfl rfl ?_
              simp only [Act.put, pu]
              refine qw_move (by rfl) rfl rfl ?_
              simp only [Act.put, pu]
              refine qw_value (by rfl) (.pointer (some ⟨gq, oq + j * 1, none⟩)) ((exec_index_s 30 _ _ rfl (gq) (oq) (l.length) (ck) rfl (j) rfl (hlt) _ Try.underlying30 1 Try.sizeOf9)) ?_
              simp only [Act.put, pu]
              refine qw_loadcR (by rfl) 9 _ rfl _ (oq + j * 1) rfl rB (.string ⟨p2.toArray⟩) hb2 Try.isAgg9 ?_
              simp only [Act.put, pu]
              refine qw_value (by rfl) (.int .i64 (p2.length : Nat)) (y_lenS _ _ rfl p2 rfl Try.underlying9) ?_
              simp only [Act.put, pu]
              refine qw_value (by rfl) (.bool true) (exec_geq_i _ _ _ _ rfl ((p2.length : Nat)) (1) rfl rfl true (decide_eq_true (by omega))) ?_
              simp only [Act.put, pu]
              refine qw_pick true (v := .bool true) (by rfl) rfl rfl rfl ?_
              simp only [Act.put, pu]
              refine qw_move (by rfl) rfl rfl ?_
              simp only [Act.put, pu]
              refine qw_move (by rfl) rfl rfl ?_
              simp only [Act.put, pu]
              refine qw_move (by rfl) rfl rfl ?_
              simp only [Act.put, pu]
              refine qw_value (by rfl) (.pointer (some ⟨gq, oq + j * 1, none⟩)) ((exec_index_s 30 _ _ rfl (gq) (oq) (l.length) (ck) rfl (j) rfl (hlt) _ Try.underlying30 1 Try.sizeOf9)) ?_
              simp only [Act.put, pu]
              refine qw_loadcR (by rfl) 9 _ rfl _ (oq + j * 1) rfl rB (.string ⟨p2.toArray⟩) hb2 Try.isAgg9 ?_
              simp only [Act.put, pu]
              refine qw_value (by rfl) (.int .i64 (p2.length : Nat)) (y_lenS _ _ rfl p2 rfl Try.underlying9) ?_
              simp only [Act.put, pu]
              refine qw_value (by rfl) (.bool true) (exec_leq_i _ _ _ _ rfl ((p2.length : Nat)) (8) rfl rfl true (decide_eq_true (by omega))) ?_
              simp only [Act.put, pu]
              refine qw_pick true (v := .bool true) (by rfl) rfl rfl rfl ?_
              simp only [Act.put, pu]
              refine qw_move (by rfl) rfl rfl ?_
              simp only [Act.put, pu]
              refine qw_move (by rfl) rfl rfl ?_
              simp only [Act.put, pu]
              refine qw_value (by rfl) (.bool true) (exec_eql_k .i64 _ _ _ _ rfl ((j : Nat)) (0) rfl rfl true (decide_eq_true (by omega))) ?_
              simp only [Act.put, pu]
              refine qw_move (by rfl) rfl rfl ?_
              simp only [Act.put, pu]
              refine qw_skip (by rfl) ?_
              simp only [Act.put, pu]
              refine qw_skip (by rfl) ?_
              simp only [Act.put, pu]
              refine qw_skip (by rfl) ?_
              simp only [Act.put, pu]
              refine qw_skip (by rfl) ?_
              simp only [Act.put, pu]
              refine qw_skip (by rfl) ?_
              simp only [Act.put, pu]
              refine qw_skip (by rfl) ?_
              simp only [Act.put, pu]
              refine qw_skip (by rfl) ?_
              simp only [Act.put, pu]
              refine qw_skip (by rfl) ?_
              simp only [Act.put, pu]
              refine qw_skip (by rfl) ?_
              simp only [Act.put, pu]
              refine qw_skip (by rfl) ?_
              simp only [Act.put, pu]
              refine qw_pick true (v := .bool true) (by rfl) rfl rfl rfl ?_
              simp only [Act.put, pu]
              refine qw_pick true (v := .bool true) (by rfl) rfl rfl rfl ?_
              simp only [Act.put, pu]
              refine qw_asg (by rfl) rfl rfl ?_
              simp only [Act.put, pu]
              refine qw_nil ?_
              intro w9 hqb
              replace r11 := r11.belowAll hqb
              replace hO := hO.on (Kept.ofBelow hqb) (own_ne0 _)
              replace sA := below_on sA (Nat.le_refl _) hqb
              clear hqb
              clear rB
              (repeat ((fail_if_success with_reducible refine rg ?_); go_step))
              refine wp_region_pw ?_
              refine pw_mv (by rfl) rfl rfl ?_
              simp only [Act.put, pu]
              refine pw_value (by rfl) (.int .i64 (((j + 1 : Nat) : Int))) (x_addz _ _ _ _ rfl ((j : Nat)) (1) (((j + 1 : Nat) : Int)) rfl rfl (by omega) (by omega) (by omega)) ?_
              simp only [Act.put, pu]
              refine pw_as (by rfl) rfl rfl ?_
              simp only [Act.put, pu]
              refine pw_nil ?_
              go_wp2
              go_roundg y
              case measure => omega
              case rel => exact ⟨j + 1, by omega, rfl, congrArg Value.bool (HFJ.out.trans (by rw [HKY.out, HD.out]; first | done | rfl)).symm, r11, hO, sA⟩
             ·have HD : Hid (decide (j = 0) = false) := decide_eq_false c3
              (repeat ((fail_if_success with_reducible refine rg ?_); go_step))
              refine wp_region_pw ?_
              refine pw_mv (by rfl) rfl rfl ?_
              simp only [Act.put, pu]
              refine pw_mv (by rfl) rfl rfl ?_
              simp only [Act.put, pu]
              refine pw_value (by rfl) (.int .i64 (l.length : Nat)) (exec_len_s 30 _ rfl (some ⟨gq, oq, none⟩) (l.length) (ck) rfl sl_strs) ?_
              simp only [Act.put, pu]
              refine pw_value (by rfl) (.bool true) (exec_lt_b _ _ _ _ rfl ((j : Nat)) ((l.length : Nat)) rfl rfl true (decide_eq_true h1)) ?_
              simp only [Act.put, pu]
              refine pw_nil ?_
              (repeat ((fail_if_success with_reducible refine rg ?_); go_step))
              refine wp_region_qw (by kernel_rfl) (by kernel_rfl) ?_
              refine qw_move (by rfl) rfl rfl ?_
              simp only [Act.put, pu]
              refine qw_move (by rfl) rfl rfl ?_
              simp only [Act.put, pu]
              refine qw_move (by rfl) rfl rfl ?_
              simp only [Act.put, pu]
              refine qw_move (by rfl) rfl rfl ?_
              simp only [Act.put, pu]
              refine qw_value (by rfl) (.pointer (some ⟨gq, oq + j * 1, none⟩)) ((exec_index_s 30 _ _ rfl (gq) (oq) (l.length) (ck) rfl (j) rfl (hlt) _ Try.underlying30 1 Try.sizeOf9)) ?_
              simp only [Act.put, pu]
              refine qw_loadcR (by rfl) 9 _ rfl _ (oq + j * 1) rfl rB (.string ⟨p2.toArray⟩) hb2 Try.isAgg9 ?_
              simp only [Act.put, pu]
              refine qw_value (by rfl) (.int .i64 (p2.length : Nat)) (y_lenS _ _ rfl p2 rfl Try.underlying9) ?_
              simp only [Act.put, pu]
              refine qw_value (by rfl) (.bool true) (exec_geq_i _ _ _ _ rfl ((p2.length : Nat)) (1) rfl rfl true (decide_eq_true (by omega))) ?_
              simp only [Act.put, pu]
              refine qw_pick true (v := .bool true) (by rfl) rfl rfl rfl ?_
              simp only [Act.put, pu]
              refine qw_move (by rfl) rfl rfl ?_
              simp only [Act.put, pu]
              refine qw_move (by rfl) rfl rfl ?_
              simp only [Act.put, pu]
              refine qw_move (by rfl) rfl rfl ?_
              simp only [Act.put, pu]
              refine qw_value (by rfl) (.pointer (some ⟨gq, oq + j * 1, none⟩)) ((exec_index_s 30 _ _ rfl (gq) (oq) (l.length) (ck) rfl (j) rfl (hlt) _ Try.underlying30 1 Try.sizeOf9)) ?_
              simp only [Act.put, pu]
              refine qw_loadcR (by rfl) 9 _ rfl _ (oq + j * 1) rfl rB (.string ⟨p2.toArray⟩) hb2 Try.isAgg9 ?_
              simp only [Act.put, pu]
              refine qw_value (by rfl) (.int .i64 (p2.length : Nat)) (y_lenS _ _ rfl p2 rfl Try.underlying9) ?_
              simp only [Act.put, pu]
              refine qw_value (by rfl) (.bool true) (exec_leq_i _ _ _ _ rfl ((p2.length : Nat)) (8) rfl rfl true (decide_eq_true (by omega))) ?_
              simp only [Act.put, pu]
              refine qw_pick true (v := .bool true) (by rfl) rfl rfl rfl ?_
              simp only [Act.put, pu]
              refine qw_move (by rfl) rfl rfl ?_
              simp only [Act.put, pu]
              refine qw_move (by rfl) rfl rfl ?_
              simp only [Act.put, pu]
              refine qw_value (by rfl) (.bool false) (exec_eql_k .i64 _ _ _ _ rfl ((j : Nat)) (0) rfl rfl false (decide_eq_false (by omega))) ?_
              simp only [Act.put, pu]
              refine qw_move (by rfl) rfl rfl ?_
              simp only [Act.put, pu]
              refine qw_move (by rfl) rfl rfl ?_
              simp only [Act.put, pu]
              refine qw_move (by rfl) rfl rfl ?_
              simp only [Act.put, pu]
              refine qw_value (by rfl) (.int .i64 ((j - 1 : Nat) : Int)) (x_subz _ _ _ _ rfl (j : Nat) 1 ((j - 1 : Nat) : Int) rfl rfl (by omega) (by omega) (by omega)) ?_
              simp only [Act.put, pu]
              refine qw_value (by rfl) (.pointer (some ⟨gq, oq + (j - 1) * 1, none⟩)) ((exec_index_s 30 _ _ rfl (gq) (oq) (l.length) (ck) rfl ((j - 1)) rfl (hj1) _ Try.underlying30 1 Try.sizeOf9)) ?_
              simp only [Act.put, pu]
              refine qw_loadcR (by rfl) 9 _ rfl _ (oq + (j - 1) * 1) rfl rB (.string ⟨p1.toArray⟩) hb1 Try.isAgg9 ?_
              simp only [Act.put, pu]
              refine qw_move (by rfl) rfl rfl ?_
              simp only [Act.put, pu]
              refine qw_move (by rfl) rfl rfl ?_
              simp only [Act.put, pu]
              refine qw_value (by rfl) (.pointer (some ⟨gq, oq + j * 1, none⟩)) ((exec_index_s 30 _ _ rfl (gq) (oq) (l.length) (ck) rfl (j) rfl (hlt) _ Try.underlying30 1 Try.sizeOf9)) ?_
              simp only [Act.put, pu]
              refine qw_loadcR (by rfl) 9 _ rfl _ (oq + j * 1) rfl rB (.string ⟨p2.toArray⟩) hb2 Try.isAgg9 ?_
              simp only [Act.put, pu]
              refine qw_value (by rfl) (.bool (lb p1 p2)) (y_lss _ _ _ _ rfl p1 p2 rfl rfl _ rfl) ?_
              simp only [Act.put, pu]
              refine qw_pick false (v := .bool (lb p1 p2)) (by rfl) rfl rfl rfl ?_
              simp only [Act.put, pu]
              refine qw_pick true (v := .bool (lb p1 p2)) (by rfl) rfl rfl rfl ?_
              simp only [Act.put, pu]
              refine qw_asg (by rfl) rfl rfl ?_
              simp only [Act.put, pu]
              refine qw_nil ?_
              intro w9 hqb
              replace r11 := r11.belowAll hqb
              replace hO := hO.on (Kept.ofBelow hqb) (own_ne0 _)
              replace sA := below_on sA (Nat.le_refl _) hqb
              clear hqb
              clear rB
              (repeat ((fail_if_success with_reducible refine rg ?_); go_step))
              refine wp_region_pw ?_
              refine pw_mv (by rfl) rfl rfl ?_
              simp only [Act.put, pu]
              refine pw_value (by rfl) (.int .i64 (((j + 1 : Nat) : Int))) (x_addz _ _ _ _ rfl ((j : Nat)) (1) (((j + 1 : Nat) : Int)) rfl rfl (by omega) (by omega) (by omega)) ?_
              simp only [Act.put, pu]
              refine pw_as (by rfl) rfl rfl ?_
              simp only [Act.put, pu]
              refine pw_nil ?_
              go_wp2
              go_roundg y
              case measure => omega
              case rel => exact ⟨j + 1, by omega, rfl, congrArg Value.bool (HFJ.out.trans (by rw [HKY.out, HD.out]; first | done | rfl)).symm, r11, hO, sA⟩
            ·have HKY : Hid (kyB p2 = false) := decide_eq_false (by omega)
             (repeat ((fail_if_success with_reducible refine rg ?_); go_step))
             refine wp_region_pw ?_
             refine pw_mv (by rfl) rfl rfl ?_
             simp only [Act.put, pu]
             refine pw_mv (by rfl) rfl rfl ?_
             simp only [Act.put, pu]
             refine pw_value (by rfl) (.int .i64 (l.length : Nat)) (exec_len_s 30 _ rfl (some ⟨gq, oq, none⟩) (l.length) (ck) rfl sl_strs) ?_
             simp only [Act.put, pu]
             refine pw_value (by rfl) (.bool true) (exec_lt_b _ _ _ _ rfl ((j : Nat)) ((l.length : Nat)) rfl rfl true (decide_eq_true h1)) ?_
             simp only [Act.put, pu]
             refine pw_nil ?_
             (repeat ((fail_if_success with_reducible refine rg ?_); go_step))
             refine wp_region_qw (by kernel_rfl) (by kernel_rfl) ?_
             refine qw_move (by rfl) rfl rfl ?_
             simp only [Act.put, pu]
             refine qw_move (by rfl) rfl rfl ?_
             simp only [Act.put, pu]
             refine qw_move (by rfl) rfl rfl ?_
             simp only [Act.put, pu]
             refine qw_move (by rfl) rfl rfl ?_
             simp only [Act.put, pu]
             refine qw_value (by rfl) (.pointer (some ⟨gq, oq + j * 1, none⟩)) ((exec_index_s 30 _ _ rfl (gq) (oq) (l.length) (ck) rfl (j) rfl (hlt) _ Try.underlying30 1 Try.sizeOf9)) ?_
             simp only [Act.put, pu]
             refine qw_loadcR (by rfl) 9 _ rfl _ (oq + j * 1) rfl rB (.string ⟨p2.toArray⟩) hb2 Try.isAgg9 ?_
             simp only [Act.put, pu]
             refine qw_value (by rfl) (.int .i64 (p2.length : Nat)) (y_lenS _ _ rfl p2 rfl Try.underlying9) ?_
             simp only [Act.put, pu]
             refine qw_value (by rfl) (.bool true) (exec_geq_i _ _ _ _ rfl ((p2.length : Nat)) (1) rfl rfl true (decide_eq_true (by omega))) ?_
             simp only [Act.put, pu]
             refine qw_pick true (v := .bool true) (by rfl) rfl rfl rfl ?_
             simp only [Act.put, pu]
             refine qw_move (by rfl) rfl rfl ?_
             simp only [Act.put, pu]
             refine qw_move (by rfl) rfl rfl ?_
             simp only [Act.put, pu]
             refine qw_move (by rfl) rfl rfl ?_
             simp only [Act.put, pu]
             refine qw_value (by rfl) (.pointer (some ⟨gq, oq + j * 1, none⟩)) ((exec_index_s 30 _ _ rfl (gq) (oq) (l.length) (ck) rfl (j) rfl (hlt) _ Try.underlying30 1 Try.sizeOf9)) ?_
             simp only [Act.put, pu]
             refine qw_loadcR (by rfl) 9 _ rfl _ (oq + j * 1) rfl rB (.string ⟨p2.toArray⟩) hb2 Try.isAgg9 ?_
             simp only [Act.put, pu]
             refine qw_value (by rfl) (.int .i64 (p2.length : Nat)) (y_lenS _ _ rfl p2 rfl Try.underlying9) ?_
             simp only [Act.put, pu]
             refine qw_value (by rfl) (.bool false) (exec_leq_i _ _ _ _ rfl ((p2.length : Nat)) (8) rfl rfl false (decide_eq_false (by omega))) ?_
             simp only [Act.put, pu]
             refine qw_pick true (v := .bool false) (by rfl) rfl rfl rfl ?_
             simp only [Act.put, pu]
             refine qw_move (by rfl) rfl rfl ?_
             simp only [Act.put, pu]
             refine qw_skip (by rfl) ?_
             simp only [Act.put, pu]
             refine qw_skip (by rfl) ?_
             simp only [Act.put, pu]
             refine qw_skip (by rfl) ?_
             simp only [Act.put, pu]
             refine qw_skip (by rfl) ?_
             simp only [Act.put, pu]
             refine qw_skip (by rfl) ?_
             simp only [Act.put, pu]
             refine qw_skip (by rfl) ?_
             simp only [Act.put, pu]
             refine qw_skip (by rfl) ?_
             simp only [Act.put, pu]
             refine qw_skip (by rfl) ?_
             simp only [Act.put, pu]
             refine qw_skip (by rfl) ?_
             simp only [Act.put, pu]
             refine qw_skip (by rfl) ?_
             simp only [Act.put, pu]
             refine qw_skip (by rfl) ?_
             simp only [Act.put, pu]
             refine qw_skip (by rfl) ?_
             simp only [Act.put, pu]
             refine qw_skip (by rfl) ?_
             simp only [Act.put, pu]
             refine qw_skip (by rfl) ?_
             simp only [Act.put, pu]
             refine qw_pick false (v := .bool false) (by rfl) rfl rfl rfl ?_
             simp only [Act.put, pu]
             refine qw_asg (by rfl) rfl rfl ?_
             simp only [Act.put, pu]
             refine qw_nil ?_
             intro w9 hqb
             replace r11 := r11.belowAll hqb
             replace hO := hO.on (Kept.ofBelow hqb) (own_ne0 _)
             replace sA := below_on sA (Nat.le_refl _) hqb
             clear hqb
             clear rB
             (repeat ((fail_if_success with_reducible refine rg ?_); go_step))
             refine wp_region_pw ?_
             refine pw_mv (by rfl) rfl rfl ?_
             simp only [Act.put, pu]
             refine pw_value (by rfl) (.int .i64 (((j + 1 : Nat) : Int))) (x_addz _ _ _ _ rfl ((j : Nat)) (1) (((j + 1 : Nat) : Int)) rfl rfl (by omega) (by omega) (by omega)) ?_
             simp only [Act.put, pu]
             refine pw_as (by rfl) rfl rfl ?_
             simp only [Act.put, pu]
             refine pw_nil ?_
             go_wp2
             go_roundg y
             case measure => omega
             case rel => exact ⟨j + 1, by omega, rfl, congrArg Value.bool (HFJ.out.trans (by rw [HKY.out]; first | done | rfl)).symm, r11, hO, sA⟩
           ·have HKY : Hid (kyB p2 = false) := decide_eq_false (by omega)
            (repeat ((fail_if_success with_reducible refine rg ?_); go_step))
            refine wp_region_pw ?_
            refine pw_mv (by rfl) rfl rfl ?_
            simp only [Act.put, pu]
            refine pw_mv (by rfl) rfl rfl ?_
            simp only [Act.put, pu]
            refine pw_value (by rfl) (.int .i64 (l.length : Nat)) (exec_len_s 30 _ rfl (some ⟨gq, oq, none⟩) (l.length) (ck) rfl sl_strs) ?_
            simp only [Act.put, pu]
            refine pw_value (by rfl) (.bool true) (exec_lt_b _ _ _ _ rfl ((j : Nat)) ((l.length : Nat)) rfl rfl true (decide_eq_true h1)) ?_
            simp only [Act.put, pu]
            refine pw_nil ?_
            (repeat ((fail_if_success with_reducible refine rg ?_); go_step))
            refine wp_region_qw (by kernel_rfl) (by kernel_rfl) ?_
            refine qw_move (by rfl) rfl rfl ?_
            simp only [Act.put, pu]
            refine qw_move (by rfl) rfl rfl ?_
            simp only [Act.put, pu]
            refine qw_move (by rfl) rfl rfl ?_
            simp only [Act.put, pu]
            refine qw_move (by rfl) rfl rfl ?_
            simp only [Act.put, pu]
            refine qw_value (by rfl) (.pointer (some ⟨gq, oq + j * 1, none⟩)) ((exec_index_s 30 _ _ rfl (gq) (oq) (l.length) (ck) rfl (j) rfl (hlt) _ Try.underlying30 1 Try.sizeOf9)) ?_
            simp only [Act.put, pu]
            refine qw_loadcR (by rfl) 9 _ rfl _ (oq + j * 1) rfl rB (.string ⟨p2.toArray⟩) hb2 Try.isAgg9 ?_
            simp only [Act.put, pu]
            refine qw_value (by rfl) (.int .i64 (p2.length : Nat)) (y_lenS _ _ rfl p2 rfl Try.underlying9) ?_
            simp only [Act.put, pu]
            refine qw_value (by rfl) (.bool false) (exec_geq_i _ _ _ _ rfl ((p2.length : Nat)) (1) rfl rfl false (decide_eq_false (by omega))) ?_
            simp only [Act.put, pu]
            refine qw_pick true (v := .bool false) (by rfl) rfl rfl rfl ?_
            simp only [Act.put, pu]
            refine qw_move (by rfl) rfl rfl ?_
            simp only [Act.put, pu]
            refine qw_skip (by rfl) ?_
            simp only [Act.put, pu]
            refine qw_skip (by rfl) ?_
            simp only [Act.put, pu]
            refine qw_skip (by rfl) ?_
            simp only [Act.put, pu]
            refine qw_skip (by rfl) ?_
            simp only [Act.put, pu]
            refine qw_skip (by rfl) ?_
            simp only [Act.put, pu]
            refine qw_skip (by rfl) ?_
            simp only [Act.put, pu]
            refine qw_pick false (v := .bool false) (by rfl) rfl rfl rfl ?_
            simp only [Act.put, pu]
            refine qw_move (by rfl) rfl rfl ?_
            simp only [Act.put, pu]
            refine qw_skip (by rfl) ?_
            simp only [Act.put, pu]
            refine qw_skip (by rfl) ?_
            simp only [Act.put, pu]
            refine qw_skip (by rfl) ?_
            simp only [Act.put, pu]
            refine qw_skip (by rfl) ?_
            simp only [Act.put, pu]
            refine qw_skip (by rfl) ?_
            simp only [Act.put, pu]
            refine qw_skip (by rfl) ?_
            simp only [Act.put, pu]
            refine qw_skip (by rfl) ?_
            simp only [Act.put, pu]
            refine qw_skip (by rfl) ?_
            simp only [Act.put, pu]
            refine qw_skip (by rfl) ?_
            simp only [Act.put, pu]
            refine qw_skip (by rfl) ?_
            simp only [Act.put, pu]
            refine qw_skip (by rfl) ?_
            simp only [Act.put, pu]
            refine qw_skip (by rfl) ?_
            simp only [Act.put, pu]
            refine qw_skip (by rfl) ?_
            simp only [Act.put, pu]
            refine qw_skip (by rfl) ?_
            simp only [Act.put, pu]
            refine qw_pick false (v := .bool false) (by rfl) rfl rfl rfl ?_
            simp only [Act.put, pu]
            refine qw_asg (by rfl) rfl rfl ?_
            simp only [Act.put, pu]
            refine qw_nil ?_
            intro w9 hqb
            replace r11 := r11.belowAll hqb
            replace hO := hO.on (Kept.ofBelow hqb) (own_ne0 _)
            replace sA := below_on sA (Nat.le_refl _) hqb
            clear hqb
            clear rB
            (repeat ((fail_if_success with_reducible refine rg ?_); go_step))
            refine wp_region_pw ?_
            refine pw_mv (by rfl) rfl rfl ?_
            simp only [Act.put, pu]
            refine pw_value (by rfl) (.int .i64 (((j + 1 : Nat) : Int))) (x_addz _ _ _ _ rfl ((j : Nat)) (1) (((j + 1 : Nat) : Int)) rfl rfl (by omega) (by omega) (by omega)) ?_
            simp only [Act.put, pu]
            refine pw_as (by rfl) rfl rfl ?_
            simp only [Act.put, pu]
            refine pw_nil ?_
            go_wp2
            go_roundg y
            case measure => omega
            case rel => exact ⟨j + 1, by omega, rfl, congrArg Value.bool (HFJ.out.trans (by rw [HKY.out]; first | done | rfl)).symm, r11, hO, sA⟩
         | zero =>
          have h1 : ¬ (j : Int) < (l.length : Int) := by omega
          obtain rfl : j = l.length := by omega
          obtain ⟨f4, hf4⟩ : ∃ f4, (f && keyB l l.length) = f4 := ⟨_, rfl⟩
          rw [hf4]
          have HMB : Hid ((f4 && decide (E.length = l.length)) = mayOf n m zs l) := by
           show _ = mayOf n m zs l
           have h9 := mayOf_is (n := n) (m := m) (zs := zs) (l := l) (E := E) (fun h9 => HEE.out (by rw [HFE.out, ← HB1.out, ← HB0.out]; exact h9))
           rw [← h9, HB0.out, HB1.out, ← HFE.out, hf4]
          have HFT9 : Hid (mayOf n m zs l = true → f = true) := fun h9 => by
           rw [← HMB.out, Bool.and_eq_true, ← hf4, Bool.and_eq_true] at h9
           exact h9.1.1
          clear hj hf4 HFE
          (repeat ((fail_if_success with_reducible refine rg ?_); go_step))
          refine wp_region_pw ?_
          refine pw_mv (by rfl) rfl rfl ?_
          simp only [Act.put, pu]
          refine pw_mv (by rfl) rfl rfl ?_
          simp only [Act.put, pu]
          refine pw_value (by rfl) (.int .i64 (l.length : Nat)) (exec_len_s 30 _ rfl (ak) (l.length) (ck) rfl sl_strs) ?_
          simp only [Act.put, pu]
          refine pw_value (by rfl) (.bool false) (exec_lt_b _ _ _ _ rfl ((l.length : Nat)) ((l.length : Nat)) rfl rfl false (decide_eq_false h1)) ?_
          simp only [Act.put, pu]
          refine pw_nil ?_
          go_upto_region 24 with fail
          go_cut [10] from 23 (fun s10 wx => s10 = .bool (mayOf n m zs l) ∧ Row wx g11 (sxC n m (.slice ak l.length ck) (.slice ae E.length ce)) 33 ∧ OwnE 1 3 wx z8006.heap.size (.slice ae E.length ce) E.length (inC E) ∧ Below z8006.heap.size z8006 wx)
          case first => as_aux_lemma =>
           cases f4 with
           | false =>
            (repeat ((fail_if_success with_reducible refine rg ?_); go_step))
            refine wp_region_pw ?_
            refine pw_mv (by rfl) rfl rfl ?_
            simp only [Act.put, pu]
            refine pw_mv (by rfl) rfl rfl ?_
            simp only [Act.put, pu]
            refine pw_skip (by rfl) ?_
            simp only [Act.put, pu]
            refine pw_skip (by rfl) ?_
            simp only [Act.put, pu]
            refine pw_skip (by rfl) ?_
            simp only [Act.put, pu]
            refine pw_skip (by rfl) ?_
            simp only [Act.put, pu]
            refine pw_skip (by rfl) ?_
            simp only [Act.put, pu]
            refine pw_skip (by rfl) ?_
            simp only [Act.put, pu]
            refine pw_pick (by rfl) false (v := .bool false) rfl rfl rfl ?_
            simp only [Act.put, pu]
            refine pw_as (by rfl) rfl rfl ?_
            simp only [Act.put, pu]
            refine pw_nil ?_
            go_wp2
            go_meet
            case rel => exact ⟨congrArg Value.bool HMB.out, r11, hO, sA⟩
           | true =>
            have hEK : decide ((E.length : Int) = (l.length : Int)) = decide (E.length = l.length) := decide_eq_decide.2 (by omega)
            (repeat ((fail_if_success with_reducible refine rg ?_); go_step))
            refine wp_region_pw ?_
            refine pw_mv (by rfl) rfl rfl ?_
            simp only [Act.put, pu]
            refine pw_mv (by rfl) rfl rfl ?_
            simp only [Act.put, pu]
            refine pw_value (by rfl) (.pointer (some ⟨g11, 3, none⟩)) (exec_field 33 _ 3 rfl g11 0 rfl _ Try.underlying33 _ rfl 0 Try.sizeOf31) ?_
            simp only [Act.put, pu]
            refine pw_loadk (by rfl) 31 _ rfl _ (3) rfl r11.r (.slice ae E.length ce) rfl Try.isAgg31 ?_
            simp only [Act.put, pu]
            refine pw_value (by rfl) (.int .i64 (E.length : Nat)) (exec_len_s 31 _ rfl (ae) (E.length) (ce) rfl sl_ints) ?_
            simp only [Act.put, pu]
            refine pw_mv (by rfl) rfl rfl ?_
            simp only [Act.put, pu]
            refine pw_value (by rfl) (.int .i64 (l.length : Nat)) (exec_len_s 30 _ rfl (ak) (l.length) (ck) rfl sl_strs) ?_
            simp only [Act.put, pu]
            refine pw_value (by rfl) (.bool (decide (E.length = l.length))) (exec_eql_k .i64 _ _ _ _ rfl (E.length : Nat) (l.length : Nat) rfl rfl _ hEK) ?_
            simp only [Act.put, pu]
            refine pw_pick (by rfl) true (v := .bool (decide (E.length = l.length))) rfl rfl rfl ?_
            simp only [Act.put, pu]
            refine pw_as (by rfl) rfl rfl ?_
            simp only [Act.put, pu]
            refine pw_nil ?_
            go_wp2
            go_meet
            case rel => exact ⟨congrArg Value.bool ((Bool.true_and _).symm.trans HMB.out), r11, hO, sA⟩
          case rest => as_aux_lemma =>
           clear r11 hO sA HMB h1
           obtain ⟨rfl, r11, hO, sA⟩ := hcut
           have hr9 := HR.out
           unfold OfR at hr9
           rcases hr9 with ⟨hmb, rfl, rfl⟩ | ⟨hmb, rfl, g8, B, rfl, hA⟩
           ·rw [hmb]
            clear hmb HR
            (repeat ((fail_if_success with_reducible refine rg ?_); go_step))
            refine wp_region_pw ?_
            refine pw_mv (by rfl) rfl rfl ?_
            simp only [Act.put, pu]
            refine pw_value (by rfl) (.bool true) (exec_not _ _ rfl false rfl) ?_
            simp only [Act.put, pu]
            refine pw_nil ?_
            (repeat ((fail_if_success with_reducible refine rg ?_); go_step))
            refine wp_region_pw ?_
            refine pw_mv (by rfl) rfl rfl ?_
            simp only [Act.put, pu]
            refine pw_value (by rfl) (.bool true) (exec_eql_nilp _ _ _ _ rfl (none) rfl rfl ptr_sp) ?_
            simp only [Act.put, pu]
            refine pw_mv (by rfl) rfl rfl ?_
            simp only [Act.put, pu]
            refine pw_mv (by rfl) rfl rfl ?_
            simp only [Act.put, pu]
            refine pw_value (by rfl) (.bool true) (exec_eql_k .i64 _ _ _ _ rfl (1) (1) rfl rfl true (decide_eq_true rfl)) ?_
            simp only [Act.put, pu]
            refine pw_pick (by rfl) true (v := .bool true) rfl rfl rfl ?_
            simp only [Act.put, pu]
            refine pw_mv (by rfl) rfl rfl ?_
            simp only [Act.put, pu]
            refine pw_callB (by rfl) 8 _ _ rfl Try.func8 (by kernel_rfl) #[] rfl _ (awake_any _) ?_
            intro z26007 k
            simp only [Act.put, pu]
            replace sA := sA.trans (k.below z8006.heap.size sA.size (by simp <;> omega))
            clear k
            refine pw_pick (by rfl) true (v := .bool true) rfl rfl rfl ?_
            simp only [Act.put, pu]
            refine pw_as (by rfl) rfl rfl ?_
            simp only [Act.put, pu]
            refine pw_nil ?_
            go_wp2
            go_ret
            exact ⟨rfl, below_on HSB.out (Nat.le_refl _) sA⟩
           ·rw [HM.out] at hmb
            cases hmb
end Go.Proofs.Ytchiiphmpkmloaa
