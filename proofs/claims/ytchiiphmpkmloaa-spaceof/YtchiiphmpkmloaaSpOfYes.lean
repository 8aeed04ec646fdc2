/- The law of Of: where there is one such space. -/
import Derived.Test.YtchiiphmpkmloaaSpEnds
import Derived.Deep.Light
import Derived.Deep.CutRange
namespace Go.Proofs.Ytchiiphmpkmloaa
open Go.RowKit
set_option linter.unusedVariables false
set_option linter.unusedSectionVars false
set_option linter.unusedSimpArgs false
set_option maxRecDepth 100000 in
set_option maxHeartbeats 40000000 in
theorem spaceOf_yes (n m : Int) (ak : Option Addr) (ck : Nat) (l : List Ky) (gq oq : Nat) (kcs : Array Value) (tk : TypeId) (az : Option Addr) (cz : Nat) (zs : List Int) (gz oz : Nat) (zcs : Array Value) (tz : TypeId) (w : World) (hn2 : n ≤ 9223372036854775807) (hm1 : l.length ≤ maxLen) (hc1 : ak = none → ck = 0) (hk : ElsAt 1 w ak l.length (stC l) gq oq kcs tk) (hm2 : zs.length ≤ maxLen) (hc2 : az = none → cz = 0) (hz : ElsAt 1 w az zs.length (inC zs) gz oz zcs tz) (hmode : mayOf n m zs l = true) :
  Calls Try.prog 5 #[.agg #[.int .i64 n, .int .i64 m], .slice ak l.length ck, .slice az zs.length cz] w fun e w' => e = .returned (.bool true) ∧ Below w.heap.size w w' := by
 have HK0 : Hid (ElsAt 1 w ak l.length (stC l) gq oq kcs tk) := hk
 have HZ0 : Hid (ElsAt 1 w az zs.length (inC zs) gz oz zcs tz) := hz
 have HM : Hid (mayOf n m zs l = true) := hmode
 have HY : Hid ((1 ≤ n ∧ n ≤ 7 ∧ 1 ≤ m ∧ m ≤ 4) ∧ (zs.length : Int) = n + m ∧ useB n m zs zs.length = true ∧ keyB l l.length = true ∧ (endsF zs zs.length).length = l.length) := mayOf_ends hmode
 clear hmode
 clear hn2 hm1 hm2 hk hz hc1 hc2
 go_enter Try.func5, Try.ntmps5
 have sb := sbmk w
 (repeat ((fail_if_success with_reducible refine rg ?_); go_step))
 refine wp_region_pw ?_
 refine pw_boxr (by rfl) 22 _ rfl (#[.int .i64 n, .int .i64 m]) rfl ?_
 intro g3 z0 n0 r3 k
 simp only [Act.put, pu]
 have b3 := Nat.le_trans sb.size n0
 clear n0
 replace sb := sb.trans (k.below w.heap.size sb.size (by simp <;> omega))
 clear k
 refine pw_value (by rfl) (.bool false) (fun _ => rfl) ?_
 simp only [Act.put, pu]
 refine pw_nil ?_
 have sd := sbmk z0
 have HK : Hid (ElsAt 1 z0 ak l.length (stC l) gq oq kcs tk) := HK0.out.below sb
 have HZ : Hid (ElsAt 1 z0 az zs.length (inC zs) gz oz zcs tz) := HZ0.out.below sb
 have HR3 : Hid (Row z0 g3 #[.int .i64 n, .int .i64 m] 22) := r3
 have HS0 : Hid (Below w.heap.size w z0) := sb
 clear r3 HK0 HZ0 sb
 by_cases hlk : (l.length : Int) > 20
 ·skip
  (repeat ((fail_if_success with_reducible refine rg ?_); go_step))
  refine wp_region_pw ?_
  refine pw_mv (by rfl) rfl rfl ?_
  simp only [Act.put, pu]
  refine pw_value (by rfl) (.int .i64 (l.length : Nat)) (exec_len_s 30 _ rfl (ak) (l.length) (ck) rfl sl_strs) ?_
  simp only [Act.put, pu]
  refine pw_value (by rfl) (.bool true) (exec_gt_i _ _ _ _ rfl ((l.length : Nat)) (20) rfl rfl true (decide_eq_true hlk)) ?_
  simp only [Act.put, pu]
  refine pw_mv (by rfl) rfl rfl ?_
  simp only [Act.put, pu]
  refine pw_skip (by rfl) ?_
  simp only [Act.put, pu]
  refine pw_skip (by rfl) ?_
  simp only [Act.put, pu]
  refine pw_skip (by rfl) ?_
  simp only [Act.put, pu]
  refine pw_pick (by rfl) true (v := .bool true) rfl rfl rfl ?_
  simp only [Act.put, pu]
  refine pw_nil ?_
  (repeat ((fail_if_success with_reducible refine rg ?_); go_step))
  refine wp_region_pw ?_
  refine pw_callB (by rfl) 8 _ _ rfl Try.func8 (by kernel_rfl) #[] rfl _ (awake_any _) ?_
  intro z2000 k
  simp only [Act.put, pu]
  replace sd := sd.trans (k.below z0.heap.size sd.size (by simp <;> omega))
  clear k
  refine pw_as (by rfl) rfl rfl ?_
  simp only [Act.put, pu]
  refine pw_nil ?_
  go_wp2
  go_ret
  exact ⟨rfl, below_on HS0.out (Nat.le_refl _) sd⟩
 by_cases hlz : (zs.length : Int) > 12
 ·skip
  (repeat ((fail_if_success with_reducible refine rg ?_); go_step))
  refine wp_region_pw ?_
  refine pw_mv (by rfl) rfl rfl ?_
  simp only [Act.put, pu]
  refine pw_value (by rfl) (.int .i64 (l.length : Nat)) (exec_len_s 30 _ rfl (ak) (l.length) (ck) rfl sl_strs) ?_
  simp only [Act.put, pu]
  refine pw_value (by rfl) (.bool false) (exec_gt_i _ _ _ _ rfl ((l.length : Nat)) (20) rfl rfl false (decide_eq_false hlk)) ?_
  simp only [Act.put, pu]
  refine pw_mv (by rfl) rfl rfl ?_
  simp only [Act.put, pu]
  refine pw_mv (by rfl) rfl rfl ?_
  simp only [Act.put, pu]
  refine pw_value (by rfl) (.int .i64 (zs.length : Nat)) (exec_len_s 31 _ rfl (az) (zs.length) (cz) rfl sl_ints) ?_
  simp only [Act.put, pu]
  refine pw_value (by rfl) (.bool true) (exec_gt_i _ _ _ _ rfl ((zs.length : Nat)) (12) rfl rfl true (decide_eq_true hlz)) ?_
  simp only [Act.put, pu]
  refine pw_pick (by rfl) false (v := .bool true) rfl rfl rfl ?_
  simp only [Act.put, pu]
  refine pw_nil ?_
  (repeat ((fail_if_success with_reducible refine rg ?_); go_step))
  refine wp_region_pw ?_
  refine pw_callB (by rfl) 8 _ _ rfl Try.func8 (by kernel_rfl) #[] rfl _ (awake_any _) ?_
  intro z2000 k
  simp only [Act.put, pu]
  replace sd := sd.trans (k.below z0.heap.size sd.size (by simp <;> omega))
  clear k
  refine pw_as (by rfl) rfl rfl ?_
  simp only [Act.put, pu]
  refine pw_nil ?_
  go_wp2
  go_ret
  exact ⟨rfl, below_on HS0.out (Nat.le_refl _) sd⟩
 (repeat ((fail_if_success with_reducible refine rg ?_); go_step))
 refine wp_region_pw ?_
 refine pw_mv (by rfl) rfl rfl ?_
 simp only [Act.put, pu]
 refine pw_value (by rfl) (.int .i64 (l.length : Nat)) (exec_len_s 30 _ rfl (ak) (l.length) (ck) rfl sl_strs) ?_
 simp only [Act.put, pu]
 refine pw_value (by rfl) (.bool false) (exec_gt_i _ _ _ _ rfl ((l.length : Nat)) (20) rfl rfl false (decide_eq_false hlk)) ?_
 simp only [Act.put, pu]
 refine pw_mv (by rfl) rfl rfl ?_
 simp only [Act.put, pu]
 refine pw_mv (by rfl) rfl rfl ?_
 simp only [Act.put, pu]
 refine pw_value (by rfl) (.int .i64 (zs.length : Nat)) (exec_len_s 31 _ rfl (az) (zs.length) (cz) rfl sl_ints) ?_
 simp only [Act.put, pu]
 refine pw_value (by rfl) (.bool false) (exec_gt_i _ _ _ _ rfl ((zs.length : Nat)) (12) rfl rfl false (decide_eq_false hlz)) ?_
 simp only [Act.put, pu]
 refine pw_pick (by rfl) false (v := .bool false) rfl rfl rfl ?_
 simp only [Act.put, pu]
 refine pw_nil ?_
 (repeat ((fail_if_success with_reducible refine rg ?_); go_step))
 refine wp_region_pw ?_
 refine pw_value (by rfl) (.int .i64 0) (fun _ => rfl) ?_
 simp only [Act.put, pu]
 refine pw_nil ?_
 have hl20 : l.length ≤ 20 := by omega
 have hz12 : zs.length ≤ 12 := by omega
 clear hlk hlz
 go_wp2_with fail
 go_loopg [6, 7] l.length (fun x s6 s7 wr => ∃ j : Nat, j + x = l.length ∧ s7 = .int .i64 j ∧ (∀ t, t < j → (l.getD t []).length ≤ 40) ∧ Below z0.heap.size z0 wr)
 case atStart => exact ⟨0, by omega, rfl, fun t ht => absurd ht (Nat.not_lt_zero _), sd⟩
 case round =>
  clear sd
  obtain ⟨j, hj, rfl, hall, sd⟩ := hrel
  have HA : Hid (∀ t, t < j → (l.getD t []).length ≤ 40) := hall
  clear hall
  cases gk with
  | succ y =>
   have hlt : j < l.length := by omega
   have h1 : (j : Int) < (l.length : Int) := by omega
   obtain h0 | ⟨rfl, rB, hbt⟩ := (HK.out.below sd).at'
   ·exact absurd h0 (by omega)
   obtain ⟨x, hx⟩ : ∃ x, l.getD j [] = x := ⟨_, rfl⟩
   have HX : Hid (l.getD j [] = x) := hx
   have hbx : kcs[oq + j * 1]? = some (.string ⟨x.toArray⟩) := by rw [← hx]; exact hbt j hlt 0 _ rfl
   clear hbt hx
   by_cases h40 : (x.length : Int) > 40
   ·skip
    (repeat ((fail_if_success with_reducible refine rg ?_); go_step))
    refine wp_region_pw ?_
    refine pw_mv (by rfl) rfl rfl ?_
    simp only [Act.put, pu]
    refine pw_mv (by rfl) rfl rfl ?_
    simp only [Act.put, pu]
    refine pw_value (by rfl) (.int .i64 (l.length : Nat)) (exec_len_s 30 _ rfl (some ⟨gq, oq, none⟩) (l.length) (ck) rfl sl_strs) ?_
    simp only [Act.put, pu]
    refine pw_value (by rfl) (.bool true) (exec_lt_b _ _ _ _ rfl ((j : Nat)) ((l.length : Nat)) rfl rfl true (decide_eq_true h1)) ?_
    simp only [Act.put, pu]
    refine pw_nil ?_
    (repeat ((fail_if_success with_reducible refine rg ?_); go_step))
    refine wp_region_pw ?_
    refine pw_mv (by rfl) rfl rfl ?_
    simp only [Act.put, pu]
    refine pw_mv (by rfl) rfl rfl ?_
    simp only [Act.put, pu]
    refine pw_value (by rfl) (.pointer (some ⟨gq, oq + j * 1, none⟩)) ((exec_index_s 30 _ _ rfl (gq) (oq) (l.length) (ck) rfl (j) rfl (hlt) _ Try.underlying30 1 Try.sizeOf9)) ?_
    simp only [Act.put, pu]
    refine pw_loadk (by rfl) 9 _ rfl _ (oq + j * 1) rfl rB (.string ⟨x.toArray⟩) hbx Try.isAgg9 ?_
    simp only [Act.put, pu]
    refine pw_value (by rfl) (.int .i64 (x.length : Nat)) (y_lenS _ _ rfl x rfl Try.underlying9) ?_
    simp only [Act.put, pu]
    refine pw_value (by rfl) (.bool true) (exec_gt_i _ _ _ _ rfl ((x.length : Nat)) (40) rfl rfl true (decide_eq_true h40)) ?_
    simp only [Act.put, pu]
    refine pw_nil ?_
    clear rB
    (repeat ((fail_if_success with_reducible refine rg ?_); go_step))
    refine wp_region_pw ?_
    refine pw_callB (by rfl) 8 _ _ rfl Try.func8 (by kernel_rfl) #[] rfl _ (awake_any _) ?_
    intro z7000 k
    simp only [Act.put, pu]
    replace sd := sd.trans (k.below z0.heap.size sd.size (by simp <;> omega))
    clear k
    refine pw_as (by rfl) rfl rfl ?_
    simp only [Act.put, pu]
    refine pw_nil ?_
    go_wp2
    go_ret
    exact ⟨rfl, below_on HS0.out (Nat.le_refl _) sd⟩
   ·skip
    (repeat ((fail_if_success with_reducible refine rg ?_); go_step))
    refine wp_region_pw ?_
    refine pw_mv (by rfl) rfl rfl ?_
    simp only [Act.put, pu]
    refine pw_mv (by rfl) rfl rfl ?_
    simp only [Act.put, pu]
    refine pw_value (by rfl) (.int .i64 (l.length : Nat)) (exec_len_s 30 _ rfl (some ⟨gq, oq, none⟩) (l.length) (ck) rfl sl_strs) ?_
    simp only [Act.put, pu]
    refine pw_value (by rfl) (.bool true) (exec_lt_b _ _ _ _ rfl ((j : Nat)) ((l.length : Nat)) rfl rfl true (decide_eq_true h1)) ?_
    simp only [Act.put, pu]
    refine pw_nil ?_
    (repeat ((fail_if_success with_reducible refine rg ?_); go_step))
    refine wp_region_pw ?_
    refine pw_mv (by rfl) rfl rfl ?_
    simp only [Act.put, pu]
    refine pw_mv (by rfl) rfl rfl ?_
    simp only [Act.put, pu]
    refine pw_value (by rfl) (.pointer (some ⟨gq, oq + j * 1, none⟩)) ((exec_index_s 30 _ _ rfl (gq) (oq) (l.length) (ck) rfl (j) rfl (hlt) _ Try.underlying30 1 Try.sizeOf9)) ?_
    simp only [Act.put, pu]
    refine pw_loadk (by rfl) 9 _ rfl _ (oq + j * 1) rfl rB (.string ⟨x.toArray⟩) hbx Try.isAgg9 ?_
    simp only [Act.put, pu]
    refine pw_value (by rfl) (.int .i64 (x.length : Nat)) (y_lenS _ _ rfl x rfl Try.underlying9) ?_
    simp only [Act.put, pu]
    refine pw_value (by rfl) (.bool false) (exec_gt_i _ _ _ _ rfl ((x.length : Nat)) (40) rfl rfl false (decide_eq_false h40)) ?_
    simp only [Act.put, pu]
    refine pw_nil ?_
    clear rB
    (repeat ((fail_if_success with_reducible refine rg ?_); go_step))
    refine wp_region_pw ?_
    refine pw_mv (by rfl) rfl rfl ?_
    simp only [Act.put, pu]
    refine pw_value (by rfl) (.int .i64 (((j + 1 : Nat) : Int))) (x_addz _ _ _ _ rfl ((j : Nat)) (1) (((j + 1 : Nat) : Int)) rfl rfl (by omega) (by omega) (by omega)) ?_
    simp only [Act.put, pu]
    refine pw_as (by rfl) rfl rfl ?_
    simp only [Act.put, pu]
    refine pw_nil ?_
    go_wp2
    go_roundg y
    case measure => omega
    case rel =>
     refine ⟨j + 1, by omega, rfl, fun t ht => ?_, sd⟩
     by_cases e : t = j
     ·rw [e, HX.out]; omega
     ·exact HA.out t (by omega)
  | zero =>
   have h40 : ∀ j, j < l.length → (l.getD j []).length ≤ 16777216 := fun t ht => by have := HA.out t (by omega); omega
   have h1 : ¬ (j : Int) < (l.length : Int) := by omega
   have hOf := fun w' (hb : Below z0.heap.size z0 w') => of_any n m ak ck l gq oq kcs tk az cz zs gz oz zcs tz w' (HK.out.below hb) (HZ.out.below hb) (by omega) (by omega) h40
   (repeat ((fail_if_success with_reducible refine rg ?_); go_step))
   refine wp_region_pw ?_
   refine pw_mv (by rfl) rfl rfl ?_
   simp only [Act.put, pu]
   refine pw_mv (by rfl) rfl rfl ?_
   simp only [Act.put, pu]
   refine pw_value (by rfl) (.int .i64 (l.length : Nat)) (exec_len_s 30 _ rfl (ak) (l.length) (ck) rfl sl_strs) ?_
   simp only [Act.put, pu]
   refine pw_value (by rfl) (.bool false) (exec_lt_b _ _ _ _ rfl ((j : Nat)) ((l.length : Nat)) rfl rfl false (decide_eq_false h1)) ?_
   simp only [Act.put, pu]
   refine pw_nil ?_
   clear HA hj h1
   have r3 := HR3.out.belowAll sd
   obtain ⟨bs, hbs0⟩ : ∃ bs, wr.heap.size = bs := ⟨_, rfl⟩
   have HC : Hid (z0.heap.size ≤ bs) := by rw [← hbs0]; exact sd.size
   (repeat ((fail_if_success with_reducible refine rg ?_); go_step))
   refine wp_region_pw ?_
   refine pw_value (by rfl) (.pointer (some ⟨g3, 0, none⟩)) (exec_index 22 _ _ rfl g3 rfl 0 2 rfl (by decide) _ Try.underlying22 Try.sizeOf3) ?_
   simp only [Act.put, pu]
   refine pw_loadk (by rfl) 3 _ rfl _ (0) rfl r3.r (.int .i64 n) rfl Try.isAgg3 ?_
   simp only [Act.put, pu]
   refine pw_value (by rfl) (.pointer (some ⟨g3, 1, none⟩)) (exec_index 22 _ _ rfl g3 rfl 1 2 rfl (by decide) _ Try.underlying22 Try.sizeOf3) ?_
   simp only [Act.put, pu]
   refine pw_loadk (by rfl) 3 _ rfl _ (1) rfl r3.r (.int .i64 m) rfl Try.isAgg3 ?_
   simp only [Act.put, pu]
   refine pw_mv (by rfl) rfl rfl ?_
   simp only [Act.put, pu]
   refine pw_mv (by rfl) rfl rfl ?_
   simp only [Act.put, pu]
   refine pw_callE (by rfl) 21 _ _ rfl Try.func21 (by kernel_rfl) #[.int .i64 n, .int .i64 m, .slice ak l.length ck, .slice az zs.length cz] rfl (hOf _ sd) ?_
   rintro _ z8006 ⟨pv, er, rfl, hR, hb⟩
   refine ⟨_, rfl, ?_⟩
   simp only [Act.put, pu]
   have k := Kept.ofBelow hb
   clear hb
   replace r3 := k.row r3 (by simp <;> omega)
   replace sd := sd.trans (k.below z0.heap.size sd.size (by simp <;> omega))
   clear k
   refine pw_mv (by rfl) rfl rfl ?_
   simp only [Act.put, pu]
   refine pw_ext (by rfl) rfl rfl rfl ?_
   simp only [Act.put, pu]
   refine pw_ext (by rfl) rfl rfl rfl ?_
   simp only [Act.put, pu]
   refine pw_as (by rfl) rfl rfl ?_
   simp only [Act.put, pu]
   refine pw_as (by rfl) rfl rfl ?_
   simp only [Act.put, pu]
   refine pw_nil ?_
   have HR : Hid (OfR z8006 bs n m zs l pv er) := by rw [← hbs0]; exact hR
   clear hbs0
   have HSD : Hid (Below z0.heap.size z0 z8006) := sd
   have HSB : Hid (Below w.heap.size w z8006) := below_on HS0.out (Nat.le_refl _) sd
   have HK8 : Hid (ElsAt 1 z8006 ak l.length (stC l) gq oq kcs tk) := HK.out.below sd
   have HZ8 : Hid (ElsAt 1 z8006 az zs.length (inC zs) gz oz zcs tz) := HZ.out.below sd
   have HR8 : Hid (Row z8006 g3 #[.int .i64 n, .int .i64 m] 22) := r3
   clear hR hOf h40
   have sA := sbmk z8006
   clear sd
   go_upto_region 9 with fail
   go_cut [10] from 23 (fun s10 wx => s10 = .bool (decide (1 ≤ n ∧ n ≤ 7 ∧ 1 ≤ m ∧ m ≤ 4)) ∧ Row wx g3 #[.int .i64 n, .int .i64 m] 22 ∧ Below z8006.heap.size z8006 wx)
   case first => as_aux_lemma =>
    obtain ⟨a1, a2, a3, a4⟩ := HY.out.1
    (repeat ((fail_if_success with_reducible refine rg ?_); go_step))
    refine wp_region_pw ?_
    refine pw_value (by rfl) (.pointer (some ⟨g3, 0, none⟩)) (exec_index 22 _ _ rfl g3 rfl 0 2 rfl (by decide) _ Try.underlying22 Try.sizeOf3) ?_
    simp only [Act.put, pu]
    refine pw_loadk (by rfl) 3 _ rfl _ (0) rfl r3.r (.int .i64 n) rfl Try.isAgg3 ?_
    simp only [Act.put, pu]
    refine pw_value (by rfl) (.bool true) (exec_geq_i _ _ _ _ rfl (n) (1) rfl rfl true (decide_eq_true (by omega))) ?_
    simp only [Act.put, pu]
    refine pw_mv (by rfl) rfl rfl ?_
    simp only [Act.put, pu]
    refine pw_value (by rfl) (.pointer (some ⟨g3, 0, none⟩)) (exec_index 22 _ _ rfl g3 rfl 0 2 rfl (by decide) _ Try.underlying22 Try.sizeOf3) ?_
    simp only [Act.put, pu]
    refine pw_loadk (by rfl) 3 _ rfl _ (0) rfl r3.r (.int .i64 n) rfl Try.isAgg3 ?_
    simp only [Act.put, pu]
    refine pw_value (by rfl) (.bool true) (exec_leq_i _ _ _ _ rfl (n) (7) rfl rfl true (decide_eq_true (by omega))) ?_
    simp only [Act.put, pu]
    refine pw_pick (by rfl) true (v := .bool true) rfl rfl rfl ?_
    simp only [Act.put, pu]
    refine pw_mv (by rfl) rfl rfl ?_
    simp only [Act.put, pu]
    refine pw_value (by rfl) (.pointer (some ⟨g3, 1, none⟩)) (exec_index 22 _ _ rfl g3 rfl 1 2 rfl (by decide) _ Try.underlying22 Try.sizeOf3) ?_
    simp only [Act.put, pu]
    refine pw_loadk (by rfl) 3 _ rfl _ (1) rfl r3.r (.int .i64 m) rfl Try.isAgg3 ?_
    simp only [Act.put, pu]
    refine pw_value (by rfl) (.bool true) (exec_geq_i _ _ _ _ rfl (m) (1) rfl rfl true (decide_eq_true (by omega))) ?_
    simp only [Act.put, pu]
    refine pw_pick (by rfl) true (v := .bool true) rfl rfl rfl ?_
    simp only [Act.put, pu]
    refine pw_mv (by rfl) rfl rfl ?_
    simp only [Act.put, pu]
    refine pw_value (by rfl) (.pointer (some ⟨g3, 1, none⟩)) (exec_index 22 _ _ rfl g3 rfl 1 2 rfl (by decide) _ Try.underlying22 Try.sizeOf3) ?_
    simp only [Act.put, pu]
    refine pw_loadk (by rfl) 3 _ rfl _ (1) rfl r3.r (.int .i64 m) rfl Try.isAgg3 ?_
    simp only [Act.put, pu]
    refine pw_value (by rfl) (.bool true) (exec_leq_i _ _ _ _ rfl (m) (4) rfl rfl true (decide_eq_true (by omega))) ?_
    simp only [Act.put, pu]
    refine pw_pick (by rfl) true (v := .bool true) rfl rfl rfl ?_
    simp only [Act.put, pu]
    refine pw_as (by rfl) rfl rfl ?_
    simp only [Act.put, pu]
    refine pw_nil ?_
    go_wp2
    go_meet
    case rel => exact ⟨congrArg Value.bool (decide_eq_true (p := 1 ≤ n ∧ n ≤ 7 ∧ 1 ≤ m ∧ m ≤ 4) (by omega)).symm, r3, sA⟩
   case rest => as_aux_lemma =>
    clear r3 sA
    obtain ⟨B0, hB0⟩ : ∃ B0, decide (1 ≤ n ∧ n ≤ 7 ∧ 1 ≤ m ∧ m ≤ 4) = B0 := ⟨_, rfl⟩
    rw [hB0] at hcut
    have HB0 : Hid (decide (1 ≤ n ∧ n ≤ 7 ∧ 1 ≤ m ∧ m ≤ 4) = B0) := hB0
    clear hB0
    obtain ⟨rfl, r3, sA⟩ := hcut
    (repeat ((fail_if_success with_reducible refine rg ?_); go_step))
    refine wp_region_pw ?_
    refine pw_value (by rfl) (.pointer (some ⟨g3, 0, none⟩)) (exec_index 22 _ _ rfl g3 rfl 0 2 rfl (by decide) _ Try.underlying22 Try.sizeOf3) ?_
    simp only [Act.put, pu]
    refine pw_loadk (by rfl) 3 _ rfl _ (0) rfl r3.r (.int .i64 n) rfl Try.isAgg3 ?_
    simp only [Act.put, pu]
    refine pw_value (by rfl) (.pointer (some ⟨g3, 1, none⟩)) (exec_index 22 _ _ rfl g3 rfl 1 2 rfl (by decide) _ Try.underlying22 Try.sizeOf3) ?_
    simp only [Act.put, pu]
    refine pw_loadk (by rfl) 3 _ rfl _ (1) rfl r3.r (.int .i64 m) rfl Try.isAgg3 ?_
    simp only [Act.put, pu]
    refine pw_mv (by rfl) rfl rfl ?_
    simp only [Act.put, pu]
    refine pw_value (by rfl) (.agg (sxC n m (.slice ak l.length ck) (.slice none 0 0))) (exec_buildv _ [(0, _), (1, _), (2, _)] rfl [(0, .int .i64 n), (1, .int .i64 m), (2, .slice ak l.length ck)] rfl _ (built_rf2 n m ak l.length ck)) ?_
    simp only [Act.put, pu]
    refine pw_new (by rfl) 33 rfl _ zero_rf ?_
    intro g11 z10006 n0 r11 k
    simp only [Act.put, pu]
    have d3x11 := Nat.lt_of_lt_of_le r3.lt n0
    have b11 := Nat.le_trans sA.size n0
    clear n0
    replace r3 := k.row r3 (by simp <;> omega)
    replace sA := sA.trans (k.below z8006.heap.size sA.size (by simp <;> omega))
    clear k
    refine pw_put (by rfl) 33 _ _ rfl _ rfl r11 (sxC n m (.slice ak l.length ck) (.slice none 0 0)) rfl (by rw [sxC_size]; exact size_rf) (by simp only [sxC_size]) (sx_one _ _ _ _ (by rfl) (by rfl)) ?_
    clear r11
    intro z10007 r11 k
    simp only [Act.put]
    replace r3 := k.row r3 (by simp <;> omega)
    replace sA := sA.trans (k.below z8006.heap.size sA.size (by simp <;> omega))
    clear k
    refine pw_nil ?_
    go_upto_region 11 with fail
    go_cut [10] from 23 (fun s10 wx => s10 = .bool (B0 && decide ((zs.length : Int) = n + m)) ∧ Row wx g3 #[.int .i64 n, .int .i64 m] 22 ∧ Row wx g11 (sxC n m (.slice ak l.length ck) (.slice none 0 0)) 33 ∧ Below z8006.heap.size z8006 wx)
    case first => as_aux_lemma =>
     cases hb0 : B0 with
     | false =>
      exact absurd HY.out.1 (of_decide_eq_false (HB0.out.trans hb0))
     | true =>
      obtain ⟨a1, a2, a3, a4⟩ := of_decide_eq_true (HB0.out.trans hb0)
      (repeat ((fail_if_success with_reducible refine rg ?_); go_step))
      refine wp_region_pw ?_
      refine pw_mv (by rfl) rfl rfl ?_
      simp only [Act.put, pu]
      refine pw_mv (by rfl) rfl rfl ?_
      simp only [Act.put, pu]
      refine pw_mv (by rfl) rfl rfl ?_
      simp only [Act.put, pu]
      refine pw_value (by rfl) (.int .i64 (zs.length : Nat)) (exec_len_s 31 _ rfl (az) (zs.length) (cz) rfl sl_ints) ?_
      simp only [Act.put, pu]
      refine pw_value (by rfl) (.pointer (some ⟨g3, 0, none⟩)) (exec_index 22 _ _ rfl g3 rfl 0 2 rfl (by decide) _ Try.underlying22 Try.sizeOf3) ?_
      simp only [Act.put, pu]
      refine pw_loadk (by rfl) 3 _ rfl _ (0) rfl r3.r (.int .i64 n) rfl Try.isAgg3 ?_
      simp only [Act.put, pu]
      refine pw_value (by rfl) (.pointer (some ⟨g3, 1, none⟩)) (exec_index 22 _ _ rfl g3 rfl 1 2 rfl (by decide) _ Try.underlying22 Try.sizeOf3) ?_
      simp only [Act.put, pu]
      refine pw_loadk (by rfl) 3 _ rfl _ (1) rfl r3.r (.int .i64 m) rfl Try.isAgg3 ?_
      simp only [Act.put, pu]
      refine pw_value (by rfl) (.int .i64 (n + m)) (x_addz _ _ _ _ rfl (n) (m) (n + m) rfl rfl (by omega) (by omega) (by omega)) ?_
      simp only [Act.put, pu]
      refine pw_value (by rfl) (.bool (decide ((zs.length : Int) = n + m))) (exec_eql_k .i64 _ _ _ _ rfl (zs.length : Nat) (n + m) rfl rfl _ rfl) ?_
      simp only [Act.put, pu]
      refine pw_pick (by rfl) true (v := .bool (decide ((zs.length : Int) = n + m))) rfl rfl rfl ?_
      simp only [Act.put, pu]
      refine pw_as (by rfl) rfl rfl ?_
      simp only [Act.put, pu]
      refine pw_nil ?_
      go_wp2
      go_meet
      case rel => exact ⟨congrArg Value.bool (by rw [hb0, Bool.true_and]), r3, r11, sA⟩
    case rest => as_aux_lemma =>
     clear r3 r11 sA
     obtain ⟨B1, hB1⟩ : ∃ B1, (B0 && decide ((zs.length : Int) = n + m)) = B1 := ⟨_, rfl⟩
     rw [hB1] at hcut
     have HB1 : Hid ((B0 && decide ((zs.length : Int) = n + m)) = B1) := hB1
     clear hB1
     obtain ⟨rfl, r3, r11, sA⟩ := hcut
     clear r3
     have HBO : Hid (∀ b : Bool, (B1 && b) = true → 1 ≤ n ∧ n ≤ 7 ∧ 1 ≤ m ∧ m ≤ 4) := fun b h9 => by
      rw [Bool.and_eq_true, ← HB1.out, Bool.and_eq_true, ← HB0.out] at h9
      exact of_decide_eq_true h9.1.1
     have HYB : Hid (∀ i, i ≤ zs.length → (B1 && useB n m zs i) = true) := fun i hi => by
      have h8 : B1 = true := by
       rw [← HB1.out, ← HB0.out, decide_eq_true HY.out.1, decide_eq_true HY.out.2.1]
       first | done | rfl
      rw [h8, Bool.true_and]
      exact useB_all fun t ht => useB_at HY.out.2.2.1 t (by omega)
     obtain ⟨ii, hii, hiz, his, hib⟩ := of_info info_int
     have q3 : ¬ 1 * ii.size > 2 ^ 24 := by rw [his]; decide
     have q4 : ¬ 1 * ii.size = 0 := by rw [his]; decide
     have ql2 := fun e => lit_int1 e ii.size his
     (repeat ((fail_if_success with_reducible refine rg ?_); go_step))
     refine wp_region_pw ?_
     refine pw_value (by rfl) (.int .i64 0) (fun _ => rfl) ?_
     simp only [Act.put, pu]
     refine pw_nil ?_
     go_wp2_with fail
     go_loopg [10, 12, 13] zs.length (fun x s10 s12 s13 wr => ∃ (i : Nat) (f : Bool) (E : List Int) (ev : Value), ((i + x = zs.length) ∨ (f = false ∧ i ≤ zs.length)) ∧ s12 = .int .i64 i ∧ s10 = .bool f ∧ (f = (B1 && useB n m zs i)) ∧ (f = true → E = (endsF zs i).take (l.length + 1)) ∧ E.length ≤ l.length + 1 ∧ Row wr g11 (sxC n m (.slice ak l.length ck) (ev)) 33 ∧ OwnE 1 3 wr z8006.heap.size ev E.length (inC E) ∧ ev.ownBlock ≠ some g11 ∧ Below z8006.heap.size z8006 wr)
     case atStart =>
      exact ⟨0, B1, [], .slice none 0 0, (.inl (by omega)), rfl, rfl, (Bool.and_true _).symm, fun _ => rfl, by simp, r11, ownE_nil _ _ _ _, (fun h => by cases h), sA⟩
     case round =>
      clear sA r11
      obtain ⟨i, f, E, ev, hx, rfl, rfl, hf, hE, hEl, r11, hO, ehOx11, sA⟩ := hrel
      have HF : Hid (f = (B1 && useB n m zs i)) := hf
      have HE : Hid (f = true → E = (endsF zs i).take (l.length + 1)) := hE
      clear hf hE
      have hil : i ≤ zs.length := by rcases hx with h | ⟨_, h⟩ <;> omega
      go_upto_region 13 with fail
      go_cut [96] from 90 to 140 (fun s96 wx => s96 = .bool (decide (i < zs.length) && f) ∧ wx = wr)
      case first => as_aux_lemma =>
       by_cases h1 : (i : Int) < (zs.length : Int)
       ·have h1n : decide (i < zs.length) = true := decide_eq_true (by omega)
        (repeat ((fail_if_success with_reducible refine rg ?_); go_step))
        refine wp_region_pw ?_
        refine pw_mv (by rfl) rfl rfl ?_
        simp only [Act.put, pu]
        refine pw_mv (by rfl) rfl rfl ?_
        simp only [Act.put, pu]
        refine pw_value (by rfl) (.int .i64 (zs.length : Nat)) (exec_len_s 31 _ rfl (az) (zs.length) (cz) rfl sl_ints) ?_
        simp only [Act.put, pu]
        refine pw_value (by rfl) (.bool true) (exec_lt_b _ _ _ _ rfl ((i : Nat)) ((zs.length : Nat)) rfl rfl true (decide_eq_true h1)) ?_
        simp only [Act.put, pu]
        refine pw_mv (by rfl) rfl rfl ?_
        simp only [Act.put, pu]
        refine pw_mv (by rfl) rfl rfl ?_
        simp only [Act.put, pu]
        refine pw_pick (by rfl) true (v := .bool f) rfl rfl rfl ?_
        simp only [Act.put, pu]
        refine pw_nil ?_
        go_wp2
        go_meet
        case rel => exact ⟨by rw [h1n, Bool.true_and], rfl⟩
       ·have h1n : decide (i < zs.length) = false := decide_eq_false (by omega)
        (repeat ((fail_if_success with_reducible refine rg ?_); go_step))
        refine wp_region_pw ?_
        refine pw_mv (by rfl) rfl rfl ?_
        simp only [Act.put, pu]
        refine pw_mv (by rfl) rfl rfl ?_
        simp only [Act.put, pu]
        refine pw_value (by rfl) (.int .i64 (zs.length : Nat)) (exec_len_s 31 _ rfl (az) (zs.length) (cz) rfl sl_ints) ?_
        simp only [Act.put, pu]
        refine pw_value (by rfl) (.bool false) (exec_lt_b _ _ _ _ rfl ((i : Nat)) ((zs.length : Nat)) rfl rfl false (decide_eq_false h1)) ?_
        simp only [Act.put, pu]
        refine pw_mv (by rfl) rfl rfl ?_
        simp only [Act.put, pu]
        refine pw_skip (by rfl) ?_
        simp only [Act.put, pu]
        refine pw_pick (by rfl) false (v := .bool false) rfl rfl rfl ?_
        simp only [Act.put, pu]
        refine pw_nil ?_
        go_wp2
        go_meet
        case rel => exact ⟨by rw [h1n, Bool.false_and], rfl⟩
      case rest => as_aux_lemma =>
       obtain ⟨rfl, rfl⟩ := hcut
       cases hgo : (decide (i < zs.length) && f) with
       | true =>
        obtain ⟨hlt, hft⟩ : i < zs.length ∧ f = true := by
         rw [Bool.and_eq_true, decide_eq_true_eq] at hgo
         exact hgo
        subst hft
        have hx2 : i + gk = zs.length := by
         rcases hx with h | ⟨h, _⟩
         ·exact h
         ·cases h
        obtain ⟨y, rfl⟩ : ∃ y, gk = y + 1 := ⟨gk - 1, by omega⟩
        clear hx
        have hEE := HE.out rfl
        obtain ⟨a1, a2, a3, a4⟩ := HBO.out _ HF.out.symm
        obtain h0 | ⟨rfl, rB, hbt⟩ := (HZ8.out.below sA).at'
        ·exact absurd h0 (by omega)
        obtain ⟨z, hzx⟩ : ∃ z, zs.getD i 0 = z := ⟨_, rfl⟩
        have HX : Hid (zs.getD i 0 = z) := hzx
        have hbx : zcs[oz + i * 1]? = some (.int .i64 z) := by rw [← hzx]; exact hbt i hlt 0 _ rfl
        have HBX : Hid (zcs[oz + i * 1]? = some (.int .i64 z)) := hbx
        have HEE : Hid (E = (endsF zs i).take (l.length + 1)) := hEE
        clear hbt hzx hEE hgo
        go_upto_region 15 with fail
        go_cut [10] from 90 to 140 (fun s10 wx => s10 = .bool (decide (0 ≤ z ∧ z ≤ quo n m ((i + 1 : Nat) : Int))) ∧ Row wx g11 (sxC n m (.slice ak l.length ck) (ev)) 33 ∧ OwnE 1 3 wx z8006.heap.size ev E.length (inC E) ∧ Below z8006.heap.size z8006 wx)
        case first => as_aux_lemma =>
         by_cases c1 : 0 ≤ z
         ·by_cases c2 : z ≤ quo n m ((i + 1 : Nat) : Int)
          ·skip
           (repeat ((fail_if_success with_reducible refine rg ?_); go_step))
           refine wp_region_qw (by kernel_rfl) (by kernel_rfl) ?_
           refine qw_move (by rfl) rfl rfl ?_
           simp only [Act.put, pu]
           refine qw_move (by rfl) rfl rfl ?_
           simp only [Act.put, pu]
           refine qw_value (by rfl) (.pointer (some ⟨gz, oz + i * 1, none⟩)) ((exec_index_s 31 _ _ rfl (gz) (oz) (zs.length) (cz) rfl (i) rfl (hlt) _ Try.underlying31 1 Try.sizeOf3)) ?_
           simp only [Act.put, pu]
           refine qw_loadcR (by rfl) 3 _ rfl _ (oz + i * 1) rfl rB (.int .i64 z) hbx Try.isAgg3 ?_
           simp only [Act.put, pu]
           refine qw_value (by rfl) (.bool true) (exec_geq_i _ _ _ _ rfl (z) (0) rfl rfl true (decide_eq_true (by omega))) ?_
           simp only [Act.put, pu]
           refine qw_move (by rfl) rfl rfl ?_
           simp only [Act.put, pu]
           refine qw_move (by rfl) rfl rfl ?_
           simp only [Act.put, pu]
           refine qw_move (by rfl) rfl rfl ?_
           simp only [Act.put, pu]
           refine qw_value (by rfl) (.pointer (some ⟨gz, oz + i * 1, none⟩)) ((exec_index_s 31 _ _ rfl (gz) (oz) (zs.length) (cz) rfl (i) rfl (hlt) _ Try.underlying31 1 Try.sizeOf3)) ?_
           simp only [Act.put, pu]
           refine qw_loadcR (by rfl) 3 _ rfl _ (oz + i * 1) rfl rB (.int .i64 z) hbx Try.isAgg3 ?_
           simp only [Act.put, pu]
           refine qw_loadm (by rfl) 33 _ rfl _ (0) rfl r11 ((sxC n m (.slice ak l.length ck) (ev))) (part_all _) _ Try.underlying33 rfl (by rw [sxC_size]; exact size_rf) ?_
           simp only [Act.put, pu]
           refine qw_move (by rfl) rfl rfl ?_
           simp only [Act.put, pu]
           refine qw_value (by rfl) (.int .i64 (((i + 1 : Nat) : Int))) (x_addz _ _ _ _ rfl ((i : Nat)) (1) (((i + 1 : Nat) : Int)) rfl rfl (by omega) (by omega) (by omega)) ?_
           simp only [Act.put, pu]
           refine qw_callK (by rfl) 17 _ _ rfl Try.func17 (by kernel_rfl) #[.agg (sxC n m (.slice ak l.length ck) (ev)), .int .i64 ((i + 1 : Nat) : Int)] rfl _ (fun w' hb => rquo_any n m _ _ ((i + 1 : Nat) : Int) w' a1 a2 (by omega) a4) ?_
           simp only [Act.put, pu]
           refine qw_value (by rfl) (.bool true) (exec_leq_i _ _ _ _ rfl z (quo n m ((i + 1 : Nat) : Int)) rfl rfl true (decide_eq_true (by omega))) ?_
           simp only [Act.put, pu]
           refine qw_pick true (v := .bool true) (by rfl) rfl rfl rfl ?_
           simp only [Act.put, pu]
           refine qw_asg (by rfl) rfl rfl ?_
           simp only [Act.put, pu]
           refine qw_nil ?_
           intro w9 hqb
           replace r11 := r11.belowAll hqb
           replace hO := hO.on (Kept.ofBelow hqb) (own_ne0 _)
           replace sA := below_on sA (Nat.le_refl _) hqb
           clear hqb
           go_wp2
           go_meet
           case rel => exact ⟨congrArg Value.bool (decide_eq_true (p := 0 ≤ z ∧ z ≤ quo n m ((i + 1 : Nat) : Int)) (by omega)).symm, r11, hO, sA⟩
          ·exfalso
           have h9 := useB_at HY.out.2.2.1 i hlt
           rw [HX.out] at h9
           exact c2 h9.2
         ·exfalso
          have h9 := useB_at HY.out.2.2.1 i hlt
          rw [HX.out] at h9
          exact c1 h9.1
        case rest => as_aux_lemma =>
         clear r11 hO sA rB hbx
         obtain ⟨f2, hf2⟩ : ∃ f2, decide (0 ≤ z ∧ z ≤ quo n m ((i + 1 : Nat) : Int)) = f2 := ⟨_, rfl⟩
         rw [hf2] at hcut
         obtain ⟨rfl, r11, hO, sA⟩ := hcut
         have HF2 : Hid (f2 = (B1 && useB n m zs (i + 1))) := by
          show f2 = _
          rw [useB, HX.out, ← Bool.and_assoc, ← HF.out, Bool.true_and, hf2]
         clear hf2
         obtain ⟨u, hu⟩ : ∃ u, z.toNat = u := ⟨_, rfl⟩
         have HU : Hid (endsF zs (i + 1) = endsF zs i ++ List.replicate u ((i + 1 : Nat) : Int)) := by
          show endsF zs (i + 1) = _
          rw [endsF, HX.out, hu]
         (repeat ((fail_if_success with_reducible refine rg ?_); go_step))
         refine wp_region_pw ?_
         refine pw_value (by rfl) (.int .i64 0) (fun _ => rfl) ?_
         simp only [Act.put, pu]
         refine pw_nil ?_
         go_wp2_with fail
         go_loopg [13] u (fun x s13 wr => ∃ (k : Nat) (E : List Int) (ev : Value), k + x = u ∧ s13 = .int .i64 k ∧ E = (endsF zs i ++ List.replicate k ((i + 1 : Nat) : Int)).take (l.length + 1) ∧ Row wr g11 (sxC n m (.slice ak l.length ck) (ev)) 33 ∧ OwnE 1 3 wr z8006.heap.size ev E.length (inC E) ∧ ev.ownBlock ≠ some g11 ∧ Below z8006.heap.size z8006 wr)
         case atStart => exact ⟨0, E, ev, by omega, rfl, by rw [List.replicate_zero, List.append_nil]; exact HEE.out, r11, hO, ehOx11, sA⟩
         case round =>
          clear sA r11 hO ehOx11 HEE hEl HE HF E ev
          obtain ⟨k, E, ev, hk, rfl, hE, r11, hO, ehOx11, sA⟩ := hrel
          have HEK : Hid (E = (endsF zs i ++ List.replicate k ((i + 1 : Nat) : Int)).take (l.length + 1)) := hE
          have hEl : E.length ≤ l.length + 1 := by rw [hE, List.length_take]; omega
          clear hE
          obtain h0 | ⟨_, rB, _⟩ := (HZ8.out.below sA).at'
          ·exact absurd h0 (by omega)
          have hbx := HBX.out
          cases gk with
          | zero =>
           have hku : k = u := by omega
           have hpf : f2 = true → E = (endsF zs (i + 1)).take (l.length + 1) := fun _ => by rw [HU.out, ← hku]; exact HEK.out
           have HPF : Hid (f2 = true → E = (endsF zs (i + 1)).take (l.length + 1)) := hpf
           clear hpf
           (repeat ((fail_if_success with_reducible refine rg ?_); go_step))
           refine wp_region_pw ?_
           refine pw_mv (by rfl) rfl rfl ?_
           simp only [Act.put, pu]
           refine pw_mv (by rfl) rfl rfl ?_
           simp only [Act.put, pu]
           refine pw_mv (by rfl) rfl rfl ?_
           simp only [Act.put, pu]
           refine pw_value (by rfl) (.pointer (some ⟨gz, oz + i * 1, none⟩)) ((exec_index_s 31 _ _ rfl (gz) (oz) (zs.length) (cz) rfl (i) rfl (hlt) _ Try.underlying31 1 Try.sizeOf3)) ?_
           simp only [Act.put, pu]
           refine pw_loadk (by rfl) 3 _ rfl _ (oz + i * 1) rfl rB (.int .i64 z) hbx Try.isAgg3 ?_
           simp only [Act.put, pu]
           refine pw_value (by rfl) (.bool false) (exec_lt_b _ _ _ _ rfl ((k : Nat)) (z) rfl rfl false (decide_eq_false (by omega))) ?_
           simp only [Act.put, pu]
           refine pw_mv (by rfl) rfl rfl ?_
           simp only [Act.put, pu]
           refine pw_skip (by rfl) ?_
           simp only [Act.put, pu]
           refine pw_pick (by rfl) false (v := .bool false) rfl rfl rfl ?_
           simp only [Act.put, pu]
           refine pw_mv (by rfl) rfl rfl ?_
           simp only [Act.put, pu]
           refine pw_skip (by rfl) ?_
           simp only [Act.put, pu]
           refine pw_skip (by rfl) ?_
           simp only [Act.put, pu]
           refine pw_skip (by rfl) ?_
           simp only [Act.put, pu]
           refine pw_skip (by rfl) ?_
           simp only [Act.put, pu]
           refine pw_skip (by rfl) ?_
           simp only [Act.put, pu]
           refine pw_skip (by rfl) ?_
           simp only [Act.put, pu]
           refine pw_pick (by rfl) false (v := .bool false) rfl rfl rfl ?_
           simp only [Act.put, pu]
           refine pw_nil ?_
           clear rB
           (repeat ((fail_if_success with_reducible refine rg ?_); go_step))
           refine wp_region_pw ?_
           refine pw_mv (by rfl) rfl rfl ?_
           simp only [Act.put, pu]
           refine pw_value (by rfl) (.int .i64 (((i + 1 : Nat) : Int))) (x_addz _ _ _ _ rfl ((i : Nat)) (1) (((i + 1 : Nat) : Int)) rfl rfl (by omega) (by omega) (by omega)) ?_
           simp only [Act.put, pu]
           refine pw_as (by rfl) rfl rfl ?_
           simp only [Act.put, pu]
           refine pw_nil ?_
           go_wp2
           go_roundg y
           case measure => omega
           case rel => exact ⟨i + 1, f2, E, _, .inl (by omega), rfl, rfl, HF2.out, HPF.out, hEl, r11, hO, ehOx11, sA⟩
          | succ y3 =>
           have hkz : (k : Int) < z := by omega
           cases f2 with
           | false =>
            exfalso
            have h9 := HYB.out (i + 1) (by omega)
            rw [← HF2.out] at h9
            cases h9
           | true =>
            obtain ⟨ae, ce, rfl⟩ := own_shape hO
            by_cases hle : E.length ≤ l.length
            ·have hkl : k ≤ l.length := by
              have h8 := congrArg List.length HEK.out
              rw [List.length_take, List.length_append, List.length_replicate] at h8
              omega
             have HMO : Hid (E ++ [((i + 1 : Nat) : Int)] = (endsF zs i ++ List.replicate (k + 1) ((i + 1 : Nat) : Int)).take (l.length + 1)) := by
              have h9 := HEK.out
              rw [h9] at hle
              show E ++ _ = _
              rw [h9]
              exact ends_more hle
             obtain ⟨E2, hE2⟩ : ∃ E2, E ++ [((i + 1 : Nat) : Int)] = E2 := ⟨_, rfl⟩
             have hcg : ∀ t, t < E.length → inC E t = inC E2 t := fun t ht => by rw [← hE2]; exact inC_app E _ t ht
             have hce : inC E2 E.length = #[.int .i64 ((i + 1 : Nat) : Int)] := by rw [← hE2]; exact inC_end E _
             have hl2 : E2.length = E.length + 1 := by rw [← hE2]; simp
             rw [hE2] at HMO
             clear hE2
             (repeat ((fail_if_success with_reducible refine rg ?_); go_step))
             refine wp_region_pw ?_
             refine pw_mv (by rfl) rfl rfl ?_
             simp only [Act.put, pu]
             refine pw_mv (by rfl) rfl rfl ?_
             simp only [Act.put, pu]
             refine pw_mv (by rfl) rfl rfl ?_
             simp only [Act.put, pu]
             refine pw_value (by rfl) (.pointer (some ⟨gz, oz + i * 1, none⟩)) ((exec_index_s 31 _ _ rfl (gz) (oz) (zs.length) (cz) rfl (i) rfl (hlt) _ Try.underlying31 1 Try.sizeOf3)) ?_
             simp only [Act.put, pu]
             refine pw_loadk (by rfl) 3 _ rfl _ (oz + i * 1) rfl rB (.int .i64 z) hbx Try.isAgg3 ?_
             simp only [Act.put, pu]
             refine pw_value (by rfl) (.bool true) (exec_lt_b _ _ _ _ rfl ((k : Nat)) (z) rfl rfl true (decide_eq_true (by omega))) ?_
             simp only [Act.put, pu]
             refine pw_mv (by rfl) rfl rfl ?_
             simp only [Act.put, pu]
             refine pw_mv (by rfl) rfl rfl ?_
             simp only [Act.put, pu]
             refine pw_pick (by rfl) true (v := .bool true) rfl rfl rfl ?_
             simp only [Act.put, pu]
             refine pw_mv (by rfl) rfl rfl ?_
             simp only [Act.put, pu]
             refine pw_value (by rfl) (.pointer (some ⟨g11, 3, none⟩)) (exec_field 33 _ 3 rfl g11 0 rfl _ Try.underlying33 _ rfl 0 Try.sizeOf31) ?_
             simp only [Act.put, pu]
             refine pw_loadk (by rfl) 31 _ rfl _ (3) rfl r11.r (.slice ae E.length ce) rfl Try.isAgg31 ?_
             simp only [Act.put, pu]
             refine pw_value (by rfl) (.int .i64 (E.length : Nat)) (exec_len_s 31 _ rfl (ae) (E.length) (ce) rfl sl_ints) ?_
             simp only [Act.put, pu]
             refine pw_mv (by rfl) rfl rfl ?_
             simp only [Act.put, pu]
             refine pw_value (by rfl) (.int .i64 (l.length : Nat)) (exec_len_s 30 _ rfl (ak) (l.length) (ck) rfl sl_strs) ?_
             simp only [Act.put, pu]
             refine pw_value (by rfl) (.bool true) (exec_leq_i _ _ _ _ rfl ((E.length : Nat)) ((l.length : Nat)) rfl rfl true (decide_eq_true (by omega))) ?_
             simp only [Act.put, pu]
             refine pw_pick (by rfl) true (v := .bool true) rfl rfl rfl ?_
             simp only [Act.put, pu]
             refine pw_nil ?_
             clear rB
             (repeat ((fail_if_success with_reducible refine rg ?_); go_step))
             refine wp_region_pw ?_
             refine pw_value (by rfl) (.pointer (some ⟨g11, 3, none⟩)) (exec_field 33 _ 3 rfl g11 0 rfl _ Try.underlying33 _ rfl 0 Try.sizeOf31) ?_
             simp only [Act.put, pu]
             refine pw_loadk (by rfl) 31 _ rfl _ (3) rfl r11.r (.slice ae E.length ce) rfl Try.isAgg31 ?_
             simp only [Act.put, pu]
             refine pw_mv (by rfl) rfl rfl ?_
             simp only [Act.put, pu]
             refine pw_value (by rfl) (.int .i64 (((i + 1 : Nat) : Int))) (x_addz _ _ _ _ rfl ((i : Nat)) (1) (((i + 1 : Nat) : Int)) rfl rfl (by omega) (by omega) (by omega)) ?_
             simp only [Act.put, pu]
             refine pw_litr (by rfl) 31 3 1 _ rfl #[.int .i64 ((i + 1 : Nat) : Int)] ii _ Try.underlying31 hii hiz q3 q4 [(0, .int .i64 ((i + 1 : Nat) : Int))] rfl (ql2 _) ?_
             intro gM z19004 n0 rM k
             simp only [Act.put, pu]
             have d11xM := Nat.lt_of_lt_of_le r11.lt n0
             have ehOxM := hO.new n0
             have bM := Nat.le_trans sA.size n0
             clear n0
             replace r11 := k.row r11 (by simp <;> omega)
             replace hO := hO.on k (own_ne0 _)
             replace sA := sA.trans (k.below z8006.heap.size sA.size (by simp <;> omega))
             clear k
             replace hO := ownE_congr hO hcg
             refine pw_appE (by rfl) _ _ (31) rfl (z8006.heap.size) 3 ii _ 1 8 Try.underlying31 hii hiz his hib rfl (by decide) (by decide) (.slice ae E.length ce) (E.length) (inC E2) (inC_size E2) rfl hO gM _ rfl (by rw [hce]; exact rM) (by rw [hce]; simp [Value.oneCell']) (by omega) sA.size ?_
             intro v3 zC hO3 k9 hp
             simp only [Act.put, pu]
             have c11 := r11.lt
             have n11 := own_apart hp c11 ehOx11
             replace r11 := k9.row r11 (own_nin ehOx11)
             have nk := hO.base
             replace sA := sA.trans (k9.below z8006.heap.size sA.size nk)
             clear k9 hO nk hp rM
             obtain ⟨a3, c3, rfl⟩ := own_shape hO3
             refine pw_value (by rfl) (.pointer (some ⟨g11, 3, none⟩)) (exec_field 33 _ 3 rfl g11 0 rfl _ Try.underlying33 _ rfl 0 Try.sizeOf31) ?_
             simp only [Act.put, pu]
             refine pw_putv (by rfl) 31 _ _ rfl _ (3) rfl r11 (.slice a3 (E.length + 1) c3) rfl rfl rfl size_ints (by rw [sxC_size]; decide) (sxC n m (.slice ak l.length ck) (.slice a3 (E.length + 1) c3)) rfl ?_
             clear r11
             intro zD r11 k9
             simp only [Act.put]
             replace hO3 := hO3.on k9 (own_ne1 n11)
             replace sA := sA.trans (k9.below z8006.heap.size sA.size (by simp; omega))
             clear k9
             refine pw_nil ?_
             rw [← hl2] at hO3 r11 n11
             (repeat ((fail_if_success with_reducible refine rg ?_); go_step))
             refine wp_region_pw ?_
             refine pw_mv (by rfl) rfl rfl ?_
             simp only [Act.put, pu]
             refine pw_value (by rfl) (.int .i64 (((k + 1 : Nat) : Int))) (x_addz _ _ _ _ rfl ((k : Nat)) (1) (((k + 1 : Nat) : Int)) rfl rfl (by omega) (by omega) (by omega)) ?_
             simp only [Act.put, pu]
             refine pw_as (by rfl) rfl rfl ?_
             simp only [Act.put, pu]
             refine pw_nil ?_
             go_wp2
             go_roundg y3
             case measure => omega
             case rel => exact ⟨k + 1, E2, _, by omega, rfl, HMO.out, r11, hO3, n11, sA⟩
            ·have HPF : Hid (E = (endsF zs (i + 1)).take (l.length + 1)) := by
              show E = _
              rw [HU.out, HEK.out]
              exact ends_full (by omega) (by rw [← HEK.out]; omega)
             (repeat ((fail_if_success with_reducible refine rg ?_); go_step))
             refine wp_region_pw ?_
             refine pw_mv (by rfl) rfl rfl ?_
             simp only [Act.put, pu]
             refine pw_mv (by rfl) rfl rfl ?_
             simp only [Act.put, pu]
             refine pw_mv (by rfl) rfl rfl ?_
             simp only [Act.put, pu]
             refine pw_value (by rfl) (.pointer (some ⟨gz, oz + i * 1, none⟩)) ((exec_index_s 31 _ _ rfl (gz) (oz) (zs.length) (cz) rfl (i) rfl (hlt) _ Try.underlying31 1 Try.sizeOf3)) ?_
             simp only [Act.put, pu]
             refine pw_loadk (by rfl) 3 _ rfl _ (oz + i * 1) rfl rB (.int .i64 z) hbx Try.isAgg3 ?_
             simp only [Act.put, pu]
             refine pw_value (by rfl) (.bool true) (exec_lt_b _ _ _ _ rfl ((k : Nat)) (z) rfl rfl true (decide_eq_true (by omega))) ?_
             simp only [Act.put, pu]
             refine pw_mv (by rfl) rfl rfl ?_
             simp only [Act.put, pu]
             refine pw_mv (by rfl) rfl rfl ?_
             simp only [Act.put, pu]
             refine pw_pick (by rfl) true (v := .bool true) rfl rfl rfl ?_
             simp only [Act.put, pu]
             refine pw_mv (by rfl) rfl rfl ?_
             simp only [Act.put, pu]
             refine pw_value (by rfl) (.pointer (some ⟨g11, 3, none⟩)) (exec_field 33 _ 3 rfl g11 0 rfl _ Try.underlying33 _ rfl 0 Try.sizeOf31) ?_
             simp only [Act.put, pu]
             refine pw_loadk (by rfl) 31 _ rfl _ (3) rfl r11.r (.slice ae E.length ce) rfl Try.isAgg31 ?_
             simp only [Act.put, pu]
             refine pw_value (by rfl) (.int .i64 (E.length : Nat)) (exec_len_s 31 _ rfl (ae) (E.length) (ce) rfl sl_ints) ?_
             simp only [Act.put, pu]
             refine pw_mv (by rfl) rfl rfl ?_
             simp only [Act.put, pu]
             refine pw_value (by rfl) (.int .i64 (l.length : Nat)) (exec_len_s 30 _ rfl (ak) (l.length) (ck) rfl sl_strs) ?_
             simp only [Act.put, pu]
             refine pw_value (by rfl) (.bool false) (exec_leq_i _ _ _ _ rfl ((E.length : Nat)) ((l.length : Nat)) rfl rfl false (decide_eq_false (by omega))) ?_
             simp only [Act.put, pu]
             refine pw_pick (by rfl) true (v := .bool false) rfl rfl rfl ?_
             simp only [Act.put, pu]
             refine pw_nil ?_
             clear rB
             (repeat ((fail_if_success with_reducible refine rg ?_); go_step))
             refine wp_region_pw ?_
             refine pw_mv (by rfl) rfl rfl ?_
             simp only [Act.put, pu]
             refine pw_value (by rfl) (.int .i64 (((i + 1 : Nat) : Int))) (x_addz _ _ _ _ rfl ((i : Nat)) (1) (((i + 1 : Nat) : Int)) rfl rfl (by omega) (by omega) (by omega)) ?_
             simp only [Act.put, pu]
             refine pw_as (by rfl) rfl rfl ?_
             simp only [Act.put, pu]
             refine pw_nil ?_
             go_wp2
             go_roundg y
             case measure => omega
             case rel => exact ⟨i + 1, true, E, .slice ae E.length ce, .inl (by omega), rfl, rfl, HF2.out, fun _ => HPF.out, hEl, r11, hO, ehOx11, sA⟩
       | false =>
        have HFE : Hid (f = (B1 && useB n m zs zs.length)) := by
         show f = _
         by_cases h9 : i < zs.length
         ·have hff : f = false := by rw [decide_eq_true h9, Bool.true_and] at hgo; exact hgo
          rw [hff]
          have h8 := HF.out
          rw [hff] at h8
          cases hb1 : B1 with
          | false => rfl
          | true =>
           rw [hb1, Bool.true_and] at h8
           cases h7 : useB n m zs zs.length with
           | false => rfl
           | true =>
            have h6 := useB_at h7
            exfalso
            have h5 : useB n m zs i = true := useB_all fun t ht => h6 t (by omega)
            rw [h5] at h8
            cases h8
         ·have hie : i = zs.length := by omega
          rw [← hie]
          exact HF.out
        have HEE : Hid (f = true → E = (endsF zs zs.length).take (l.length + 1)) := fun h9 => by
         have h8 := HE.out h9
         have hie : i = zs.length := by
          rw [h9, Bool.and_true] at hgo
          have := of_decide_eq_false hgo
          omega
         rw [← hie]
         exact h8
        clear hx hgo HF HE
        obtain ⟨ae, ce, rfl⟩ := own_shape hO
        (repeat ((fail_if_success with_reducible refine rg ?_); go_step))
        refine wp_region_pw ?_
        refine pw_value (by rfl) (.int .i64 0) (fun _ => rfl) ?_
        simp only [Act.put, pu]
        refine pw_nil ?_
        go_wp2_with fail
        go_loopg [10, 14] l.length (fun x s10 s14 wr => ∃ j : Nat, j + x = l.length ∧ s14 = .int .i64 j ∧ s10 = .bool (f && keyB l j) ∧ Row wr g11 (sxC n m (.slice ak l.length ck) (.slice ae E.length ce)) 33 ∧ OwnE 1 3 wr z8006.heap.size (.slice ae E.length ce) E.length (inC E) ∧ Below z8006.heap.size z8006 wr)
        case atStart => exact ⟨0, by omega, rfl, congrArg Value.bool (Bool.and_true _).symm, r11, hO, sA⟩
        case round =>
         clear sA r11 hO
         obtain ⟨j, hj, rfl, rfl, r11, hO, sA⟩ := hrel
         cases gk with
         | succ y =>
          have hlt : j < l.length := by omega
          have h1 : (j : Int) < (l.length : Int) := by omega
          obtain h0 | ⟨rfl, rB, hbt⟩ := (HK8.out.below sA).at'
          ·exact absurd h0 (by omega)
          obtain ⟨p2, hp2⟩ : ∃ x, l.getD j [] = x := ⟨_, rfl⟩
          have hb2 : kcs[oq + j * 1]? = some (.string ⟨p2.toArray⟩) := by rw [← hp2]; exact hbt j hlt 0 _ rfl
          have hj1 : j - 1 < l.length := by omega
          obtain ⟨p1, hp1⟩ : ∃ x, l.getD (j - 1) [] = x := ⟨_, rfl⟩
          have hb1 : kcs[oq + (j - 1) * 1]? = some (.string ⟨p1.toArray⟩) := by rw [← hp1]; exact hbt (j - 1) hj1 0 _ rfl
          have HKS : Hid (keyB l (j + 1) = (keyB l j && (kyB p2 && (decide (j = 0) || lb p1 p2)))) := by
           show keyB l (j + 1) = _
           rw [keyB, hp1, hp2]
          clear hbt hp1
          obtain ⟨fj, hfj⟩ : ∃ fj, (f && keyB l j) = fj := ⟨_, rfl⟩
          rw [hfj]
          have HFJ : Hid ((f && keyB l (j + 1)) = (fj && (kyB p2 && (decide (j = 0) || lb p1 p2)))) := by
           show (f && keyB l (j + 1)) = _
           rw [HKS.out, ← Bool.and_assoc, hfj]
          have hfj1 : fj = true := by
           rw [← hfj, HFE.out, HYB.out zs.length (Nat.le_refl _), Bool.true_and]
           exact keyB_all fun t ht => keyB_at HY.out.2.2.2.1 t (by omega)
          have hky := (keyB_at HY.out.2.2.2.1 j hlt).1
          rw [hp2] at hky
          obtain ⟨c1, c2⟩ := of_decide_eq_true hky
          have HKY : Hid (kyB p2 = true) := hky
          clear hky hfj HKS hp2
          subst hfj1
          by_cases c3 : j = 0
          ·have HD : Hid (decide (j = 0) = true) := decide_eq_true c3
           (repeat ((fail_if_success with_reducible refine rg ?_); go_step))
           refine wp_region_pw ?_
           refine pw_mv (by rfl) rfl rfl ?_
           simp only [Act.put, pu]
           refine pw_mv (by rfl) rfl rfl ?_
           simp only [Act.put, pu]
           refine pw_value (by rfl) (.int .i64 (l.length : Nat)) (exec_len_s 30 _ rfl (some ⟨gq, oq, none⟩) (l.length) (ck) rfl sl_strs) ?_
           simp only [Act.put, pu]
           refine pw_value (by rfl) (.bool true) (exec_lt_b _ _ _ _ rfl ((j : Nat)) ((l.length : Nat)) rfl rfl true (decide_eq_true h1)) ?_
           simp only [Act.put, pu]
           refine pw_nil ?_
           (repeat ((fail_if_success with_reducible refine rg ?_); go_step))
           refine wp_region_qw (by kernel_rfl) (by kernel_rfl) ?_
           refine qw_move (by rfl) rfl rfl ?_
           simp only [Act.put, pu]
           refine qw_move (by rfl) rfl rfl ?_
           simp only [Act.put, pu]
           refine qw_move (by rfl) rfl rfl ?_
           simp only [Act.put, pu]
           refine qw_move (by rfl) rfl rfl ?_
           simp only [Act.put, pu]
           refine qw_value (by rfl) (.pointer (some ⟨gq, oq + j * 1, none⟩)) ((exec_index_s 30 _ _ rfl (gq) (oq) (l.length) (ck) rfl (j) rfl (hlt) _ Try.underlying30 1 Try.sizeOf9)) ?_
           simp only [Act.put, pu]
           refine qw_loadcR (by rfl) 9 _ rfl _ (oq + j * 1) rfl rB (.string ⟨p2.toArray⟩) hb2 Try.isAgg9 ?_
           simp only [Act.put, pu]
           refine qw_value (by rfl) (.int .i64 (p2.length : Nat)) (y_lenS _ _ rfl p2 rfl Try.underlying9) ?_
           simp only [Act.put, pu]
           refine qw_value (by rfl) (.bool true) (exec_geq_i _ _ _ _ rfl ((p2.length : Nat)) (1) rfl rfl true (decide_eq_true (by omega))) ?_
           simp only [Act.put, pu]
           refine qw_pick true (v := .bool true) (by rfl) rfl rfl rfl ?_
           simp only [Act.put, pu]
           refine qw_move (by rfl) rfl rfl ?_
           simp only [Act.put, pu]
           refine qw_move (by rfl) rfl rfl ?_
           simp only [Act.put, pu]
           refine qw_move (by rfl) rfl rfl ?_
           simp only [Act.put, pu]
           refine qw_value (by rfl) (.pointer (some ⟨gq, oq + j * 1, none⟩)) ((exec_index_s 30 _ _ rfl (gq) (oq) (l.length) (ck) rfl (j) rfl (hlt) _ Try.underlying30 1 Try.sizeOf9)) ?_
           simp only [Act.put, pu]
           refine qw_loadcR (by rfl) 9 _ rfl _ (oq + j * 1) rfl rB (.string ⟨p2.toArray⟩) hb2 Try.isAgg9 ?_
           simp only [Act.put, pu]
           refine qw_value (by rfl) (.int .i64 (p2.length : Nat)) (y_lenS _ _ rfl p2 rfl Try.underlying9) ?_
           simp only [Act.put, pu]
           refine qw_value (by rfl) (.bool true) (exec_leq_i _ _ _ _ rfl ((p2.length : Nat)) (8) rfl rfl true (decide_eq_true (by omega))) ?_
           simp only [Act.put, pu]
           refine qw_pick true (v := .bool true) (by rfl) rfl rfl rfl ?_
           simp only [Act.put, pu]
           refine qw_move (by rfl) rfl rfl ?_
           simp only [Act.put, pu]
           refine qw_move (by rfl) rfl rfl ?_
           simp only [Act.put, pu]
           refine qw_value (by rfl) (.bool true) (exec_eql_k .i64 _ _ _ _ rfl ((j : Nat)) (0) rfl rfl true (decide_eq_true (by omega))) ?_
           simp only [Act.put, pu]
           refine qw_move (by rfl) rfl rfl ?_
           simp only [Act.put, pu]
           refine qw_skip (by rfl) ?_
           simp only [Act.put, pu]
           refine qw_skip (by rfl) ?_
           simp only [Act.put, pu]
           refine qw_skip (by rfl) ?_
           simp only [Act.put, pu]
           refine qw_skip (by rfl) ?_
           simp only [Act.put, pu]
           refine qw_skip (by rfl) ?_
           simp only [Act.put, pu]
           refine qw_skip (by rfl) ?_
           simp only [Act.put, pu]
           refine qw_skip (by rfl) ?_
           simp only [Act.put, pu]
           refine qw_skip (by rfl) ?_
           simp only [Act.put, pu]
           refine qw_skip (by rfl) ?_
           simp only [Act.put, pu]
           refine qw_skip (by rfl) ?_
           simp only [Act.put, pu]
           refine qw_pick true (v := .bool true) (by rfl) rfl rfl rfl ?_
           simp only [Act.put, pu]
           refine qw_pick true (v := .bool true) (by rfl) rfl rfl rfl ?_
           simp only [Act.put, pu]
           refine qw_asg (by rfl) rfl rfl ?_
           simp only [Act.put, pu]
           refine qw_nil ?_
           intro w9 hqb
           replace r11 := r11.belowAll hqb
           replace hO := hO.on (Kept.ofBelow hqb) (own_ne0 _)
           replace sA := below_on sA (Nat.le_refl _) hqb
           clear hqb
           clear rB
           (repeat ((fail_if_success with_reducible refine rg ?_); go_step))
           refine wp_region_pw ?_
           refine pw_mv (by rfl) rfl rfl ?_
           simp only [Act.put, pu]
           refine pw_value (by rfl) (.int .i64 (((j + 1 : Nat) : Int))) (x_addz _ _ _ _ rfl ((j : Nat)) (1) (((j + 1 : Nat) : Int)) rfl rfl (by omega) (by omega) (by omega)) ?_
           simp only [Act.put, pu]
           refine pw_as (by rfl) rfl rfl ?_
           simp only [Act.put, pu]
           refine pw_nil ?_
           go_wp2
           go_roundg y
           case measure => omega
           case rel => exact ⟨j + 1, by omega, rfl, congrArg Value.bool (HFJ.out.trans (by rw [HKY.out, HD.out]; first | done | rfl)).symm, r11, hO, sA⟩
          ·have HD : Hid (decide (j = 0) = false) := decide_eq_false c3
           (repeat ((fail_if_success with_reducible refine rg ?_); go_step))
           refine wp_region_pw ?_
           refine pw_mv (by rfl) rfl rfl ?_
           simp only [Act.put, pu]
           refine pw_mv (by rfl) rfl rfl ?_
           simp only [Act.put, pu]
           refine pw_value (by rfl) (.int .i64 (l.length : Nat)) (exec_len_s 30 _ rfl (some ⟨gq, oq, none⟩) (l.length) (ck) rfl sl_strs) ?_
           simp only [Act.put, pu]
           refine pw_value (by rfl) (.bool true) (exec_lt_b _ _ _ _ rfl ((j : Nat)) ((l.length : Nat)) rfl rfl true (decide_eq_true h1)) ?_
           simp only [Act.put, pu]
           refine pw_nil ?_
           (repeat ((fail_if_success with_reducible refine rg ?_); go_step))
           refine wp_region_qw (by kernel_rfl) (by kernel_rfl) ?_
           refine qw_move (by rfl) rfl rfl ?_
           simp only [Act.put, pu]
           refine qw_move (by rfl) rfl rfl ?_
           simp only [Act.put, pu]
           refine qw_move (by rfl) rfl rfl ?_
           simp only [Act.put, pu]
           refine qw_move (by rfl) rfl rfl ?_
           simp only [Act.put, pu]
           refine qw_value (by rfl) (.pointer (some ⟨gq, oq + j * 1, none⟩)) ((exec_index_s 30 _ _ rfl (gq) (oq) (l.length) (ck) rfl (j) rfl (hlt) _ Try.underlying30 1 Try.sizeOf9)) ?_
           simp only [Act.put, pu]
           refine qw_loadcR (by rfl) 9 _ rfl _ (oq + j * 1) rfl rB (.string ⟨p2.toArray⟩) hb2 Try.isAgg9 ?_
           simp only [Act.put, pu]
           refine qw_value (by rfl) (.int .i64 (p2.length : Nat)) (y_lenS _ _ rfl p2 rfl Try.underlying9) ?_
           simp only [Act.put, pu]
           refine qw_value (by rfl) (.bool true) (exec_geq_i _ _ _ _ rfl ((p2.length : Nat)) (1) rfl rfl true (decide_eq_true (by omega))) ?_
           simp only [Act.put, pu]
           refine qw_pick true (v := .bool true) (by rfl) rfl rfl rfl ?_
           simp only [Act.put, pu]
           refine qw_move (by rfl) rfl rfl ?_
           simp only [Act.put, pu]
           refine qw_move (by rfl) rfl rfl ?_
           simp only [Act.put, pu]
           refine qw_move (by rfl) rfl rfl ?_
           simp only [Act.put, pu]
           refine qw_value (by rfl) (.pointer (some ⟨gq, oq + j * 1, none⟩)) ((exec_index_s 30 _ _ rfl (gq) (oq) (l.length) (ck) rfl (j) rfl (hlt) _ Try.underlying30 1 Try.sizeOf9)) ?_
           simp only [Act.put, pu]
           refine qw_loadcR (by rfl) 9 _ rfl _ (oq + j * 1) rfl rB (.string ⟨p2.toArray⟩) hb2 Try.isAgg9 ?_
           simp only [Act.put, pu]
           refine qw_value (by rfl) (.int .i64 (p2.length : Nat)) (y_lenS _ _ rfl p2 rfl Try.underlying9) ?_
           simp only [Act.put, pu]
           refine qw_value (by rfl) (.bool true) (exec_leq_i _ _ _ _ rfl ((p2.length : Nat)) (8) rfl rfl true (decide_eq_true (by omega))) ?_
           simp only [Act.put, pu]
           refine qw_pick true (v := .bool true) (by rfl) rfl rfl rfl ?_
           simp only [Act.put, pu]
           refine qw_move (by rfl) rfl rfl ?_
           simp only [Act.put, pu]
           refine qw_move (by rfl) rfl rfl ?_
           simp only [Act.put, pu]
           refine qw_value (by rfl) (.bool false) (exec_eql_k .i64 _ _ _ _ rfl ((j : Nat)) (0) rfl rfl false (decide_eq_false (by omega))) ?_
           simp only [Act.put, pu]
           refine qw_move (by rfl) rfl rfl ?_
           simp only [Act.put, pu]
           refine qw_move (by rfl) rfl rfl ?_
           simp only [Act.put, pu]
           refine qw_move (by rfl) rfl rfl ?_
           simp only [Act.put, pu]
           refine qw_value (by rfl) (.int .i64 ((j - 1 : Nat) : Int)) (x_subz _ _ _ _ rfl (j : Nat) 1 ((j - 1 : Nat) : Int) rfl rfl (by omega) (by omega) (by omega)) ?_
           simp only [Act.put, pu]
           refine qw_value (by rfl) (.pointer (some ⟨gq, oq + (j - 1) * 1, none⟩)) ((exec_index_s 30 _ _ rfl (gq) (oq) (l.length) (ck) rfl ((j - 1)) rfl (hj1) _ Try.underlying30 1 Try.sizeOf9)) ?_
           simp only [Act.put, pu]
           refine qw_loadcR (by rfl) 9 _ rfl _ (oq + (j - 1) * 1) rfl rB (.string ⟨p1.toArray⟩) hb1 Try.isAgg9 ?_
           simp only [Act.put, pu]
           refine qw_move (by rfl) rfl rfl ?_
           simp only [Act.put, pu]
           refine qw_move (by rfl) rfl rfl ?_
           simp only [Act.put, pu]
           refine qw_value (by rfl) (.pointer (some ⟨gq, oq + j * 1, none⟩)) ((exec_index_s 30 _ _ rfl (gq) (oq) (l.length) (ck) rfl (j) rfl (hlt) _ Try.underlying30 1 Try.sizeOf9)) ?_
           simp only [Act.put, pu]
           refine qw_loadcR (by rfl) 9 _ rfl _ (oq + j * 1) rfl rB (.string ⟨p2.toArray⟩) hb2 Try.isAgg9 ?_
           simp only [Act.put, pu]
           refine qw_value (by rfl) (.bool (lb p1 p2)) (y_lss _ _ _ _ rfl p1 p2 rfl rfl _ rfl) ?_
           simp only [Act.put, pu]
           refine qw_pick false (v := .bool (lb p1 p2)) (by rfl) rfl rfl rfl ?_
           simp only [Act.put, pu]
           refine qw_pick true (v := .bool (lb p1 p2)) (by rfl) rfl rfl rfl ?_
           simp only [Act.put, pu]
           refine qw_asg (by rfl) rfl rfl ?_
           simp only [Act.put, pu]
           refine qw_nil ?_
           intro w9 hqb
           replace r11 := r11.belowAll hqb
           replace hO := hO.on (Kept.ofBelow hqb) (own_ne0 _)
           replace sA := below_on sA (Nat.le_refl _) hqb
           clear hqb
           clear rB
           (repeat ((fail_if_success with_reducible refine rg ?_); go_step))
           refine wp_region_pw ?_
           refine pw_mv (by rfl) rfl rfl ?_
           simp only [Act.put, pu]
           refine pw_value (by rfl) (.int .i64 (((j + 1 : Nat) : Int))) (x_addz _ _ _ _ rfl ((j : Nat)) (1) (((j + 1 : Nat) : Int)) rfl rfl (by omega) (by omega) (by omega)) ?_
           simp only [Act.put, pu]
           refine pw_as (by rfl) rfl rfl ?_
           simp only [Act.put, pu]
           refine pw_nil ?_
           go_wp2
           go_roundg y
           case measure => omega
           case rel => exact ⟨j + 1, by omega, rfl, congrArg Value.bool (HFJ.out.trans (by rw [HKY.out, HD.out]; first | done | rfl)).symm, r11, hO, sA⟩
         | zero =>
          have h1 : ¬ (j : Int) < (l.length : Int) := by omega
          obtain rfl : j = l.length := by omega
          obtain ⟨f4, hf4⟩ : ∃ f4, (f && keyB l l.length) = f4 := ⟨_, rfl⟩
          rw [hf4]
          have HMB : Hid ((f4 && decide (E.length = l.length)) = mayOf n m zs l) := by
           show _ = mayOf n m zs l
           have h9 := mayOf_is (n := n) (m := m) (zs := zs) (l := l) (E := E) (fun h9 => HEE.out (by rw [HFE.out, ← HB1.out, ← HB0.out]; exact h9))
           rw [← h9, HB0.out, HB1.out, ← HFE.out, hf4]
          have HFT9 : Hid (mayOf n m zs l = true → f = true) := fun h9 => by
           rw [← HMB.out, Bool.and_eq_true, ← hf4, Bool.and_eq_true] at h9
           exact h9.1.1
          clear hj hf4 HFE
          (repeat ((fail_if_success with_reducible refine rg ?_); go_step))
          refine wp_region_pw ?_
          refine pw_mv (by rfl) rfl rfl ?_
          simp only [Act.put, pu]
          refine pw_mv (by rfl) rfl rfl ?_
          simp only [Act.put, pu]
          refine pw_value (by rfl) (.int .i64 (l.length : Nat)) (exec_len_s 30 _ rfl (ak) (l.length) (ck) rfl sl_strs) ?_
          simp only [Act.put, pu]
          refine pw_value (by rfl) (.bool false) (exec_lt_b _ _ _ _ rfl ((l.length : Nat)) ((l.length : Nat)) rfl rfl false (decide_eq_false h1)) ?_
          simp only [Act.put, pu]
          refine pw_nil ?_
          go_upto_region 24 with fail
          go_cut [10] from 23 (fun s10 wx => s10 = .bool (mayOf n m zs l) ∧ Row wx g11 (sxC n m (.slice ak l.length ck) (.slice ae E.length ce)) 33 ∧ OwnE 1 3 wx z8006.heap.size (.slice ae E.length ce) E.length (inC E) ∧ Below z8006.heap.size z8006 wx)
          case first => as_aux_lemma =>
           cases f4 with
           | false =>
            exfalso
            have h9 := HMB.out
            rw [HM.out, Bool.false_and] at h9
            cases h9
           | true =>
            have hEK : decide ((E.length : Int) = (l.length : Int)) = decide (E.length = l.length) := decide_eq_decide.2 (by omega)
            (repeat ((fail_if_success with_reducible refine rg ?_); go_step))
            refine wp_region_pw ?_
            refine pw_mv (by rfl) rfl rfl ?_
            simp only [Act.put, pu]
            refine pw_mv (by rfl) rfl rfl ?_
            simp only [Act.put, pu]
            refine pw_value (by rfl) (.pointer (some ⟨g11, 3, none⟩)) (exec_field 33 _ 3 rfl g11 0 rfl _ Try.underlying33 _ rfl 0 Try.sizeOf31) ?_
            simp only [Act.put, pu]
            refine pw_loadk (by rfl) 31 _ rfl _ (3) rfl r11.r (.slice ae E.length ce) rfl Try.isAgg31 ?_
            simp only [Act.put, pu]
            refine pw_value (by rfl) (.int .i64 (E.length : Nat)) (exec_len_s 31 _ rfl (ae) (E.length) (ce) rfl sl_ints) ?_
            simp only [Act.put, pu]
            refine pw_mv (by rfl) rfl rfl ?_
            simp only [Act.put, pu]
            refine pw_value (by rfl) (.int .i64 (l.length : Nat)) (exec_len_s 30 _ rfl (ak) (l.length) (ck) rfl sl_strs) ?_
            simp only [Act.put, pu]
            refine pw_value (by rfl) (.bool (decide (E.length = l.length))) (exec_eql_k .i64 _ _ _ _ rfl (E.length : Nat) (l.length : Nat) rfl rfl _ hEK) ?_
            simp only [Act.put, pu]
            refine pw_pick (by rfl) true (v := .bool (decide (E.length = l.length))) rfl rfl rfl ?_
            simp only [Act.put, pu]
            refine pw_as (by rfl) rfl rfl ?_
            simp only [Act.put, pu]
            refine pw_nil ?_
            go_wp2
            go_meet
            case rel => exact ⟨congrArg Value.bool ((Bool.true_and _).symm.trans HMB.out), r11, hO, sA⟩
          case rest => as_aux_lemma =>
           clear r11 hO sA HMB h1
           obtain ⟨rfl, r11, hO, sA⟩ := hcut
           have hr9 := HR.out
           unfold OfR at hr9
           rcases hr9 with ⟨hmb, rfl, rfl⟩ | ⟨hmb, rfl, g8, B, rfl, hA⟩
           ·rw [HM.out] at hmb
            cases hmb
           ·have HMY : Hid (mayOf n m zs l = true) := hmb
            rw [hmb]
            clear hmb HR
            obtain ⟨⟨k1, k7, k2, k4⟩, _, hus, _, hel⟩ := mayOf_ends HMY.out
            have hEf : E = endsF zs zs.length := by
             have h9 := HEE.out (HFT9.out HMY.out)
             exact h9.trans (List.take_of_length_le (by omega))
            have hrel0 := mayOf_rel HMY.out
            rw [← hEf] at hrel0
            have HRL : Hid (SRel l (UFj zs zs.length) l E) := hrel0
            have hBlt := hA.lt
            have hBlo := hA.lo
            replace hA := hA.below sA
            clear hus hel hEf hrel0
            (repeat ((fail_if_success with_reducible refine rg ?_); go_step))
            refine wp_region_pw ?_
            refine pw_mv (by rfl) rfl rfl ?_
            simp only [Act.put, pu]
            refine pw_value (by rfl) (.bool false) (exec_not _ _ rfl true rfl) ?_
            simp only [Act.put, pu]
            refine pw_nil ?_
            have hK8 := fun w' (hb : Below z8006.heap.size z8006 w') => HK8.out.below hb
            (repeat ((fail_if_success with_reducible refine rg ?_); go_step))
            refine wp_region_pw ?_
            refine pw_mv (by rfl) rfl rfl ?_
            simp only [Act.put, pu]
            refine pw_value (by rfl) (.bool false) (exec_neq_k .i64 _ _ _ _ rfl (0) (0) rfl rfl false (by rw [decide_eq_true rfl]; rfl)) ?_
            simp only [Act.put, pu]
            refine pw_mv (by rfl) rfl rfl ?_
            simp only [Act.put, pu]
            refine pw_mv (by rfl) rfl rfl ?_
            simp only [Act.put, pu]
            refine pw_value (by rfl) (.bool false) (exec_eql_nilp _ _ _ _ rfl (some ⟨g8, 0, none⟩) rfl rfl ptr_sp) ?_
            simp only [Act.put, pu]
            refine pw_pick (by rfl) false (v := .bool false) rfl rfl rfl ?_
            simp only [Act.put, pu]
            refine pw_mv (by rfl) rfl rfl ?_
            simp only [Act.put, pu]
            refine pw_mv (by rfl) rfl rfl ?_
            simp only [Act.put, pu]
            refine pw_callE (by rfl) 19 _ _ rfl Try.func19 (by kernel_rfl) #[.pointer (some ⟨g8, 0, none⟩)] rfl (keys_at hA (by omega)) ?_
            rintro _ z27008 ⟨aK, cK, gK, csK, rfl, hKE, hb⟩
            refine ⟨_, rfl, ?_⟩
            simp only [Act.put, pu]
            have k := Kept.ofBelow hb
            clear hb
            replace r11 := k.row r11 (by simp <;> omega)
            replace hO := hO.on k (own_ne0 _)
            replace hA := hA.below k.nil
            replace sA := sA.trans (k.below z8006.heap.size sA.size (by simp <;> omega))
            clear k
            refine pw_mv (by rfl) rfl rfl ?_
            simp only [Act.put, pu]
            refine pw_callB (by rfl) 18 _ _ rfl Try.func18 (by kernel_rfl) #[.slice aK l.length cK, .slice ak l.length ck] rfl _ (rsame_self aK cK l gK 0 csK _ ak ck gq oq kcs tk _ (by omega) hKE (hK8 _ sA)) ?_
            intro z27010 k
            simp only [Act.put, pu]
            replace r11 := k.row r11 (by simp <;> omega)
            replace hO := hO.on k (own_ne0 _)
            replace hA := hA.below k.nil
            replace hKE := hKE.below k.nil
            replace sA := sA.trans (k.below z8006.heap.size sA.size (by simp <;> omega))
            clear k
            refine pw_value (by rfl) (.bool false) (exec_not _ _ rfl true rfl) ?_
            simp only [Act.put, pu]
            refine pw_pick (by rfl) false (v := .bool false) rfl rfl rfl ?_
            simp only [Act.put, pu]
            refine pw_nil ?_
            clear hKE hK8
            have hg11 : g11 ∉ B := fun h9 => by have := hBlt _ h9; omega
            have hRf : RfAt z27010 (g11 :: B) ak ae l E := by
             obtain ⟨a9, c9, gb9, cur9, h7, h8, h9⟩ := ownE_elsB (inC_size E) hO
             obtain ⟨rfl, _, rfl⟩ := Value.slice.inj h7
             refine ⟨gq, oq, kcs, tk, gb9, 0, cur9, _, HK8.out.below sA, h8, ?_, ?_⟩
             ·rcases HK.out.at' with h6 | ⟨_, h6, _⟩
              ·exact .inl h6
              ·have h5 := h6.lt
               have hzz := HSD.out.size
               have hcc := HC.out
               refine .inr fun hm => ?_
               rcases List.mem_cons.1 hm with h4 | h4
               ·omega
               ·have := hBlo _ h4; omega
             ·by_cases hEz : E.length = 0
              ·exact .inl hEz
              ·have h9 := h9.resolve_left hEz
               refine .inr fun hm => ?_
               rcases List.mem_cons.1 hm with h4 | h4
               ·rcases h8.at' with h3 | ⟨h3, _, _⟩
                ·exact absurd h3 hEz
                ·exact ehOx11 (by rw [h3, h4]; rfl)
               ·have := hBlt _ h4; omega
            have sd := below_on HSD.out (Nat.le_refl _) sA
            have hbs : z0.heap.size ≤ g11 := Nat.le_trans HSD.out.size b11
            have hbase := HC.out
            (repeat ((fail_if_success with_reducible refine rg ?_); go_step))
            refine wp_region_pw ?_
            refine pw_value (by rfl) (.int .i64 1) (fun _ => rfl) ?_
            simp only [Act.put, pu]
            refine pw_nil ?_
            clear hO sA ehOx11 HEE HB0 HB1 HBO HFT9
            obtain ⟨ib, hib9, hib2, hib3⟩ := info_u8k
            have q5 : ¬ 1 * ib.size > 2 ^ 24 := by rw [hib3]; decide
            have q6 : ¬ 1 * ib.size = 0 := by rw [hib3]; decide
            have ql5 := fun a => lit_b1 a ib.size hib3
            clear hib3
            go_wp2_with fail
            go_loopg [6, 15, 16, 17, 18, 19, 20, 21, 22] (n + m).toNat (fun x s6 s15 s16 s17 s18 s19 s20 s21 s22 wr => ∃ (i : Nat) (ks : List Ky) (U : Int → Int) (us : List Ky) (es : List Int) (B : List Nat) (a1 : Option Addr) (c1 : Nat) (a2 : Option Addr) (c2 : Nat), i + x = (n + m).toNat + 1 ∧ 1 ≤ i ∧ s15 = .int .i64 i ∧ SpAt wr bs g8 n m ks U B ∧ Row wr g11 (sxC n m (.slice a1 us.length c1) (.slice a2 es.length c2)) 33 ∧ RfAt wr (g11 :: B) a1 a2 us es ∧ g11 ∉ B ∧ SRel ks U us es ∧ ks.length ≤ 20 + i ∧ us.length ≤ 20 + i ∧ Below z0.heap.size z0 wr)
            case atStart => exact ⟨1, l, UFj zs zs.length, l, E, B, ak, ck, ae, ce, by omega, Nat.le_refl _, rfl, hA, r11, hRf, hg11, HRL.out, by omega, by omega, sd⟩
            case round =>
             clear sd r11 hA hg11 hRf HRL hBlt hBlo B
             obtain ⟨i, ks, U, us, es, B, a1, c1, a2, c2, hi, hi1, rfl, hA, r11, hR, hg11, hrel', hki, hui, sd⟩ := hrel
             have HV : Hid (SRel ks U us es) := hrel'
             have hel := hrel'.len
             clear hrel'
             have r3 := HR3.out.belowAll sd
             cases gk with
             | zero =>
              have h10 : ¬ (i : Int) ≤ n + m := by omega
              (repeat ((fail_if_success with_reducible refine rg ?_); go_step))
              refine wp_region_pw ?_
              refine pw_mv (by rfl) rfl rfl ?_
              simp only [Act.put, pu]
              refine pw_value (by rfl) (.pointer (some ⟨g3, 0, none⟩)) (exec_index 22 _ _ rfl g3 rfl 0 2 rfl (by decide) _ Try.underlying22 Try.sizeOf3) ?_
              simp only [Act.put, pu]
              refine pw_loadk (by rfl) 3 _ rfl _ (0) rfl r3.r (.int .i64 n) rfl Try.isAgg3 ?_
              simp only [Act.put, pu]
              refine pw_value (by rfl) (.pointer (some ⟨g3, 1, none⟩)) (exec_index 22 _ _ rfl g3 rfl 1 2 rfl (by decide) _ Try.underlying22 Try.sizeOf3) ?_
              simp only [Act.put, pu]
              refine pw_loadk (by rfl) 3 _ rfl _ (1) rfl r3.r (.int .i64 m) rfl Try.isAgg3 ?_
              simp only [Act.put, pu]
              refine pw_value (by rfl) (.int .i64 (n + m)) (x_addz _ _ _ _ rfl (n) (m) (n + m) rfl rfl (by omega) (by omega) (by omega)) ?_
              simp only [Act.put, pu]
              refine pw_value (by rfl) (.bool false) (exec_leq_i _ _ _ _ rfl ((i : Nat)) (n + m) rfl rfl false (decide_eq_false h10)) ?_
              simp only [Act.put, pu]
              refine pw_nil ?_
              (repeat ((fail_if_success with_reducible refine rg ?_); go_step))
              refine wp_region_pw ?_
              refine pw_callB (by rfl) 8 _ _ rfl Try.func8 (by kernel_rfl) #[] rfl _ (awake_any _) ?_
              intro z37000 k
              simp only [Act.put, pu]
              replace sd := sd.trans (k.below z0.heap.size sd.size (by simp <;> omega))
              clear k
              refine pw_as (by rfl) rfl rfl ?_
              simp only [Act.put, pu]
              refine pw_nil ?_
              go_wp2
              go_ret
              exact ⟨rfl, below_on HS0.out (Nat.le_refl _) sd⟩
             | succ y =>
              have h10 : (i : Int) ≤ n + m := by omega
              have hi11 : i ≤ 11 := by omega
              have hbo := both_open (n := n) (m := m) HV.out [UInt8.ofNat (97 + i)] (i : Nat)
              have hv2 := HV.out.opn n m [UInt8.ofNat (97 + i)] (i : Nat)
              have hlk := opK_len (n := n) (m := m) (l := ks) (u := U (i : Nat)) (x := [UInt8.ofNat (97 + i)]) (e := (i : Nat))
              have hlu := opL_len (n := n) (m := m) (us := us) (es := es) (x := [UInt8.ofNat (97 + i)]) (e := (i : Nat))
              have hRO := fun (S : List Nat) wa (h : RfAt wa S a1 a2 us es) (hs : ∀ b ∈ S, b < wa.heap.size) => ropn_any n m a1 c1 us a2 c2 es S [UInt8.ofNat (97 + i)] (i : Nat) wa h hs (by omega) (by omega) (by simp) k1 k7 k2 k4
              have hPO := fun wa (h : SpAt wa bs g8 n m ks U B) => opn_any h (Nat.le_of_lt (Nat.lt_of_le_of_lt (h.lo _ h.mem) h.glt)) [UInt8.ofNat (97 + i)] (i : Nat) (by omega) (by simp)
              rw [hbo.1, hbo.2.1, hbo.2.2] at hRO
              obtain ⟨PP, hPP⟩ : ∃ PP, opP n m ks (U (i : Nat)) [UInt8.ofNat (97 + i)] (i : Nat) = PP := ⟨_, rfl⟩
              obtain ⟨FF, hFF⟩ : ∃ FF, opF n m ks (U (i : Nat)) [UInt8.ofNat (97 + i)] (i : Nat) = FF := ⟨_, rfl⟩
              obtain ⟨EE, hEE⟩ : ∃ EE, opE n m ks (U (i : Nat)) [UInt8.ofNat (97 + i)] (i : Nat) = EE := ⟨_, rfl⟩
              obtain ⟨ks2, hk2⟩ : ∃ ks2, opK n m ks (U (i : Nat)) [UInt8.ofNat (97 + i)] (i : Nat) = ks2 := ⟨_, rfl⟩
              obtain ⟨U2, hU2⟩ : ∃ U2, opU n m ks U [UInt8.ofNat (97 + i)] (i : Nat) = U2 := ⟨_, rfl⟩
              obtain ⟨us2, hu2⟩ : ∃ us2, opL n m us es [UInt8.ofNat (97 + i)] (i : Nat) = us2 := ⟨_, rfl⟩
              obtain ⟨es2, he2⟩ : ∃ es2, opS n m us es [UInt8.ofNat (97 + i)] (i : Nat) = es2 := ⟨_, rfl⟩
              rw [hPP, hFF, hEE, hu2, he2] at hRO
              rw [hPP, hFF, hEE, hk2, hU2] at hPO
              rw [hk2, hU2, hu2, he2] at hv2
              rw [hk2] at hlk
              rw [hu2] at hlu
              have HV2 : Hid (SRel ks2 U2 us2 es2) := hv2
              have hel2 := hv2.len
              have hFF2 : (FF != FF) = false := by cases FF <;> rfl
              have hki2 : ks2.length ≤ 20 + (i + 1) := by omega
              have hui2 : us2.length ≤ 20 + (i + 1) := by omega
              have hlo := hA.lo
              clear hbo hPP hFF hEE hk2 hU2 hu2 he2 hlk hlu hv2 HV
              (repeat ((fail_if_success with_reducible refine rg ?_); go_step))
              refine wp_region_pw ?_
              refine pw_mv (by rfl) rfl rfl ?_
              simp only [Act.put, pu]
              refine pw_value (by rfl) (.pointer (some ⟨g3, 0, none⟩)) (exec_index 22 _ _ rfl g3 rfl 0 2 rfl (by decide) _ Try.underlying22 Try.sizeOf3) ?_
              simp only [Act.put, pu]
              refine pw_loadk (by rfl) 3 _ rfl _ (0) rfl r3.r (.int .i64 n) rfl Try.isAgg3 ?_
              simp only [Act.put, pu]
              refine pw_value (by rfl) (.pointer (some ⟨g3, 1, none⟩)) (exec_index 22 _ _ rfl g3 rfl 1 2 rfl (by decide) _ Try.underlying22 Try.sizeOf3) ?_
              simp only [Act.put, pu]
              refine pw_loadk (by rfl) 3 _ rfl _ (1) rfl r3.r (.int .i64 m) rfl Try.isAgg3 ?_
              simp only [Act.put, pu]
              refine pw_value (by rfl) (.int .i64 (n + m)) (x_addz _ _ _ _ rfl (n) (m) (n + m) rfl rfl (by omega) (by omega) (by omega)) ?_
              simp only [Act.put, pu]
              refine pw_value (by rfl) (.bool true) (exec_leq_i _ _ _ _ rfl ((i : Nat)) (n + m) rfl rfl true (decide_eq_true h10)) ?_
              simp only [Act.put, pu]
              refine pw_nil ?_
              clear r3
              (repeat ((fail_if_success with_reducible refine rg ?_); go_step))
              refine wp_region_pw ?_
              refine pw_loadm (by rfl) 33 _ rfl _ 0 rfl r11.r _ (part_all _) _ Try.underlying33 rfl (by rw [sxC_size]; exact size_rf) ?_
              simp only [Act.put, pu]
              refine pw_mv (by rfl) rfl rfl ?_
              simp only [Act.put, pu]
              refine pw_value (by rfl) (.int .i64 (((97 + i : Nat) : Int))) (x_addz _ _ _ _ rfl (97) ((i : Nat)) (((97 + i : Nat) : Int)) rfl rfl (by omega) (by omega) (by omega)) ?_
              simp only [Act.put, pu]
              refine pw_value (by rfl) (.int .u8 ((97 + i : Nat) : Int)) (y_conv _ _ _ rfl .i64 .u8 Try.underlying3 Try.underlying5 ((97 + i : Nat) : Int) _ rfl (wr8k _ (by omega))) ?_
              simp only [Act.put, pu]
              refine pw_litr (by rfl) 53 5 1 _ rfl #[.int .u8 ((97 + i : Nat) : Int)] ib _ Try.underlying53 hib9 hib2 q5 q6 [(0, .int .u8 ((97 + i : Nat) : Int))] rfl (ql5 _) ?_
              intro gK z32004 n0 rK k
              simp only [Act.put, pu]
              have d11xK := Nat.lt_of_lt_of_le r11.lt n0
              have bK := Nat.le_trans sd.size n0
              clear n0
              replace r11 := k.row r11 (by simp <;> omega)
              replace hA := hA.below k.nil
              replace hR := hR.below k.nil
              replace sd := sd.trans (k.below z0.heap.size sd.size (by simp <;> omega))
              clear k
              refine pw_run (by rfl) (.string ⟨[UInt8.ofNat (97 + i)].toArray⟩) _ (y_str _ rfl gK 0 1 1 [UInt8.ofNat (97 + i)] rfl rfl _ rK.r (cell_b1 _ (by omega))) ?_
              simp only [Act.put, pu]
              refine pw_mv (by rfl) rfl rfl ?_
              simp only [Act.put, pu]
              refine pw_callE (by rfl) 10 _ _ rfl Try.func10 (by kernel_rfl) #[.agg (sxC n m (.slice a1 us.length c1) (.slice a2 es.length c2)), .string ⟨[UInt8.ofNat (97 + i)].toArray⟩, .int .i64 (i : Nat)] rfl (hRO (g11 :: B) _ hR (fun b hb => (List.mem_cons.1 hb).elim (fun e => by rw [e]; exact r11.lt) (hA.lt b))) ?_
              rintro _ z32007 ⟨c3, c4, a3, a4, rfl, hN, hb⟩
              refine ⟨_, rfl, ?_⟩
              simp only [Act.put, pu]
              have k := Kept.ofBelow hb
              clear hb
              replace r11 := k.row r11 (by simp <;> omega)
              replace hA := hA.below k.nil
              replace hR := hR.below k.nil
              replace rK := k.row rK (by simp <;> omega)
              replace sd := sd.trans (k.below z0.heap.size sd.size (by simp <;> omega))
              clear k
              refine pw_mv (by rfl) rfl rfl ?_
              simp only [Act.put, pu]
              refine pw_ext (by rfl) rfl rfl rfl ?_
              simp only [Act.put, pu]
              refine pw_ext (by rfl) rfl rfl rfl ?_
              simp only [Act.put, pu]
              refine pw_ext (by rfl) rfl rfl rfl ?_
              simp only [Act.put, pu]
              refine pw_ext (by rfl) rfl rfl rfl ?_
              simp only [Act.put, pu]
              refine pw_new (by rfl) 33 rfl _ zero_rf ?_
              intro g16 zN n16 r16 k9
              simp only [Act.put, pu]
              have h16B : g16 ∉ B := fun h9 => by have := hA.lt _ h9; omega
              have d16 : g16 ≠ g11 := fun h9 => by have := r11.lt; omega
              have b16 := Nat.le_trans sd.size n16
              replace r11 := k9.row r11 (by simp)
              replace hA := hA.below k9.nil
              replace hN := hN.on (S2 := g16 :: g11 :: B) k9 (by simp) (fun b hb => (List.mem_cons.1 hb).elim (fun e => .inr (e ▸ n16)) .inl)
              replace sd := sd.trans (k9.below z0.heap.size sd.size (by simp))
              clear k9 n16
              refine pw_put (by rfl) 33 _ _ rfl _ rfl r16 (sxC n m (.slice a3 us2.length c3) (.slice a4 es2.length c4)) rfl size_rf rfl (sx_one _ _ _ _ rfl rfl) ?_
              clear r16
              intro zP r16 k9
              simp only [Act.put]
              replace r11 := k9.row r11 (by simp; exact fun e => d16 e.symm)
              replace hA := hA.on k9 (fun b hb h9 => h16B (List.mem_singleton.1 h9 ▸ hb))
              replace hN := hN.on (S2 := g16 :: g11 :: B) k9 (by simp) (fun b hb => .inl hb)
              replace sd := sd.trans (k9.below z0.heap.size sd.size (by simp; exact b16))
              clear k9
              refine pw_as (by rfl) rfl rfl ?_
              simp only [Act.put, pu]
              refine pw_as (by rfl) rfl rfl ?_
              simp only [Act.put, pu]
              refine pw_as (by rfl) rfl rfl ?_
              simp only [Act.put, pu]
              refine pw_nil ?_
              (repeat ((fail_if_success with_reducible refine rg ?_); go_step))
              refine wp_region_pw ?_
              refine pw_mv (by rfl) rfl rfl ?_
              simp only [Act.put, pu]
              refine pw_mv (by rfl) rfl rfl ?_
              simp only [Act.put, pu]
              refine pw_value (by rfl) (.int .i64 (((97 + i : Nat) : Int))) (x_addz _ _ _ _ rfl (97) ((i : Nat)) (((97 + i : Nat) : Int)) rfl rfl (by omega) (by omega) (by omega)) ?_
              simp only [Act.put, pu]
              refine pw_value (by rfl) (.int .u8 ((97 + i : Nat) : Int)) (y_conv _ _ _ rfl .i64 .u8 Try.underlying3 Try.underlying5 ((97 + i : Nat) : Int) _ rfl (wr8k _ (by omega))) ?_
              simp only [Act.put, pu]
              refine pw_litr (by rfl) 53 5 1 _ rfl #[.int .u8 ((97 + i : Nat) : Int)] ib _ Try.underlying53 hib9 hib2 q5 q6 [(0, .int .u8 ((97 + i : Nat) : Int))] rfl (ql5 _) ?_
              intro gJ z33004 n0 rJ k
              simp only [Act.put, pu]
              have d11xJ := Nat.lt_of_lt_of_le r11.lt n0
              have d16xJ := Nat.lt_of_lt_of_le r16.lt n0
              have bJ := Nat.le_trans sd.size n0
              clear n0
              replace r11 := k.row r11 (by simp <;> omega)
              replace r16 := k.row r16 (by simp <;> omega)
              replace hA := hA.below k.nil
              replace hN := hN.below k.nil
              replace sd := sd.trans (k.below z0.heap.size sd.size (by simp <;> omega))
              clear k
              refine pw_run (by rfl) (.string ⟨[UInt8.ofNat (97 + i)].toArray⟩) _ (y_str _ rfl gJ 0 1 1 [UInt8.ofNat (97 + i)] rfl rfl _ rJ.r (cell_b1 _ (by omega))) ?_
              simp only [Act.put, pu]
              refine pw_mv (by rfl) rfl rfl ?_
              simp only [Act.put, pu]
              refine pw_callE (by rfl) 11 _ _ rfl Try.func11 (by kernel_rfl) #[.pointer (some ⟨g8, 0, none⟩), .string ⟨[UInt8.ofNat (97 + i)].toArray⟩, .int .i64 (i : Nat)] rfl (hPO _ hA) ?_
              have c11 := r11.lt
              have c16 := r16.lt
              rintro _ zQ ⟨B2, rfl, hA2, k9, hB2⟩
              refine ⟨_, rfl, ?_⟩
              simp only [Act.put, pu]
              replace r11 := k9.row r11 hg11
              replace r16 := k9.row r16 h16B
              replace hN := hN.on k9 (S2 := g16 :: g11 :: B2) (fun b hb => List.mem_cons_of_mem _ (List.mem_cons_of_mem _ hb)) (fun b hb => mem_grow hB2 hb)
              have h11B : g11 ∉ B2 := fun h => (hB2 _ h).elim hg11 fun h => by omega
              replace sd := sd.trans (k9.below z0.heap.size sd.size (fun b hb => Nat.le_trans HC.out (hlo b hb)))
              clear hA k9 hB2 hg11 h16B c11 c16
              refine pw_mv (by rfl) rfl rfl ?_
              simp only [Act.put, pu]
              refine pw_ext (by rfl) rfl rfl rfl ?_
              simp only [Act.put, pu]
              refine pw_ext (by rfl) rfl rfl rfl ?_
              simp only [Act.put, pu]
              refine pw_ext (by rfl) rfl rfl rfl ?_
              simp only [Act.put, pu]
              refine pw_as (by rfl) rfl rfl ?_
              simp only [Act.put, pu]
              refine pw_as (by rfl) rfl rfl ?_
              simp only [Act.put, pu]
              refine pw_as (by rfl) rfl rfl ?_
              simp only [Act.put, pu]
              refine pw_nil ?_
              have hu3 := fun w' (hb : Below _ _ w') => rusd_at (hN.below hb) n m c3 c4 (i : Nat) (by omega)
              rw [← HV2.out.used (i : Nat)] at hu3
              (repeat ((fail_if_success with_reducible refine rg ?_); go_step))
              refine wp_region_qw (by kernel_rfl) (by kernel_rfl) ?_
              refine qw_move (by rfl) rfl rfl ?_
              simp only [Act.put, pu]
              refine qw_move (by rfl) rfl rfl ?_
              simp only [Act.put, pu]
              refine qw_value (by rfl) (.bool false) (exec_neq_k .i64 _ _ _ _ rfl ((PP : Nat)) ((PP : Nat)) rfl rfl false (by rw [decide_eq_true rfl]; rfl)) ?_
              simp only [Act.put, pu]
              refine qw_move (by rfl) rfl rfl ?_
              simp only [Act.put, pu]
              refine qw_move (by rfl) rfl rfl ?_
              simp only [Act.put, pu]
              refine qw_move (by rfl) rfl rfl ?_
              simp only [Act.put, pu]
              refine qw_value (by rfl) (.bool false) (x_nb _ _ _ _ rfl FF FF rfl rfl Try.underlying4 false hFF2) ?_
              simp only [Act.put, pu]
              refine qw_pick false (v := .bool false) (by rfl) rfl rfl rfl ?_
              simp only [Act.put, pu]
              refine qw_move (by rfl) rfl rfl ?_
              simp only [Act.put, pu]
              refine qw_move (by rfl) rfl rfl ?_
              simp only [Act.put, pu]
              refine qw_move (by rfl) rfl rfl ?_
              simp only [Act.put, pu]
              refine qw_value (by rfl) (.bool false) (exec_neq_k .i64 _ _ _ _ rfl (EE) (EE) rfl rfl false (by rw [decide_eq_true rfl]; rfl)) ?_
              simp only [Act.put, pu]
              refine qw_pick false (v := .bool false) (by rfl) rfl rfl rfl ?_
              simp only [Act.put, pu]
              refine qw_move (by rfl) rfl rfl ?_
              simp only [Act.put, pu]
              refine qw_move (by rfl) rfl rfl ?_
              simp only [Act.put, pu]
              refine qw_move (by rfl) rfl rfl ?_
              simp only [Act.put, pu]
              refine qw_callK (by rfl) 14 _ _ rfl Try.func14 (by kernel_rfl) #[.pointer (some ⟨g8, 0, none⟩), .int .i64 (i : Nat)] rfl _ (fun w' hb => usd_at (hA2.below hb) (i : Nat)) ?_
              simp only [Act.put, pu]
              refine qw_loadm (by rfl) 33 _ rfl _ (0) rfl r16 ((sxC n m (.slice a3 us2.length c3) (.slice a4 es2.length c4))) (part_all _) _ Try.underlying33 rfl (by rw [sxC_size]; exact size_rf) ?_
              simp only [Act.put, pu]
              refine qw_move (by rfl) rfl rfl ?_
              simp only [Act.put, pu]
              refine qw_callK (by rfl) 15 _ _ rfl Try.func15 (by kernel_rfl) #[.agg (sxC n m (.slice a3 us2.length c3) (.slice a4 es2.length c4)), .int .i64 (i : Nat)] rfl _ (fun w' hb => hu3 w' hb) ?_
              simp only [Act.put, pu]
              refine qw_value (by rfl) (.bool false) (exec_neq_k .i64 _ _ _ _ rfl (U2 (i : Nat)) (U2 (i : Nat)) rfl rfl false (by rw [decide_eq_true rfl]; rfl)) ?_
              simp only [Act.put, pu]
              refine qw_pick false (v := .bool false) (by rfl) rfl rfl rfl ?_
              simp only [Act.put, pu]
              refine qw_nil ?_
              intro w9 hqb
              replace r11 := r11.belowAll hqb
              replace r16 := r16.belowAll hqb
              replace hA2 := hA2.belowAll hqb
              replace hN := hN.belowAll hqb
              replace sd := below_on sd (Nat.le_refl _) hqb
              clear hqb
              have sk : Kept [g11] w9 w9 := Kept.refl _ _
              (repeat ((fail_if_success with_reducible refine rg ?_); go_step))
              refine wp_region_pw ?_
              refine pw_loadm (by rfl) 33 _ rfl _ 0 rfl r16.r _ (part_all _) _ Try.underlying33 rfl (by rw [sxC_size]; exact size_rf) ?_
              simp only [Act.put, pu]
              refine pw_put (by rfl) 33 _ _ rfl _ rfl r11 (sxC n m (.slice a3 us2.length c3) (.slice a4 es2.length c4)) rfl (by rw [sxC_size]; exact size_rf) (by simp only [sxC_size]) (sx_one _ _ _ _ (by rfl) (by rfl)) ?_
              clear r11
              intro z36001 r11 k
              simp only [Act.put]
              replace r16 := k.row r16 (by simp <;> omega)
              replace sk := sk.trans k (by simp <;> omega)
              clear k
              refine pw_nil ?_
              replace hA2 := hA2.on sk (fun b hb h9 => h11B (List.mem_singleton.1 h9 ▸ hb))
              replace hN := (hN.on sk (S2 := g16 :: g11 :: B2) (by simp) (fun b hb => .inl hb)).weak (S2 := g11 :: B2) (fun b hb => List.mem_cons_of_mem _ hb)
              replace sd := sd.trans (sk.below _ sd.size (by simp; exact hbs))
              clear sk r16
              (repeat ((fail_if_success with_reducible refine rg ?_); go_step))
              refine wp_region_pw ?_
              refine pw_mv (by rfl) rfl rfl ?_
              simp only [Act.put, pu]
              refine pw_value (by rfl) (.int .i64 (((i + 1 : Nat) : Int))) (x_addz _ _ _ _ rfl ((i : Nat)) (1) (((i + 1 : Nat) : Int)) rfl rfl (by omega) (by omega) (by omega)) ?_
              simp only [Act.put, pu]
              refine pw_as (by rfl) rfl rfl ?_
              simp only [Act.put, pu]
              refine pw_nil ?_
              go_wp2
              go_roundg y
              case measure => omega
              case rel => exact ⟨i + 1, ks2, U2, us2, es2, B2, a3, c3, a4, c4, by omega, by omega, rfl, hA2, r11, hN, h11B, HV2.out, hki2, hui2, sd⟩
end Go.Proofs.Ytchiiphmpkmloaa
