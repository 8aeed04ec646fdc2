/- The document's Put. -/
import Derived.Test.YtdbcikhineghcaaVtRef
namespace Go.Proofs.Ytdbcikhineghcaa
open Go.RowKit
set_option linter.unusedVariables false
set_option linter.unusedSectionVars false
set_option linter.unusedSimpArgs false
theorem own_ne0 (v : Value) : ∀ b, v.ownBlock = some b → b ∉ ([] : List Nat) := fun _ _ h => by cases h
theorem own_ne1 {v : Value} {g : Nat} (h : v.ownBlock ≠ some g) : ∀ b, v.ownBlock = some b → b ∉ [g] := fun b hb hm => by
 rw [List.mem_singleton.1 hm] at hb
 exact h hb
theorem rgo_cons (v : Rv) (O : List Rv) (x : Rv) (r : List Rv) : rgo v O (x :: r) = if rsm x v = false then rgo v (O ++ [x]) r else if v.2.1 ≤ x.2.1 then none else rgo v O r := rfl
/-- What Put hands back: these votes, in a slice that lies at gb, or is new. -/
def RPutR (B0 gb : Nat) (M : List Rv) (B : Bool) (w : World) (e : Ending) (w' : World) : Prop :=
 ∃ ab' c' gb' ob' bcs' tb', e = .returned (.tuple #[.slice ab' M.length c', .bool B]) ∧ ElsAt 4 w' ab' M.length (lsC M) gb' ob' bcs' tb' ∧ (M.length = 0 ∨ gb' = gb ∨ B0 ≤ gb') ∧ Below B0 w w'
set_option maxRecDepth 100000 in
set_option maxHeartbeats 2000000 in
theorem rput_no (ab : Option Addr) (c : Nat) (L : List Rv) (gb ob : Nat) (bcs : Array Value) (tb : TypeId) (nn : Int) (v : Rv) (w : World) (hz : ElsAt 4 w ab L.length (lsC L) gb ob bcs tb) (h : rokB nn v = false) :
  Calls Try.prog 9 #[.slice ab L.length c, .int .i64 nn, .agg (rvA v)] w (RPutR w.heap.size gb L false w) := by
 have HB : Hid (ElsAt 4 w ab L.length (lsC L) gb ob bcs tb) := hz
 have hY := fun w' => rsmay_any v.2.1 v.2.2.1 w'
 clear hz
 by_cases h0 : v.1 < 1
 ·clear h hY
  go_enter Try.func9, Try.ntmps9
  have sb := sbmk w
  (repeat ((fail_if_success with_reducible refine rg ?_); go_step))
  refine wp_region_pw ?_
  refine pw_boxr (by rfl) 34 _ rfl (rvA v) rfl ?_
  intro g5 z0 n0 r5 k
  simp only [Act.put, pu]
  have b5 := Nat.le_trans sb.size n0
  clear n0
  replace sb := sb.trans (k.below w.heap.size sb.size (by simp <;> omega))
  clear k
  refine pw_value (by rfl) (.slice none 0 0) (fun _ => rfl) ?_
  simp only [Act.put, pu]
  refine pw_value (by rfl) (.bool false) (fun _ => rfl) ?_
  simp only [Act.put, pu]
  refine pw_nil ?_
  (repeat ((fail_if_success with_reducible refine rg ?_); go_step))
  refine wp_region_pw ?_
  refine pw_value (by rfl) (.pointer (some ⟨g5, 0, none⟩)) (exec_field 34 _ 0 rfl g5 (0) rfl _ Try.underlying34 _ rfl 0 Try.sizeOf3) ?_
  simp only [Act.put, pu]
  refine pw_loadk (by rfl) 3 _ rfl _ (0) rfl r5.r (.int .i64 v.1) rfl Try.isAgg3 ?_
  simp only [Act.put, pu]
  refine pw_value (by rfl) (.bool true) (exec_lt_b _ _ _ _ rfl (v.1) (1) rfl rfl true (decide_eq_true (by omega))) ?_
  simp only [Act.put, pu]
  refine pw_mv (by rfl) rfl rfl ?_
  simp only [Act.put, pu]
  refine pw_skip (by rfl) ?_
  simp only [Act.put, pu]
  refine pw_skip (by rfl) ?_
  simp only [Act.put, pu]
  refine pw_skip (by rfl) ?_
  simp only [Act.put, pu]
  refine pw_skip (by rfl) ?_
  simp only [Act.put, pu]
  refine pw_pick (by rfl) true (v := .bool true) rfl rfl rfl ?_
  simp only [Act.put, pu]
  refine pw_mv (by rfl) rfl rfl ?_
  simp only [Act.put, pu]
  refine pw_skip (by rfl) ?_
  simp only [Act.put, pu]
  refine pw_skip (by rfl) ?_
  simp only [Act.put, pu]
  refine pw_skip (by rfl) ?_
  simp only [Act.put, pu]
  refine pw_skip (by rfl) ?_
  simp only [Act.put, pu]
  refine pw_pick (by rfl) true (v := .bool true) rfl rfl rfl ?_
  simp only [Act.put, pu]
  refine pw_nil ?_
  (repeat ((fail_if_success with_reducible refine rg ?_); go_step))
  refine wp_region_pw ?_
  refine pw_mv (by rfl) rfl rfl ?_
  simp only [Act.put, pu]
  refine pw_as (by rfl) rfl rfl ?_
  simp only [Act.put, pu]
  refine pw_value (by rfl) (.bool false) (fun _ => rfl) ?_
  simp only [Act.put, pu]
  refine pw_nil ?_
  go_wp2
  go_ret2
  exact ⟨ab, c, gb, ob, bcs, tb, rfl, HB.out.below sb, .inr (.inl rfl), sb⟩
 by_cases h1 : nn < v.1
 ·clear h hY
  go_enter Try.func9, Try.ntmps9
  have sb := sbmk w
  (repeat ((fail_if_success with_reducible refine rg ?_); go_step))
  refine wp_region_pw ?_
  refine pw_boxr (by rfl) 34 _ rfl (rvA v) rfl ?_
  intro g5 z0 n0 r5 k
  simp only [Act.put, pu]
  have b5 := Nat.le_trans sb.size n0
  clear n0
  replace sb := sb.trans (k.below w.heap.size sb.size (by simp <;> omega))
  clear k
  refine pw_value (by rfl) (.slice none 0 0) (fun _ => rfl) ?_
  simp only [Act.put, pu]
  refine pw_value (by rfl) (.bool false) (fun _ => rfl) ?_
  simp only [Act.put, pu]
  refine pw_nil ?_
  (repeat ((fail_if_success with_reducible refine rg ?_); go_step))
  refine wp_region_pw ?_
  refine pw_value (by rfl) (.pointer (some ⟨g5, 0, none⟩)) (exec_field 34 _ 0 rfl g5 (0) rfl _ Try.underlying34 _ rfl 0 Try.sizeOf3) ?_
  simp only [Act.put, pu]
  refine pw_loadk (by rfl) 3 _ rfl _ (0) rfl r5.r (.int .i64 v.1) rfl Try.isAgg3 ?_
  simp only [Act.put, pu]
  refine pw_value (by rfl) (.bool false) (exec_lt_b _ _ _ _ rfl (v.1) (1) rfl rfl false (decide_eq_false (by omega))) ?_
  simp only [Act.put, pu]
  refine pw_mv (by rfl) rfl rfl ?_
  simp only [Act.put, pu]
  refine pw_value (by rfl) (.pointer (some ⟨g5, 0, none⟩)) (exec_field 34 _ 0 rfl g5 (0) rfl _ Try.underlying34 _ rfl 0 Try.sizeOf3) ?_
  simp only [Act.put, pu]
  refine pw_loadk (by rfl) 3 _ rfl _ (0) rfl r5.r (.int .i64 v.1) rfl Try.isAgg3 ?_
  simp only [Act.put, pu]
  refine pw_mv (by rfl) rfl rfl ?_
  simp only [Act.put, pu]
  refine pw_value (by rfl) (.bool true) (exec_gt_i _ _ _ _ rfl (v.1) (nn) rfl rfl true (decide_eq_true (by omega))) ?_
  simp only [Act.put, pu]
  refine pw_pick (by rfl) false (v := .bool true) rfl rfl rfl ?_
  simp only [Act.put, pu]
  refine pw_mv (by rfl) rfl rfl ?_
  simp only [Act.put, pu]
  refine pw_skip (by rfl) ?_
  simp only [Act.put, pu]
  refine pw_skip (by rfl) ?_
  simp only [Act.put, pu]
  refine pw_skip (by rfl) ?_
  simp only [Act.put, pu]
  refine pw_skip (by rfl) ?_
  simp only [Act.put, pu]
  refine pw_pick (by rfl) true (v := .bool true) rfl rfl rfl ?_
  simp only [Act.put, pu]
  refine pw_nil ?_
  (repeat ((fail_if_success with_reducible refine rg ?_); go_step))
  refine wp_region_pw ?_
  refine pw_mv (by rfl) rfl rfl ?_
  simp only [Act.put, pu]
  refine pw_as (by rfl) rfl rfl ?_
  simp only [Act.put, pu]
  refine pw_value (by rfl) (.bool false) (fun _ => rfl) ?_
  simp only [Act.put, pu]
  refine pw_nil ?_
  go_wp2
  go_ret2
  exact ⟨ab, c, gb, ob, bcs, tb, rfl, HB.out.below sb, .inr (.inl rfl), sb⟩
 have hm : stB v.2.1 v.2.2.1 = false := by
  unfold rokB at h
  rw [decide_eq_true (by omega)] at h
  exact h
 rw [hm] at hY
 clear h hm
 go_enter Try.func9, Try.ntmps9
 have sb := sbmk w
 (repeat ((fail_if_success with_reducible refine rg ?_); go_step))
 refine wp_region_pw ?_
 refine pw_boxr (by rfl) 34 _ rfl (rvA v) rfl ?_
 intro g5 z0 n0 r5 k
 simp only [Act.put, pu]
 have b5 := Nat.le_trans sb.size n0
 clear n0
 replace sb := sb.trans (k.below w.heap.size sb.size (by simp <;> omega))
 clear k
 refine pw_value (by rfl) (.slice none 0 0) (fun _ => rfl) ?_
 simp only [Act.put, pu]
 refine pw_value (by rfl) (.bool false) (fun _ => rfl) ?_
 simp only [Act.put, pu]
 refine pw_nil ?_
 (repeat ((fail_if_success with_reducible refine rg ?_); go_step))
 refine wp_region_pw ?_
 refine pw_value (by rfl) (.pointer (some ⟨g5, 0, none⟩)) (exec_field 34 _ 0 rfl g5 (0) rfl _ Try.underlying34 _ rfl 0 Try.sizeOf3) ?_
 simp only [Act.put, pu]
 refine pw_loadk (by rfl) 3 _ rfl _ (0) rfl r5.r (.int .i64 v.1) rfl Try.isAgg3 ?_
 simp only [Act.put, pu]
 refine pw_value (by rfl) (.bool false) (exec_lt_b _ _ _ _ rfl (v.1) (1) rfl rfl false (decide_eq_false (by omega))) ?_
 simp only [Act.put, pu]
 refine pw_mv (by rfl) rfl rfl ?_
 simp only [Act.put, pu]
 refine pw_value (by rfl) (.pointer (some ⟨g5, 0, none⟩)) (exec_field 34 _ 0 rfl g5 (0) rfl _ Try.underlying34 _ rfl 0 Try.sizeOf3) ?_
 simp only [Act.put, pu]
 refine pw_loadk (by rfl) 3 _ rfl _ (0) rfl r5.r (.int .i64 v.1) rfl Try.isAgg3 ?_
 simp only [Act.put, pu]
 refine pw_mv (by rfl) rfl rfl ?_
 simp only [Act.put, pu]
 refine pw_value (by rfl) (.bool false) (exec_gt_i _ _ _ _ rfl (v.1) (nn) rfl rfl false (decide_eq_false (by omega))) ?_
 simp only [Act.put, pu]
 refine pw_pick (by rfl) false (v := .bool false) rfl rfl rfl ?_
 simp only [Act.put, pu]
 refine pw_mv (by rfl) rfl rfl ?_
 simp only [Act.put, pu]
 refine pw_value (by rfl) (.pointer (some ⟨g5, 1, none⟩)) (exec_field 34 _ 1 rfl g5 (0) rfl _ Try.underlying34 _ rfl 1 Try.sizeOf32) ?_
 simp only [Act.put, pu]
 refine pw_loadm (by rfl) 32 _ rfl _ (1) rfl r5.r ((tsC v.2.1 v.2.2.1)) (rv_st v) _ Try.underlying32 rfl size_st ?_
 simp only [Act.put, pu]
 refine pw_callB (by rfl) 17 _ _ rfl Try.func17 (by kernel_rfl) #[.agg (tsC v.2.1 v.2.2.1)] rfl _ (hY _) ?_
 intro z1012 k
 simp only [Act.put, pu]
 replace r5 := k.row r5 (by simp <;> omega)
 replace sb := sb.trans (k.below w.heap.size sb.size (by simp <;> omega))
 clear k
 refine pw_value (by rfl) (.bool true) (exec_not _ _ rfl false rfl) ?_
 simp only [Act.put, pu]
 refine pw_pick (by rfl) false (v := .bool true) rfl rfl rfl ?_
 simp only [Act.put, pu]
 refine pw_nil ?_
 (repeat ((fail_if_success with_reducible refine rg ?_); go_step))
 refine wp_region_pw ?_
 refine pw_mv (by rfl) rfl rfl ?_
 simp only [Act.put, pu]
 refine pw_as (by rfl) rfl rfl ?_
 simp only [Act.put, pu]
 refine pw_value (by rfl) (.bool false) (fun _ => rfl) ?_
 simp only [Act.put, pu]
 refine pw_nil ?_
 go_wp2
 go_ret2
 exact ⟨ab, c, gb, ob, bcs, tb, rfl, HB.out.below sb, .inr (.inl rfl), sb⟩
set_option maxRecDepth 100000 in
set_option maxHeartbeats 2000000 in
theorem rput_yes (ab : Option Addr) (c : Nat) (L : List Rv) (gb ob : Nat) (bcs : Array Value) (tb : TypeId) (nn : Int) (v : Rv) (M : List Rv) (B : Bool) (w : World) (hn : L.length ≤ 1000) (hz : ElsAt 4 w ab L.length (lsC L) gb ob bcs tb) (h : rokB nn v = true) (hM : (rgo v [] L).getD L = M) (hB : (rgo v [] L).isSome = B) :
  Calls Try.prog 9 #[.slice ab L.length c, .int .i64 nn, .agg (rvA v)] w (RPutR w.heap.size gb M B w) := by
 have HB : Hid (ElsAt 4 w ab L.length (lsC L) gb ob bcs tb) := hz
 obtain ⟨ie, hie, hze, hsz, hby⟩ := info_rv'
 have hs1 : ¬ 1 * ie.size > 2 ^ 24 := by rw [hsz]; decide
 have hs2 : ¬ 1 * ie.size = 0 := by rw [hsz]; decide
 have hY := fun w' => rsmay_any v.2.1 v.2.2.1 w'
 have hSm := fun x w' => rsm_any x v w'
 unfold rokB at h
 rw [Bool.and_eq_true, decide_eq_true_iff] at h
 obtain ⟨⟨h0, h1⟩, hm⟩ := h
 rw [hm] at hY
 obtain ⟨R, hR⟩ : ∃ R, rgo v [] L = R := ⟨_, rfl⟩
 rw [hR] at hM hB
 have HM : Hid (R.getD L = M) := hM
 have HBB : Hid (R.isSome = B) := hB
 have HR0 : Hid (rgo v [] L = R) := hR
 clear hz hR hM hB hm
 go_enter Try.func9, Try.ntmps9
 have sb := sbmk w
 (repeat ((fail_if_success with_reducible refine rg ?_); go_step))
 refine wp_region_pw ?_
 refine pw_boxr (by rfl) 34 _ rfl (rvA v) rfl ?_
 intro g5 z0 n0 r5 k
 simp only [Act.put, pu]
 have b5 := Nat.le_trans sb.size n0
 clear n0
 replace sb := sb.trans (k.below w.heap.size sb.size (by simp <;> omega))
 clear k
 refine pw_value (by rfl) (.slice none 0 0) (fun _ => rfl) ?_
 simp only [Act.put, pu]
 refine pw_value (by rfl) (.bool false) (fun _ => rfl) ?_
 simp only [Act.put, pu]
 refine pw_nil ?_
 (repeat ((fail_if_success with_reducible refine rg ?_); go_step))
 refine wp_region_pw ?_
 refine pw_value (by rfl) (.pointer (some ⟨g5, 0, none⟩)) (exec_field 34 _ 0 rfl g5 (0) rfl _ Try.underlying34 _ rfl 0 Try.sizeOf3) ?_
 simp only [Act.put, pu]
 refine pw_loadk (by rfl) 3 _ rfl _ (0) rfl r5.r (.int .i64 v.1) rfl Try.isAgg3 ?_
 simp only [Act.put, pu]
 refine pw_value (by rfl) (.bool false) (exec_lt_b _ _ _ _ rfl (v.1) (1) rfl rfl false (decide_eq_false (by omega))) ?_
 simp only [Act.put, pu]
 refine pw_mv (by rfl) rfl rfl ?_
 simp only [Act.put, pu]
 refine pw_value (by rfl) (.pointer (some ⟨g5, 0, none⟩)) (exec_field 34 _ 0 rfl g5 (0) rfl _ Try.underlying34 _ rfl 0 Try.sizeOf3) ?_
 simp only [Act.put, pu]
 refine pw_loadk (by rfl) 3 _ rfl _ (0) rfl r5.r (.int .i64 v.1) rfl Try.isAgg3 ?_
 simp only [Act.put, pu]
 refine pw_mv (by rfl) rfl rfl ?_
 simp only [Act.put, pu]
 refine pw_value (by rfl) (.bool false) (exec_gt_i _ _ _ _ rfl (v.1) (nn) rfl rfl false (decide_eq_false (by omega))) ?_
 simp only [Act.put, pu]
 refine pw_pick (by rfl) false (v := .bool false) rfl rfl rfl ?_
 simp only [Act.put, pu]
 refine pw_mv (by rfl) rfl rfl ?_
 simp only [Act.put, pu]
 refine pw_value (by rfl) (.pointer (some ⟨g5, 1, none⟩)) (exec_field 34 _ 1 rfl g5 (0) rfl _ Try.underlying34 _ rfl 1 Try.sizeOf32) ?_
 simp only [Act.put, pu]
 refine pw_loadm (by rfl) 32 _ rfl _ (1) rfl r5.r ((tsC v.2.1 v.2.2.1)) (rv_st v) _ Try.underlying32 rfl size_st ?_
 simp only [Act.put, pu]
 refine pw_callB (by rfl) 17 _ _ rfl Try.func17 (by kernel_rfl) #[.agg (tsC v.2.1 v.2.2.1)] rfl _ (hY _) ?_
 intro z1012 k
 simp only [Act.put, pu]
 replace r5 := k.row r5 (by simp <;> omega)
 replace sb := sb.trans (k.below w.heap.size sb.size (by simp <;> omega))
 clear k
 refine pw_value (by rfl) (.bool false) (exec_not _ _ rfl true rfl) ?_
 simp only [Act.put, pu]
 refine pw_pick (by rfl) false (v := .bool false) rfl rfl rfl ?_
 simp only [Act.put, pu]
 refine pw_nil ?_
 (repeat ((fail_if_success with_reducible refine rg ?_); go_step))
 refine wp_region_pw ?_
 refine pw_value (by rfl) (.slice none 0 0) (fun _ => rfl) ?_
 simp only [Act.put, pu]
 refine pw_nil ?_
 (repeat ((fail_if_success with_reducible refine rg ?_); go_step))
 refine wp_region_pw ?_
 refine pw_value (by rfl) (.int .i64 0) (fun _ => rfl) ?_
 simp only [Act.put, pu]
 refine pw_nil ?_
 clear hY h0 h1
 go_wp2_with fail
 go_loopg [6, 7, 8, 9] L.length (fun x s6 s7 s8 s9 wr => ∃ (j : Nat) (O : List Rv) (v8 : Value), j + x = L.length ∧ rgo v O (L.drop j) = R ∧ O.length ≤ j ∧ v8 = s8 ∧ s9 = .int .i64 j ∧ OwnE 4 34 wr w.heap.size v8 O.length (lsC O) ∧ v8.ownBlock ≠ some g5 ∧ Row wr g5 (rvA v) 34 ∧ Below w.heap.size w wr)
 case atStart => exact ⟨0, [], .slice none 0 0, by omega, by rw [List.drop_zero]; exact HR0.out, Nat.le_refl _, rfl, rfl, ownE_nil _ _ _ _, by simp [Value.ownBlock], r5, sb⟩
 case round =>
  clear sb r5 HR0
  obtain ⟨j, O, v8, hj, hr, hO2, rfl, rfl, hO, ehOx5, r5, sb⟩ := hrel
  have HR : Hid (rgo v O (L.drop j) = R) := hr
  clear hr
  cases gk with
  | zero =>
   have hjl : j = L.length := by omega
   have HE : Hid (R = some (O ++ [v])) := by have h := HR.out; rw [hjl, List.drop_length] at h; exact h.symm
   have h1 : ¬ (j : Int) < (L.length : Int) := by omega
   have hO3 : O.length ≤ 1000 := by omega
   clear hj hjl HR hO2
   (repeat ((fail_if_success with_reducible refine rg ?_); go_step))
   refine wp_region_pw ?_
   refine pw_mv (by rfl) rfl rfl ?_
   simp only [Act.put, pu]
   refine pw_mv (by rfl) rfl rfl ?_
   simp only [Act.put, pu]
   refine pw_value (by rfl) (.int .i64 (L.length : Nat)) (exec_len_s 22 _ rfl (ab) (L.length) (c) rfl sl_rv) ?_
   simp only [Act.put, pu]
   refine pw_value (by rfl) (.bool false) (exec_lt_b _ _ _ _ rfl ((j : Nat)) ((L.length : Nat)) rfl rfl false (decide_eq_false h1)) ?_
   simp only [Act.put, pu]
   refine pw_nil ?_
   have hli := (lit_rv v ie.size hsz).trans (congrArg some (lsC_end O v).symm)
   replace hO := ownE_congr (D := lsC (O ++ [v])) hO (fun i hi => (lsC_app O [v] hi).symm)
   (repeat ((fail_if_success with_reducible refine rg ?_); go_step))
   refine wp_region_pw ?_
   refine pw_mv (by rfl) rfl rfl ?_
   simp only [Act.put, pu]
   refine pw_loadm (by rfl) 34 _ rfl _ 0 rfl r5.r _ (part_all _) _ Try.underlying34 rfl size_rv ?_
   simp only [Act.put, pu]
   refine pw_litr (by rfl) 22 34 1 _ rfl (lsC (O ++ [v]) O.length) ie _ Try.underlying22 hie hze hs1 hs2 [(0, .agg (rvA v))] rfl hli ?_
   intro gA z11002 n0 rA k
   simp only [Act.put, pu]
   have d5xA := Nat.lt_of_lt_of_le r5.lt n0
   have ehOxA := hO.new n0
   have bA := Nat.le_trans sb.size n0
   clear n0
   replace r5 := k.row r5 (by simp <;> omega)
   replace hO := hO.on k (own_ne0 _)
   replace sb := sb.trans (k.below w.heap.size sb.size (by simp <;> omega))
   clear k
   refine pw_appE (by rfl) _ _ (22) rfl (w.heap.size) 34 ie _ 4 40 Try.underlying22 hie hze hsz hby rfl (by decide) (by decide) (_) (O.length) (lsC (O ++ [v])) ((lsC_size _)) rfl hO gA _ rfl rA (lsC_one _ _) ((by omega)) sb.size ?_
   have h0 := hO
   clear hO
   intro v1 z11003 hO k hp
   simp only [Act.put, pu]
   have cr5 := r5.lt
   replace r5 := k.row r5 (by first | exact own_nin ehOx5 | exact own_nin (h0.low (by omega)))
   (try replace ehOx5 := own_apart hp cr5 ehOx5)
   clear cr5
   clear hp
   replace sb := sb.trans (k.below w.heap.size sb.size h0.base)
   clear h0
   clear k
   refine pw_as (by rfl) rfl rfl ?_
   simp only [Act.put, pu]
   refine pw_nil ?_
   (repeat ((fail_if_success with_reducible refine rg ?_); go_step))
   refine wp_region_pw ?_
   refine pw_mv (by rfl) rfl rfl ?_
   simp only [Act.put, pu]
   refine pw_as (by rfl) rfl rfl ?_
   simp only [Act.put, pu]
   refine pw_value (by rfl) (.bool true) (fun _ => rfl) ?_
   simp only [Act.put, pu]
   refine pw_nil ?_
   go_wp2
   go_ret2
   have eM : M = O ++ [v] := by rw [← HM.out, HE.out]; rfl
   have eB : B = true := by rw [← HBB.out, HE.out]; rfl
   rw [eM, eB]
   obtain ⟨ab', c', gb', cur, e, hels, hge⟩ := ownE_elsB (lsC_size _) hO
   subst e
   rw [show O.length + 1 = (O ++ [v]).length by simp] at hels hge ⊢
   exact ⟨ab', c', gb', 0, cur, _, rfl, hels, hge.imp id .inr, sb⟩
  | succ y =>
   have hlt : j < L.length := by omega
   obtain h0 | ⟨rfl, rB, hbt⟩ := (HB.out.below sb).at'
   ·exact absurd h0 (by omega)
   obtain ⟨x, _, hx, hdr⟩ := ls_at hlt
   have hbx := hbt j hlt
   rw [hx] at hbx
   have hsq := (rv_part rfl hbx).2.1
   have HD : Hid (L.drop j = x :: L.drop (j + 1)) := hdr
   have HHx : Hid (∀ j' v, (rvA x).toList[j']? = some v → bcs[ob + j * 4 + j']? = some v) := hbx
   have HSQ : Hid (bcs[ob + j * 4 + 1]? = some (.int .i64 x.2.1)) := hsq
   replace hSm := hSm x
   clear hbt hx hdr hsq
   (repeat ((fail_if_success with_reducible refine rg ?_); go_step))
   refine wp_region_pw ?_
   refine pw_mv (by rfl) rfl rfl ?_
   simp only [Act.put, pu]
   refine pw_mv (by rfl) rfl rfl ?_
   simp only [Act.put, pu]
   refine pw_value (by rfl) (.int .i64 (L.length : Nat)) (exec_len_s 22 _ rfl (some ⟨gb, ob, none⟩) (L.length) (c) rfl sl_rv) ?_
   simp only [Act.put, pu]
   refine pw_value (by rfl) (.bool true) (exec_lt_b _ _ _ _ rfl ((j : Nat)) ((L.length : Nat)) rfl rfl true (decide_eq_true (by omega))) ?_
   simp only [Act.put, pu]
   refine pw_nil ?_
   cases hs : rsm x v with
   | false =>
    rw [hs] at hSm
    have HX : Hid (rsm x v = false) := hs
    clear hs
    (repeat ((fail_if_success with_reducible refine rg ?_); go_step))
    refine wp_region_qw (by kernel_rfl) (by kernel_rfl) ?_
    refine qw_move (by rfl) rfl rfl ?_
    simp only [Act.put, pu]
    refine qw_move (by rfl) rfl rfl ?_
    simp only [Act.put, pu]
    refine qw_value (by rfl) (.pointer (some ⟨gb, ob + j * 4, none⟩)) ((exec_index_s 22 _ _ rfl gb ob (L.length) (c) rfl (j) rfl (hlt) _ Try.underlying22 4 Try.sizeOf34)) ?_
    simp only [Act.put, pu]
    refine qw_loadmR (by rfl) 34 _ rfl _ (ob + j * 4) rfl rB ((rvA x)) HHx.out _ Try.underlying34 rfl size_rv ?_
    simp only [Act.put, pu]
    refine qw_loadm (by rfl) 34 _ rfl _ (0) rfl r5 ((rvA v)) (part_all _) _ Try.underlying34 rfl size_rv ?_
    simp only [Act.put, pu]
    refine qw_call (by rfl) 18 _ _ rfl Try.func18 (by kernel_rfl) #[.agg (rvA x), .agg (rvA v)] rfl _ hSm ?_
    simp only [Act.put, pu]
    refine qw_value (by rfl) (.bool true) (exec_not _ _ rfl false rfl) ?_
    simp only [Act.put, pu]
    refine qw_nil ?_
    intro w9 hqb
    replace r5 := r5.belowAll hqb
    replace hO := hO.on (Kept.ofBelow hqb) (own_ne0 _)
    replace sb := below_on sb (Nat.le_refl _) hqb
    clear hqb
    clear rB
    have hli := (lit_rv x ie.size hsz).trans (congrArg some (lsC_end O x).symm)
    replace hO := ownE_congr (D := lsC (O ++ [x])) hO (fun i hi => (lsC_app O [x] hi).symm)
    obtain h0 | ⟨_, rB, _⟩ := (HB.out.below sb).at'
    ·exact absurd h0 (by omega)
    (repeat ((fail_if_success with_reducible refine rg ?_); go_step))
    refine wp_region_pw ?_
    refine pw_mv (by rfl) rfl rfl ?_
    simp only [Act.put, pu]
    refine pw_mv (by rfl) rfl rfl ?_
    simp only [Act.put, pu]
    refine pw_mv (by rfl) rfl rfl ?_
    simp only [Act.put, pu]
    refine pw_value (by rfl) (.pointer (some ⟨gb, ob + j * 4, none⟩)) ((exec_index_s 22 _ _ rfl gb ob (L.length) (c) rfl (j) rfl (hlt) _ Try.underlying22 4 Try.sizeOf34)) ?_
    simp only [Act.put, pu]
    refine pw_loadm (by rfl) 34 _ rfl _ (ob + j * 4) rfl rB ((rvA x)) HHx.out _ Try.underlying34 rfl size_rv ?_
    simp only [Act.put, pu]
    refine pw_litr (by rfl) 22 34 1 _ rfl (lsC (O ++ [x]) O.length) ie _ Try.underlying22 hie hze hs1 hs2 [(0, .agg (rvA x))] rfl hli ?_
    intro gA z8005 n0 rA k
    simp only [Act.put, pu]
    have d5xA := Nat.lt_of_lt_of_le r5.lt n0
    have ehOxA := hO.new n0
    have bA := Nat.le_trans sb.size n0
    clear n0
    replace r5 := k.row r5 (by simp <;> omega)
    replace hO := hO.on k (own_ne0 _)
    replace sb := sb.trans (k.below w.heap.size sb.size (by simp <;> omega))
    clear k
    refine pw_appE (by rfl) _ _ (22) rfl (w.heap.size) 34 ie _ 4 40 Try.underlying22 hie hze hsz hby rfl (by decide) (by decide) (_) (O.length) (lsC (O ++ [x])) ((lsC_size _)) rfl hO gA _ rfl rA (lsC_one _ _) ((by omega)) sb.size ?_
    have h0 := hO
    clear hO
    intro v1 z8006 hO k hp
    simp only [Act.put, pu]
    have cr5 := r5.lt
    replace r5 := k.row r5 (by first | exact own_nin ehOx5 | exact own_nin (h0.low (by omega)))
    (try replace ehOx5 := own_apart hp cr5 ehOx5)
    clear cr5
    clear hp
    replace sb := sb.trans (k.below w.heap.size sb.size h0.base)
    clear h0
    clear k
    refine pw_as (by rfl) rfl rfl ?_
    simp only [Act.put, pu]
    refine pw_nil ?_
    (repeat ((fail_if_success with_reducible refine rg ?_); go_step))
    refine wp_region_pw ?_
    refine pw_mv (by rfl) rfl rfl ?_
    simp only [Act.put, pu]
    refine pw_value (by rfl) (.int .i64 (((j + 1 : Nat) : Int))) (x_addz _ _ _ _ rfl ((j : Nat)) (1) (((j + 1 : Nat) : Int)) rfl rfl (by omega) (by omega) (by omega)) ?_
    simp only [Act.put, pu]
    refine pw_as (by rfl) rfl rfl ?_
    simp only [Act.put, pu]
    refine pw_nil ?_
    go_wp2
    go_roundg y
    case measure => omega
    case rel => exact ⟨j + 1, O ++ [x], v1, by omega, by rw [← HR.out, HD.out]; rw [rgo_cons, if_pos HX.out], by rw [List.length_append]; exact Nat.succ_le_succ hO2, rfl, rfl, by rw [List.length_append]; exact hO, ehOx5, r5, sb⟩
   | true =>
    rw [hs] at hSm
    have HX : Hid (rsm x v = true) := hs
    clear hs
    (repeat ((fail_if_success with_reducible refine rg ?_); go_step))
    refine wp_region_qw (by kernel_rfl) (by kernel_rfl) ?_
    refine qw_move (by rfl) rfl rfl ?_
    simp only [Act.put, pu]
    refine qw_move (by rfl) rfl rfl ?_
    simp only [Act.put, pu]
    refine qw_value (by rfl) (.pointer (some ⟨gb, ob + j * 4, none⟩)) ((exec_index_s 22 _ _ rfl gb ob (L.length) (c) rfl (j) rfl (hlt) _ Try.underlying22 4 Try.sizeOf34)) ?_
    simp only [Act.put, pu]
    refine qw_loadmR (by rfl) 34 _ rfl _ (ob + j * 4) rfl rB ((rvA x)) HHx.out _ Try.underlying34 rfl size_rv ?_
    simp only [Act.put, pu]
    refine qw_loadm (by rfl) 34 _ rfl _ (0) rfl r5 ((rvA v)) (part_all _) _ Try.underlying34 rfl size_rv ?_
    simp only [Act.put, pu]
    refine qw_call (by rfl) 18 _ _ rfl Try.func18 (by kernel_rfl) #[.agg (rvA x), .agg (rvA v)] rfl _ hSm ?_
    simp only [Act.put, pu]
    refine qw_value (by rfl) (.bool false) (exec_not _ _ rfl true rfl) ?_
    simp only [Act.put, pu]
    refine qw_nil ?_
    intro w9 hqb
    replace r5 := r5.belowAll hqb
    replace hO := hO.on (Kept.ofBelow hqb) (own_ne0 _)
    replace sb := below_on sb (Nat.le_refl _) hqb
    clear hqb
    clear rB
    obtain h0 | ⟨_, rB, _⟩ := (HB.out.below sb).at'
    ·exact absurd h0 (by omega)
    by_cases hge : v.2.1 ≤ x.2.1
    ·have hd := decide_eq_true hge
     have HE : Hid (R = none) := by have h := HR.out; rw [HD.out] at h; rw [rgo_cons] at h; rw [if_neg (by rw [HX.out]; decide), if_pos hge] at h; exact h.symm
     clear hge
     (repeat ((fail_if_success with_reducible refine rg ?_); go_step))
     refine wp_region_qw (by kernel_rfl) (by kernel_rfl) ?_
     refine qw_move (by rfl) rfl rfl ?_
     simp only [Act.put, pu]
     refine qw_move (by rfl) rfl rfl ?_
     simp only [Act.put, pu]
     refine qw_value (by rfl) (.pointer (some ⟨gb, ob + j * 4, none⟩)) ((exec_index_s 22 _ _ rfl gb ob (L.length) (c) rfl (j) rfl (hlt) _ Try.underlying22 4 Try.sizeOf34)) ?_
     simp only [Act.put, pu]
     refine qw_value (by rfl) (.pointer (some ⟨gb, ob + j * 4 + 1, none⟩)) (exec_field 34 _ 1 rfl gb (ob + j * 4) rfl _ Try.underlying34 _ rfl 1 Try.sizeOf32) ?_
     simp only [Act.put, pu]
     refine qw_value (by rfl) (.pointer (some ⟨gb, ob + j * 4 + 1, none⟩)) (exec_field 32 _ 0 rfl gb (ob + j * 4 + 1) rfl _ Try.underlying32 _ rfl 0 Try.sizeOf3) ?_
     simp only [Act.put, pu]
     refine qw_loadcR (by rfl) 3 _ rfl _ (ob + j * 4 + 1) rfl rB (.int .i64 x.2.1) HSQ.out Try.isAgg3 ?_
     simp only [Act.put, pu]
     refine qw_value (by rfl) (.pointer (some ⟨g5, 1, none⟩)) (exec_field 34 _ 1 rfl g5 (0) rfl _ Try.underlying34 _ rfl 1 Try.sizeOf32) ?_
     simp only [Act.put, pu]
     refine qw_value (by rfl) (.pointer (some ⟨g5, 1, none⟩)) (exec_field 32 _ 0 rfl g5 (1) rfl _ Try.underlying32 _ rfl 0 Try.sizeOf3) ?_
     simp only [Act.put, pu]
     refine qw_loadc (by rfl) 3 _ rfl _ (1) rfl r5 (.int .i64 v.2.1) rfl Try.isAgg3 ?_
     simp only [Act.put, pu]
     refine qw_value (by rfl) (.bool true) (exec_geq_i _ _ _ _ rfl (x.2.1) (v.2.1) rfl rfl true hd) ?_
     simp only [Act.put, pu]
     refine qw_nil ?_
     intro w8 hqb
     replace r5 := r5.belowAll hqb
     replace hO := hO.on (Kept.ofBelow hqb) (own_ne0 _)
     replace sb := below_on sb (Nat.le_refl _) hqb
     clear hqb
     clear rB
     (repeat ((fail_if_success with_reducible refine rg ?_); go_step))
     refine wp_region_pw ?_
     refine pw_mv (by rfl) rfl rfl ?_
     simp only [Act.put, pu]
     refine pw_as (by rfl) rfl rfl ?_
     simp only [Act.put, pu]
     refine pw_value (by rfl) (.bool false) (fun _ => rfl) ?_
     simp only [Act.put, pu]
     refine pw_nil ?_
     go_wp2
     go_ret2
     have eM : M = L := by rw [← HM.out, HE.out]; rfl
     have eB : B = false := by rw [← HBB.out, HE.out]; rfl
     rw [eM, eB]
     exact ⟨_, c, gb, ob, bcs, tb, rfl, HB.out.below sb, .inr (.inl rfl), sb⟩
    ·have hd := decide_eq_false hge
     have HG : Hid (x.2.1 < v.2.1) := Int.not_le.1 hge
     clear hge
     (repeat ((fail_if_success with_reducible refine rg ?_); go_step))
     refine wp_region_qw (by kernel_rfl) (by kernel_rfl) ?_
     refine qw_move (by rfl) rfl rfl ?_
     simp only [Act.put, pu]
     refine qw_move (by rfl) rfl rfl ?_
     simp only [Act.put, pu]
     refine qw_value (by rfl) (.pointer (some ⟨gb, ob + j * 4, none⟩)) ((exec_index_s 22 _ _ rfl gb ob (L.length) (c) rfl (j) rfl (hlt) _ Try.underlying22 4 Try.sizeOf34)) ?_
     simp only [Act.put, pu]
     refine qw_value (by rfl) (.pointer (some ⟨gb, ob + j * 4 + 1, none⟩)) (exec_field 34 _ 1 rfl gb (ob + j * 4) rfl _ Try.underlying34 _ rfl 1 Try.sizeOf32) ?_
     simp only [Act.put, pu]
     refine qw_value (by rfl) (.pointer (some ⟨gb, ob + j * 4 + 1, none⟩)) (exec_field 32 _ 0 rfl gb (ob + j * 4 + 1) rfl _ Try.underlying32 _ rfl 0 Try.sizeOf3) ?_
     simp only [Act.put, pu]
     refine qw_loadcR (by rfl) 3 _ rfl _ (ob + j * 4 + 1) rfl rB (.int .i64 x.2.1) HSQ.out Try.isAgg3 ?_
     simp only [Act.put, pu]
     refine qw_value (by rfl) (.pointer (some ⟨g5, 1, none⟩)) (exec_field 34 _ 1 rfl g5 (0) rfl _ Try.underlying34 _ rfl 1 Try.sizeOf32) ?_
     simp only [Act.put, pu]
     refine qw_value (by rfl) (.pointer (some ⟨g5, 1, none⟩)) (exec_field 32 _ 0 rfl g5 (1) rfl _ Try.underlying32 _ rfl 0 Try.sizeOf3) ?_
     simp only [Act.put, pu]
     refine qw_loadc (by rfl) 3 _ rfl _ (1) rfl r5 (.int .i64 v.2.1) rfl Try.isAgg3 ?_
     simp only [Act.put, pu]
     refine qw_value (by rfl) (.bool false) (exec_geq_i _ _ _ _ rfl (x.2.1) (v.2.1) rfl rfl false hd) ?_
     simp only [Act.put, pu]
     refine qw_nil ?_
     intro w8 hqb
     replace r5 := r5.belowAll hqb
     replace hO := hO.on (Kept.ofBelow hqb) (own_ne0 _)
     replace sb := below_on sb (Nat.le_refl _) hqb
     clear hqb
     clear rB
     (repeat ((fail_if_success with_reducible refine rg ?_); go_step))
     refine wp_region_pw ?_
     refine pw_mv (by rfl) rfl rfl ?_
     simp only [Act.put, pu]
     refine pw_value (by rfl) (.int .i64 (((j + 1 : Nat) : Int))) (x_addz _ _ _ _ rfl ((j : Nat)) (1) (((j + 1 : Nat) : Int)) rfl rfl (by omega) (by omega) (by omega)) ?_
     simp only [Act.put, pu]
     refine pw_as (by rfl) rfl rfl ?_
     simp only [Act.put, pu]
     refine pw_nil ?_
     go_wp2
     go_roundg y
     case measure => omega
     case rel => exact ⟨j + 1, O, v8, by omega, by rw [← HR.out, HD.out]; rw [rgo_cons, if_neg (by rw [HX.out]; decide), if_neg (Int.not_le.2 HG.out)], by omega, rfl, rfl, hO, ehOx5, r5, sb⟩
theorem rput_any (ab : Option Addr) (c : Nat) (L : List Rv) (gb ob : Nat) (bcs : Array Value) (tb : TypeId) (nn : Int) (v : Rv) (w : World) (hn : L.length ≤ 1000) (hz : ElsAt 4 w ab L.length (lsC L) gb ob bcs tb) :
  Calls Try.prog 9 #[.slice ab L.length c, .int .i64 nn, .agg (rvA v)] w (RPutR w.heap.size gb (rputL L nn v) (rputB L nn v) w) := by
 cases h : rokB nn v with
 | false =>
  rw [show rputL L nn v = L from if_neg (by rw [h]; decide), show rputB L nn v = false by unfold rputB; rw [h]; rfl]
  exact rput_no ab c L gb ob bcs tb nn v w hz h
 | true =>
  exact rput_yes ab c L gb ob bcs tb nn v _ _ w hn hz h (if_pos h).symm (by unfold rputB; rw [h]; rfl)
end Go.Proofs.Ytdbcikhineghcaa
