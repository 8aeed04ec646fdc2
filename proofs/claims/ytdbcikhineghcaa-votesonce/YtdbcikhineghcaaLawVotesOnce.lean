/- VotesOnce: for any votes, up to 40 of few bytes, a stamp and two digests: a server vouches for at most one digest with one stamp, and a vote stays till a later one comes; no condition. -/
import Derived.Test.YtdbcikhineghcaaVtOpen
namespace Go.Proofs.Ytdbcikhineghcaa
open Go.ChangeShapes Go.WideShapes Go.ChangeAt Go.RowKit
set_option linter.unusedVariables false
set_option linter.unusedSectionVars false
set_option linter.unusedSimpArgs false
namespace votesOnceP
theorem zero_rv (w : World) : (zeroValue 34).run Try.prog w = .ok (.agg (rvA rv0)) w := (zero_of_info info_rv).1 w
/-- What is put stands in its place. -/
def onP (V : Nat → Vt) (x y : Int) (da : List UInt8) (pb : Bool) : Prop := pb = true → plB 7 1 y (x % 2) = true ∧ V (plI 1 y (x % 2)) = (x, y, da)
theorem onP_keep {V : Nat → Vt} {x y : Int} {da : List UInt8} {pb : Bool} {k s c : Int} {d : List UInt8} (h : onP V x y da pb) (hn : pb = true → k = 1 → c = y → s % 2 = x % 2 → puB 7 V k s c = true → x < s → False) : onP (puV 7 V k s c d) x y da pb := by
 intro hp
 obtain ⟨h1, h2⟩ := h hp
 refine ⟨h1, ?_⟩
 cases hb : puB 7 V k s c with
 | false => rw [puV_no d hb]; exact h2
 | true =>
  have hb' := hb
  unfold puB at hb'
  rw [Bool.and_eq_true, Bool.and_eq_true, decide_eq_true_iff] at hb'
  obtain ⟨⟨h3, _⟩, h5⟩ := hb'
  rw [puV_other d fun e => ?_]
  ·exact h2
  obtain ⟨rfl, rfl, h6⟩ := plI_inj h1 h3 e
  rw [← h6, h2] at h5
  exact hn hp rfl rfl h6.symm hb h5
theorem onP_new {V : Nat → Vt} {k s c : Int} {d : List UInt8} (hk : k = 1) (h : puB 7 V k s c = true) : onP (puV 7 V k s c d) s c d true := by
 intro _
 subst hk
 have h' := h
 unfold puB at h'
 rw [Bool.and_eq_true, Bool.and_eq_true] at h'
 exact ⟨h'.1.1, puV_at d h⟩
theorem onP_at {V : Nat → Vt} {x y : Int} {da : List UInt8} (h : onP V x y da true) : atV 7 V 1 y (x % 2) = (x, y, da) := by
 obtain ⟨h1, h2⟩ := h rfl
 unfold atV
 rw [if_pos h1]
 exact h2
theorem once_le {V : Nat → Vt} {x y : Int} {da : List UInt8} {k s c : Int} {d : List UInt8} (h : puB 7 V k s c = false ∨ ¬ (s = x ∧ c = y)) : cntN 7 (puV 7 V k s c d) x y da ≤ cntN 7 V x y da := by
 cases hb : puB 7 V k s c with
 | false => rw [puV_no d hb]; exact Nat.le_refl _
 | true =>
  have h1 : ¬ (s = x ∧ c = y) := h.resolve_left (by rw [hb]; decide)
  have := cntN_put (n := 7) (V := V) (s' := x) (c' := y) (d' := da) (d := d) hb (.inr trivial)
  rw [if_neg, Nat.add_zero] at this
  ·exact this
  ·intro e
   exact h1 ⟨(congrArg (fun z : Vt => z.1) e).symm, (congrArg (fun z : Vt => z.2.1) e).symm⟩
theorem add_i2 {u v : Nat} (h : u ≤ 7) (h2 : v ≤ 7) : (u : Int) + (v : Int) = ((u + v : Nat) : Int) := by omega
set_option maxRecDepth 100000 in
set_option maxHeartbeats 2000000 in
theorem walk (ab : Option Addr) (c : Nat) (L : List Rv) (gb ob : Nat) (bcs : Array Value) (tb : TypeId) (x y : Int) (da db : List UInt8) (w : World) (hm : L.length ≤ maxLen) (hz : ElsAt 4 w ab L.length (lsC L) gb ob bcs tb) :
  Calls Try.prog 4 #[.slice ab L.length c, .agg (tsC x y), .agg #[.string ⟨da.toArray⟩, .string ⟨db.toArray⟩]] w fun e w' => e = .returned (.bool true) ∧ Below w.heap.size w w' := by
 have hS := fun w' (hb : Below w.heap.size w w') => short_any ab c L gb ob bcs tb w' (hz.below hb)
 have HB : Hid (ElsAt 4 w ab L.length (lsC L) gb ob bcs tb) := hz
 clear hm hz
 cases hsh : shB L with
 | false =>
  rw [hsh] at hS
  clear hsh HB
  go_enter Try.func4, Try.ntmps4
  have sb := sbmk w
  (repeat ((fail_if_success with_reducible refine rg ?_); go_step))
  refine wp_region_pw ?_
  refine pw_boxr (by rfl) 32 _ rfl (tsC x y) rfl ?_
  intro g4 z0 n0 r4 k
  simp only [Act.put, pu]
  have b4 := Nat.le_trans sb.size n0
  clear n0
  replace sb := sb.trans (k.below w.heap.size sb.size (by simp <;> omega))
  clear k
  refine pw_boxr (by rfl) 42 _ rfl (#[.string ⟨da.toArray⟩, .string ⟨db.toArray⟩]) rfl ?_
  intro g5 z1 n0 r5 k
  simp only [Act.put, pu]
  have d4x5 := Nat.lt_of_lt_of_le r4.lt n0
  have b5 := Nat.le_trans sb.size n0
  clear n0
  replace r4 := k.row r4 (by simp <;> omega)
  replace sb := sb.trans (k.below w.heap.size sb.size (by simp <;> omega))
  clear k
  refine pw_value (by rfl) (.bool false) (fun _ => rfl) ?_
  simp only [Act.put, pu]
  refine pw_nil ?_
  (repeat ((fail_if_success with_reducible refine rg ?_); go_step))
  refine wp_region_pw ?_
  refine pw_mv (by rfl) rfl rfl ?_
  simp only [Act.put, pu]
  refine pw_callB (by rfl) 6 _ _ rfl Try.func6 (by kernel_rfl) #[.slice ab L.length c] rfl _ (hS _ sb) ?_
  intro z1001 k
  simp only [Act.put, pu]
  replace r4 := k.row r4 (by simp <;> omega)
  replace r5 := k.row r5 (by simp <;> omega)
  replace sb := sb.trans (k.below w.heap.size sb.size (by simp <;> omega))
  clear k
  refine pw_value (by rfl) (.bool true) (exec_not _ _ rfl false rfl) ?_
  simp only [Act.put, pu]
  refine pw_mv (by rfl) rfl rfl ?_
  simp only [Act.put, pu]
  refine pw_skip (by rfl) ?_
  simp only [Act.put, pu]
  refine pw_skip (by rfl) ?_
  simp only [Act.put, pu]
  refine pw_skip (by rfl) ?_
  simp only [Act.put, pu]
  refine pw_skip (by rfl) ?_
  simp only [Act.put, pu]
  refine pw_pick (by rfl) true (v := .bool true) rfl rfl rfl ?_
  simp only [Act.put, pu]
  refine pw_mv (by rfl) rfl rfl ?_
  simp only [Act.put, pu]
  refine pw_skip (by rfl) ?_
  simp only [Act.put, pu]
  refine pw_skip (by rfl) ?_
  simp only [Act.put, pu]
  refine pw_skip (by rfl) ?_
  simp only [Act.put, pu]
  refine pw_skip (by rfl) ?_
  simp only [Act.put, pu]
  refine pw_pick (by rfl) true (v := .bool true) rfl rfl rfl ?_
  simp only [Act.put, pu]
  refine pw_mv (by rfl) rfl rfl ?_
  simp only [Act.put, pu]
  refine pw_skip (by rfl) ?_
  simp only [Act.put, pu]
  refine pw_skip (by rfl) ?_
  simp only [Act.put, pu]
  refine pw_skip (by rfl) ?_
  simp only [Act.put, pu]
  refine pw_pick (by rfl) true (v := .bool true) rfl rfl rfl ?_
  simp only [Act.put, pu]
  refine pw_mv (by rfl) rfl rfl ?_
  simp only [Act.put, pu]
  refine pw_skip (by rfl) ?_
  simp only [Act.put, pu]
  refine pw_skip (by rfl) ?_
  simp only [Act.put, pu]
  refine pw_skip (by rfl) ?_
  simp only [Act.put, pu]
  refine pw_pick (by rfl) true (v := .bool true) rfl rfl rfl ?_
  simp only [Act.put, pu]
  refine pw_nil ?_
  (repeat ((fail_if_success with_reducible refine rg ?_); go_step))
  refine wp_region_pw ?_
  refine pw_callB (by rfl) 7 _ _ rfl Try.func7 (by kernel_rfl) #[] rfl _ (awake_any _) ?_
  intro z2000 k
  simp only [Act.put, pu]
  replace sb := sb.trans (k.below w.heap.size sb.size (by simp <;> omega))
  clear k
  refine pw_as (by rfl) rfl rfl ?_
  simp only [Act.put, pu]
  refine pw_nil ?_
  go_wp2
  go_ret
  exact ⟨rfl, sb⟩
 | true =>
  rw [hsh] at hS
  have hLn := (shB_yes hsh).1
  have HD40 : Hid (∀ j, j < L.length → (L.getD j rv0).2.2.2.length ≤ 40) := (shB_yes hsh).2
  clear hsh
  by_cases h1 : ((da.length : Nat) : Int) > 40
  ·clear HB HD40 hLn
   go_enter Try.func4, Try.ntmps4
   have sb := sbmk w
   (repeat ((fail_if_success with_reducible refine rg ?_); go_step))
   refine wp_region_pw ?_
   refine pw_boxr (by rfl) 32 _ rfl (tsC x y) rfl ?_
   intro g4 z0 n0 r4 k
   simp only [Act.put, pu]
   have b4 := Nat.le_trans sb.size n0
   clear n0
   replace sb := sb.trans (k.below w.heap.size sb.size (by simp <;> omega))
   clear k
   refine pw_boxr (by rfl) 42 _ rfl (#[.string ⟨da.toArray⟩, .string ⟨db.toArray⟩]) rfl ?_
   intro g5 z1 n0 r5 k
   simp only [Act.put, pu]
   have d4x5 := Nat.lt_of_lt_of_le r4.lt n0
   have b5 := Nat.le_trans sb.size n0
   clear n0
   replace r4 := k.row r4 (by simp <;> omega)
   replace sb := sb.trans (k.below w.heap.size sb.size (by simp <;> omega))
   clear k
   refine pw_value (by rfl) (.bool false) (fun _ => rfl) ?_
   simp only [Act.put, pu]
   refine pw_nil ?_
   (repeat ((fail_if_success with_reducible refine rg ?_); go_step))
   refine wp_region_pw ?_
   refine pw_mv (by rfl) rfl rfl ?_
   simp only [Act.put, pu]
   refine pw_callB (by rfl) 6 _ _ rfl Try.func6 (by kernel_rfl) #[.slice ab L.length c] rfl _ (hS _ sb) ?_
   intro z1001 k
   simp only [Act.put, pu]
   replace r4 := k.row r4 (by simp <;> omega)
   replace r5 := k.row r5 (by simp <;> omega)
   replace sb := sb.trans (k.below w.heap.size sb.size (by simp <;> omega))
   clear k
   refine pw_value (by rfl) (.bool false) (exec_not _ _ rfl true rfl) ?_
   simp only [Act.put, pu]
   refine pw_mv (by rfl) rfl rfl ?_
   simp only [Act.put, pu]
   refine pw_value (by rfl) (.pointer (some ⟨g5, 0, none⟩)) (exec_index_g 42 _ _ rfl g5 0 rfl 0 2 rfl (by decide) _ Try.underlying42 1 Try.sizeOf9) ?_
   simp only [Act.put, pu]
   refine pw_loadk (by rfl) 9 _ rfl _ (0) rfl r5.r (.string ⟨da.toArray⟩) rfl Try.isAgg9 ?_
   simp only [Act.put, pu]
   refine pw_value (by rfl) (.int .i64 (da.length : Nat)) (y_lenS _ _ rfl da rfl Try.underlying9) ?_
   simp only [Act.put, pu]
   refine pw_value (by rfl) (.bool true) (exec_gt_i _ _ _ _ rfl ((da.length : Nat) : Int) 40 rfl rfl true (decide_eq_true h1)) ?_
   simp only [Act.put, pu]
   refine pw_pick (by rfl) false (v := .bool true) rfl rfl rfl ?_
   simp only [Act.put, pu]
   refine pw_mv (by rfl) rfl rfl ?_
   simp only [Act.put, pu]
   refine pw_skip (by rfl) ?_
   simp only [Act.put, pu]
   refine pw_skip (by rfl) ?_
   simp only [Act.put, pu]
   refine pw_skip (by rfl) ?_
   simp only [Act.put, pu]
   refine pw_skip (by rfl) ?_
   simp only [Act.put, pu]
   refine pw_pick (by rfl) true (v := .bool true) rfl rfl rfl ?_
   simp only [Act.put, pu]
   refine pw_mv (by rfl) rfl rfl ?_
   simp only [Act.put, pu]
   refine pw_skip (by rfl) ?_
   simp only [Act.put, pu]
   refine pw_skip (by rfl) ?_
   simp only [Act.put, pu]
   refine pw_skip (by rfl) ?_
   simp only [Act.put, pu]
   refine pw_pick (by rfl) true (v := .bool true) rfl rfl rfl ?_
   simp only [Act.put, pu]
   refine pw_mv (by rfl) rfl rfl ?_
   simp only [Act.put, pu]
   refine pw_skip (by rfl) ?_
   simp only [Act.put, pu]
   refine pw_skip (by rfl) ?_
   simp only [Act.put, pu]
   refine pw_skip (by rfl) ?_
   simp only [Act.put, pu]
   refine pw_pick (by rfl) true (v := .bool true) rfl rfl rfl ?_
   simp only [Act.put, pu]
   refine pw_nil ?_
   (repeat ((fail_if_success with_reducible refine rg ?_); go_step))
   refine wp_region_pw ?_
   refine pw_callB (by rfl) 7 _ _ rfl Try.func7 (by kernel_rfl) #[] rfl _ (awake_any _) ?_
   intro z2000 k
   simp only [Act.put, pu]
   replace sb := sb.trans (k.below w.heap.size sb.size (by simp <;> omega))
   clear k
   refine pw_as (by rfl) rfl rfl ?_
   simp only [Act.put, pu]
   refine pw_nil ?_
   go_wp2
   go_ret
   exact ⟨rfl, sb⟩
  by_cases h2 : ((db.length : Nat) : Int) > 40
  ·clear HB HD40 hLn
   go_enter Try.func4, Try.ntmps4
   have sb := sbmk w
   (repeat ((fail_if_success with_reducible refine rg ?_); go_step))
   refine wp_region_pw ?_
   refine pw_boxr (by rfl) 32 _ rfl (tsC x y) rfl ?_
   intro g4 z0 n0 r4 k
   simp only [Act.put, pu]
   have b4 := Nat.le_trans sb.size n0
   clear n0
   replace sb := sb.trans (k.below w.heap.size sb.size (by simp <;> omega))
   clear k
   refine pw_boxr (by rfl) 42 _ rfl (#[.string ⟨da.toArray⟩, .string ⟨db.toArray⟩]) rfl ?_
   intro g5 z1 n0 r5 k
   simp only [Act.put, pu]
   have d4x5 := Nat.lt_of_lt_of_le r4.lt n0
   have b5 := Nat.le_trans sb.size n0
   clear n0
   replace r4 := k.row r4 (by simp <;> omega)
   replace sb := sb.trans (k.below w.heap.size sb.size (by simp <;> omega))
   clear k
   refine pw_value (by rfl) (.bool false) (fun _ => rfl) ?_
   simp only [Act.put, pu]
   refine pw_nil ?_
   (repeat ((fail_if_success with_reducible refine rg ?_); go_step))
   refine wp_region_pw ?_
   refine pw_mv (by rfl) rfl rfl ?_
   simp only [Act.put, pu]
   refine pw_callB (by rfl) 6 _ _ rfl Try.func6 (by kernel_rfl) #[.slice ab L.length c] rfl _ (hS _ sb) ?_
   intro z1001 k
   simp only [Act.put, pu]
   replace r4 := k.row r4 (by simp <;> omega)
   replace r5 := k.row r5 (by simp <;> omega)
   replace sb := sb.trans (k.below w.heap.size sb.size (by simp <;> omega))
   clear k
   refine pw_value (by rfl) (.bool false) (exec_not _ _ rfl true rfl) ?_
   simp only [Act.put, pu]
   refine pw_mv (by rfl) rfl rfl ?_
   simp only [Act.put, pu]
   refine pw_value (by rfl) (.pointer (some ⟨g5, 0, none⟩)) (exec_index_g 42 _ _ rfl g5 0 rfl 0 2 rfl (by decide) _ Try.underlying42 1 Try.sizeOf9) ?_
   simp only [Act.put, pu]
   refine pw_loadk (by rfl) 9 _ rfl _ (0) rfl r5.r (.string ⟨da.toArray⟩) rfl Try.isAgg9 ?_
   simp only [Act.put, pu]
   refine pw_value (by rfl) (.int .i64 (da.length : Nat)) (y_lenS _ _ rfl da rfl Try.underlying9) ?_
   simp only [Act.put, pu]
   refine pw_value (by rfl) (.bool false) (exec_gt_i _ _ _ _ rfl ((da.length : Nat) : Int) 40 rfl rfl false (decide_eq_false h1)) ?_
   simp only [Act.put, pu]
   refine pw_pick (by rfl) false (v := .bool false) rfl rfl rfl ?_
   simp only [Act.put, pu]
   refine pw_mv (by rfl) rfl rfl ?_
   simp only [Act.put, pu]
   refine pw_value (by rfl) (.pointer (some ⟨g5, 1, none⟩)) (exec_index_g 42 _ _ rfl g5 0 rfl 1 2 rfl (by decide) _ Try.underlying42 1 Try.sizeOf9) ?_
   simp only [Act.put, pu]
   refine pw_loadk (by rfl) 9 _ rfl _ (1) rfl r5.r (.string ⟨db.toArray⟩) rfl Try.isAgg9 ?_
   simp only [Act.put, pu]
   refine pw_value (by rfl) (.int .i64 (db.length : Nat)) (y_lenS _ _ rfl db rfl Try.underlying9) ?_
   simp only [Act.put, pu]
   refine pw_value (by rfl) (.bool true) (exec_gt_i _ _ _ _ rfl ((db.length : Nat) : Int) 40 rfl rfl true (decide_eq_true h2)) ?_
   simp only [Act.put, pu]
   refine pw_pick (by rfl) false (v := .bool true) rfl rfl rfl ?_
   simp only [Act.put, pu]
   refine pw_mv (by rfl) rfl rfl ?_
   simp only [Act.put, pu]
   refine pw_skip (by rfl) ?_
   simp only [Act.put, pu]
   refine pw_skip (by rfl) ?_
   simp only [Act.put, pu]
   refine pw_skip (by rfl) ?_
   simp only [Act.put, pu]
   refine pw_pick (by rfl) true (v := .bool true) rfl rfl rfl ?_
   simp only [Act.put, pu]
   refine pw_mv (by rfl) rfl rfl ?_
   simp only [Act.put, pu]
   refine pw_skip (by rfl) ?_
   simp only [Act.put, pu]
   refine pw_skip (by rfl) ?_
   simp only [Act.put, pu]
   refine pw_skip (by rfl) ?_
   simp only [Act.put, pu]
   refine pw_pick (by rfl) true (v := .bool true) rfl rfl rfl ?_
   simp only [Act.put, pu]
   refine pw_nil ?_
   (repeat ((fail_if_success with_reducible refine rg ?_); go_step))
   refine wp_region_pw ?_
   refine pw_callB (by rfl) 7 _ _ rfl Try.func7 (by kernel_rfl) #[] rfl _ (awake_any _) ?_
   intro z2000 k
   simp only [Act.put, pu]
   replace sb := sb.trans (k.below w.heap.size sb.size (by simp <;> omega))
   clear k
   refine pw_as (by rfl) rfl rfl ?_
   simp only [Act.put, pu]
   refine pw_nil ?_
   go_wp2
   go_ret
   exact ⟨rfl, sb⟩
  by_cases h3 : x < 1
  ·clear HB HD40 hLn
   go_enter Try.func4, Try.ntmps4
   have sb := sbmk w
   (repeat ((fail_if_success with_reducible refine rg ?_); go_step))
   refine wp_region_pw ?_
   refine pw_boxr (by rfl) 32 _ rfl (tsC x y) rfl ?_
   intro g4 z0 n0 r4 k
   simp only [Act.put, pu]
   have b4 := Nat.le_trans sb.size n0
   clear n0
   replace sb := sb.trans (k.below w.heap.size sb.size (by simp <;> omega))
   clear k
   refine pw_boxr (by rfl) 42 _ rfl (#[.string ⟨da.toArray⟩, .string ⟨db.toArray⟩]) rfl ?_
   intro g5 z1 n0 r5 k
   simp only [Act.put, pu]
   have d4x5 := Nat.lt_of_lt_of_le r4.lt n0
   have b5 := Nat.le_trans sb.size n0
   clear n0
   replace r4 := k.row r4 (by simp <;> omega)
   replace sb := sb.trans (k.below w.heap.size sb.size (by simp <;> omega))
   clear k
   refine pw_value (by rfl) (.bool false) (fun _ => rfl) ?_
   simp only [Act.put, pu]
   refine pw_nil ?_
   (repeat ((fail_if_success with_reducible refine rg ?_); go_step))
   refine wp_region_pw ?_
   refine pw_mv (by rfl) rfl rfl ?_
   simp only [Act.put, pu]
   refine pw_callB (by rfl) 6 _ _ rfl Try.func6 (by kernel_rfl) #[.slice ab L.length c] rfl _ (hS _ sb) ?_
   intro z1001 k
   simp only [Act.put, pu]
   replace r4 := k.row r4 (by simp <;> omega)
   replace r5 := k.row r5 (by simp <;> omega)
   replace sb := sb.trans (k.below w.heap.size sb.size (by simp <;> omega))
   clear k
   refine pw_value (by rfl) (.bool false) (exec_not _ _ rfl true rfl) ?_
   simp only [Act.put, pu]
   refine pw_mv (by rfl) rfl rfl ?_
   simp only [Act.put, pu]
   refine pw_value (by rfl) (.pointer (some ⟨g5, 0, none⟩)) (exec_index_g 42 _ _ rfl g5 0 rfl 0 2 rfl (by decide) _ Try.underlying42 1 Try.sizeOf9) ?_
   simp only [Act.put, pu]
   refine pw_loadk (by rfl) 9 _ rfl _ (0) rfl r5.r (.string ⟨da.toArray⟩) rfl Try.isAgg9 ?_
   simp only [Act.put, pu]
   refine pw_value (by rfl) (.int .i64 (da.length : Nat)) (y_lenS _ _ rfl da rfl Try.underlying9) ?_
   simp only [Act.put, pu]
   refine pw_value (by rfl) (.bool false) (exec_gt_i _ _ _ _ rfl ((da.length : Nat) : Int) 40 rfl rfl false (decide_eq_false h1)) ?_
   simp only [Act.put, pu]
   refine pw_pick (by rfl) false (v := .bool false) rfl rfl rfl ?_
   simp only [Act.put, pu]
   refine pw_mv (by rfl) rfl rfl ?_
   simp only [Act.put, pu]
   refine pw_value (by rfl) (.pointer (some ⟨g5, 1, none⟩)) (exec_index_g 42 _ _ rfl g5 0 rfl 1 2 rfl (by decide) _ Try.underlying42 1 Try.sizeOf9) ?_
   simp only [Act.put, pu]
   refine pw_loadk (by rfl) 9 _ rfl _ (1) rfl r5.r (.string ⟨db.toArray⟩) rfl Try.isAgg9 ?_
   simp only [Act.put, pu]
   refine pw_value (by rfl) (.int .i64 (db.length : Nat)) (y_lenS _ _ rfl db rfl Try.underlying9) ?_
   simp only [Act.put, pu]
   refine pw_value (by rfl) (.bool false) (exec_gt_i _ _ _ _ rfl ((db.length : Nat) : Int) 40 rfl rfl false (decide_eq_false h2)) ?_
   simp only [Act.put, pu]
   refine pw_pick (by rfl) false (v := .bool false) rfl rfl rfl ?_
   simp only [Act.put, pu]
   refine pw_mv (by rfl) rfl rfl ?_
   simp only [Act.put, pu]
   refine pw_value (by rfl) (.pointer (some ⟨g4, 0, none⟩)) (exec_field 32 _ 0 rfl g4 0 rfl _ Try.underlying32 _ rfl 0 Try.sizeOf3) ?_
   simp only [Act.put, pu]
   refine pw_loadk (by rfl) 3 _ rfl _ (0) rfl r4.r (.int .i64 x) rfl Try.isAgg3 ?_
   simp only [Act.put, pu]
   refine pw_value (by rfl) (.bool true) (exec_lt_b _ _ _ _ rfl (x) (1) rfl rfl true (decide_eq_true (by omega))) ?_
   simp only [Act.put, pu]
   refine pw_pick (by rfl) false (v := .bool true) rfl rfl rfl ?_
   simp only [Act.put, pu]
   refine pw_mv (by rfl) rfl rfl ?_
   simp only [Act.put, pu]
   refine pw_skip (by rfl) ?_
   simp only [Act.put, pu]
   refine pw_skip (by rfl) ?_
   simp only [Act.put, pu]
   refine pw_skip (by rfl) ?_
   simp only [Act.put, pu]
   refine pw_pick (by rfl) true (v := .bool true) rfl rfl rfl ?_
   simp only [Act.put, pu]
   refine pw_nil ?_
   (repeat ((fail_if_success with_reducible refine rg ?_); go_step))
   refine wp_region_pw ?_
   refine pw_callB (by rfl) 7 _ _ rfl Try.func7 (by kernel_rfl) #[] rfl _ (awake_any _) ?_
   intro z2000 k
   simp only [Act.put, pu]
   replace sb := sb.trans (k.below w.heap.size sb.size (by simp <;> omega))
   clear k
   refine pw_as (by rfl) rfl rfl ?_
   simp only [Act.put, pu]
   refine pw_nil ?_
   go_wp2
   go_ret
   exact ⟨rfl, sb⟩
  by_cases h4 : 1099511627776 < x
  ·clear HB HD40 hLn
   go_enter Try.func4, Try.ntmps4
   have sb := sbmk w
   (repeat ((fail_if_success with_reducible refine rg ?_); go_step))
   refine wp_region_pw ?_
   refine pw_boxr (by rfl) 32 _ rfl (tsC x y) rfl ?_
   intro g4 z0 n0 r4 k
   simp only [Act.put, pu]
   have b4 := Nat.le_trans sb.size n0
   clear n0
   replace sb := sb.trans (k.below w.heap.size sb.size (by simp <;> omega))
   clear k
   refine pw_boxr (by rfl) 42 _ rfl (#[.string ⟨da.toArray⟩, .string ⟨db.toArray⟩]) rfl ?_
   intro g5 z1 n0 r5 k
   simp only [Act.put, pu]
   have d4x5 := Nat.lt_of_lt_of_le r4.lt n0
   have b5 := Nat.le_trans sb.size n0
   clear n0
   replace r4 := k.row r4 (by simp <;> omega)
   replace sb := sb.trans (k.below w.heap.size sb.size (by simp <;> omega))
   clear k
   refine pw_value (by rfl) (.bool false) (fun _ => rfl) ?_
   simp only [Act.put, pu]
   refine pw_nil ?_
   (repeat ((fail_if_success with_reducible refine rg ?_); go_step))
   refine wp_region_pw ?_
   refine pw_mv (by rfl) rfl rfl ?_
   simp only [Act.put, pu]
   refine pw_callB (by rfl) 6 _ _ rfl Try.func6 (by kernel_rfl) #[.slice ab L.length c] rfl _ (hS _ sb) ?_
   intro z1001 k
   simp only [Act.put, pu]
   replace r4 := k.row r4 (by simp <;> omega)
   replace r5 := k.row r5 (by simp <;> omega)
   replace sb := sb.trans (k.below w.heap.size sb.size (by simp <;> omega))
   clear k
   refine pw_value (by rfl) (.bool false) (exec_not _ _ rfl true rfl) ?_
   simp only [Act.put, pu]
   refine pw_mv (by rfl) rfl rfl ?_
   simp only [Act.put, pu]
   refine pw_value (by rfl) (.pointer (some ⟨g5, 0, none⟩)) (exec_index_g 42 _ _ rfl g5 0 rfl 0 2 rfl (by decide) _ Try.underlying42 1 Try.sizeOf9) ?_
   simp only [Act.put, pu]
   refine pw_loadk (by rfl) 9 _ rfl _ (0) rfl r5.r (.string ⟨da.toArray⟩) rfl Try.isAgg9 ?_
   simp only [Act.put, pu]
   refine pw_value (by rfl) (.int .i64 (da.length : Nat)) (y_lenS _ _ rfl da rfl Try.underlying9) ?_
   simp only [Act.put, pu]
   refine pw_value (by rfl) (.bool false) (exec_gt_i _ _ _ _ rfl ((da.length : Nat) : Int) 40 rfl rfl false (decide_eq_false h1)) ?_
   simp only [Act.put, pu]
   refine pw_pick (by rfl) false (v := .bool false) rfl rfl rfl ?_
   simp only [Act.put, pu]
   refine pw_mv (by rfl) rfl rfl ?_
   simp only [Act.put, pu]
   refine pw_value (by rfl) (.pointer (some ⟨g5, 1, none⟩)) (exec_index_g 42 _ _ rfl g5 0 rfl 1 2 rfl (by decide) _ Try.underlying42 1 Try.sizeOf9) ?_
   simp only [Act.put, pu]
   refine pw_loadk (by rfl) 9 _ rfl _ (1) rfl r5.r (.string ⟨db.toArray⟩) rfl Try.isAgg9 ?_
   simp only [Act.put, pu]
   refine pw_value (by rfl) (.int .i64 (db.length : Nat)) (y_lenS _ _ rfl db rfl Try.underlying9) ?_
   simp only [Act.put, pu]
   refine pw_value (by rfl) (.bool false) (exec_gt_i _ _ _ _ rfl ((db.length : Nat) : Int) 40 rfl rfl false (decide_eq_false h2)) ?_
   simp only [Act.put, pu]
   refine pw_pick (by rfl) false (v := .bool false) rfl rfl rfl ?_
   simp only [Act.put, pu]
   refine pw_mv (by rfl) rfl rfl ?_
   simp only [Act.put, pu]
   refine pw_value (by rfl) (.pointer (some ⟨g4, 0, none⟩)) (exec_field 32 _ 0 rfl g4 0 rfl _ Try.underlying32 _ rfl 0 Try.sizeOf3) ?_
   simp only [Act.put, pu]
   refine pw_loadk (by rfl) 3 _ rfl _ (0) rfl r4.r (.int .i64 x) rfl Try.isAgg3 ?_
   simp only [Act.put, pu]
   refine pw_value (by rfl) (.bool false) (exec_lt_b _ _ _ _ rfl (x) (1) rfl rfl false (decide_eq_false (by omega))) ?_
   simp only [Act.put, pu]
   refine pw_pick (by rfl) false (v := .bool false) rfl rfl rfl ?_
   simp only [Act.put, pu]
   refine pw_mv (by rfl) rfl rfl ?_
   simp only [Act.put, pu]
   refine pw_value (by rfl) (.pointer (some ⟨g4, 0, none⟩)) (exec_field 32 _ 0 rfl g4 0 rfl _ Try.underlying32 _ rfl 0 Try.sizeOf3) ?_
   simp only [Act.put, pu]
   refine pw_loadk (by rfl) 3 _ rfl _ (0) rfl r4.r (.int .i64 x) rfl Try.isAgg3 ?_
   simp only [Act.put, pu]
   refine pw_value (by rfl) (.bool true) (exec_gt_i _ _ _ _ rfl (x) (1099511627776) rfl rfl true (decide_eq_true (by omega))) ?_
   simp only [Act.put, pu]
   refine pw_pick (by rfl) false (v := .bool true) rfl rfl rfl ?_
   simp only [Act.put, pu]
   refine pw_nil ?_
   (repeat ((fail_if_success with_reducible refine rg ?_); go_step))
   refine wp_region_pw ?_
   refine pw_callB (by rfl) 7 _ _ rfl Try.func7 (by kernel_rfl) #[] rfl _ (awake_any _) ?_
   intro z2000 k
   simp only [Act.put, pu]
   replace sb := sb.trans (k.below w.heap.size sb.size (by simp <;> omega))
   clear k
   refine pw_as (by rfl) rfl rfl ?_
   simp only [Act.put, pu]
   refine pw_nil ?_
   go_wp2
   go_ret
   exact ⟨rfl, sb⟩
  have hN := fun w' => vnew_yes 7 w' (by omega) (by omega)
  go_enter Try.func4, Try.ntmps4
  have sb := sbmk w
  (repeat ((fail_if_success with_reducible refine rg ?_); go_step))
  refine wp_region_pw ?_
  refine pw_boxr (by rfl) 32 _ rfl (tsC x y) rfl ?_
  intro g4 z0 n0 r4 k
  simp only [Act.put, pu]
  have b4 := Nat.le_trans sb.size n0
  clear n0
  replace sb := sb.trans (k.below w.heap.size sb.size (by simp <;> omega))
  clear k
  refine pw_boxr (by rfl) 42 _ rfl (#[.string ⟨da.toArray⟩, .string ⟨db.toArray⟩]) rfl ?_
  intro g5 z1 n0 r5 k
  simp only [Act.put, pu]
  have d4x5 := Nat.lt_of_lt_of_le r4.lt n0
  have b5 := Nat.le_trans sb.size n0
  clear n0
  replace r4 := k.row r4 (by simp <;> omega)
  replace sb := sb.trans (k.below w.heap.size sb.size (by simp <;> omega))
  clear k
  refine pw_value (by rfl) (.bool false) (fun _ => rfl) ?_
  simp only [Act.put, pu]
  refine pw_nil ?_
  (repeat ((fail_if_success with_reducible refine rg ?_); go_step))
  refine wp_region_pw ?_
  refine pw_mv (by rfl) rfl rfl ?_
  simp only [Act.put, pu]
  refine pw_callB (by rfl) 6 _ _ rfl Try.func6 (by kernel_rfl) #[.slice ab L.length c] rfl _ (hS _ sb) ?_
  intro z1001 k
  simp only [Act.put, pu]
  replace r4 := k.row r4 (by simp <;> omega)
  replace r5 := k.row r5 (by simp <;> omega)
  replace sb := sb.trans (k.below w.heap.size sb.size (by simp <;> omega))
  clear k
  refine pw_value (by rfl) (.bool false) (exec_not _ _ rfl true rfl) ?_
  simp only [Act.put, pu]
  refine pw_mv (by rfl) rfl rfl ?_
  simp only [Act.put, pu]
  refine pw_value (by rfl) (.pointer (some ⟨g5, 0, none⟩)) (exec_index_g 42 _ _ rfl g5 0 rfl 0 2 rfl (by decide) _ Try.underlying42 1 Try.sizeOf9) ?_
  simp only [Act.put, pu]
  refine pw_loadk (by rfl) 9 _ rfl _ (0) rfl r5.r (.string ⟨da.toArray⟩) rfl Try.isAgg9 ?_
  simp only [Act.put, pu]
  refine pw_value (by rfl) (.int .i64 (da.length : Nat)) (y_lenS _ _ rfl da rfl Try.underlying9) ?_
  simp only [Act.put, pu]
  refine pw_value (by rfl) (.bool false) (exec_gt_i _ _ _ _ rfl ((da.length : Nat) : Int) 40 rfl rfl false (decide_eq_false h1)) ?_
  simp only [Act.put, pu]
  refine pw_pick (by rfl) false (v := .bool false) rfl rfl rfl ?_
  simp only [Act.put, pu]
  refine pw_mv (by rfl) rfl rfl ?_
  simp only [Act.put, pu]
  refine pw_value (by rfl) (.pointer (some ⟨g5, 1, none⟩)) (exec_index_g 42 _ _ rfl g5 0 rfl 1 2 rfl (by decide) _ Try.underlying42 1 Try.sizeOf9) ?_
  simp only [Act.put, pu]
  refine pw_loadk (by rfl) 9 _ rfl _ (1) rfl r5.r (.string ⟨db.toArray⟩) rfl Try.isAgg9 ?_
  simp only [Act.put, pu]
  refine pw_value (by rfl) (.int .i64 (db.length : Nat)) (y_lenS _ _ rfl db rfl Try.underlying9) ?_
  simp only [Act.put, pu]
  refine pw_value (by rfl) (.bool false) (exec_gt_i _ _ _ _ rfl ((db.length : Nat) : Int) 40 rfl rfl false (decide_eq_false h2)) ?_
  simp only [Act.put, pu]
  refine pw_pick (by rfl) false (v := .bool false) rfl rfl rfl ?_
  simp only [Act.put, pu]
  refine pw_mv (by rfl) rfl rfl ?_
  simp only [Act.put, pu]
  refine pw_value (by rfl) (.pointer (some ⟨g4, 0, none⟩)) (exec_field 32 _ 0 rfl g4 0 rfl _ Try.underlying32 _ rfl 0 Try.sizeOf3) ?_
  simp only [Act.put, pu]
  refine pw_loadk (by rfl) 3 _ rfl _ (0) rfl r4.r (.int .i64 x) rfl Try.isAgg3 ?_
  simp only [Act.put, pu]
  refine pw_value (by rfl) (.bool false) (exec_lt_b _ _ _ _ rfl (x) (1) rfl rfl false (decide_eq_false (by omega))) ?_
  simp only [Act.put, pu]
  refine pw_pick (by rfl) false (v := .bool false) rfl rfl rfl ?_
  simp only [Act.put, pu]
  refine pw_mv (by rfl) rfl rfl ?_
  simp only [Act.put, pu]
  refine pw_value (by rfl) (.pointer (some ⟨g4, 0, none⟩)) (exec_field 32 _ 0 rfl g4 0 rfl _ Try.underlying32 _ rfl 0 Try.sizeOf3) ?_
  simp only [Act.put, pu]
  refine pw_loadk (by rfl) 3 _ rfl _ (0) rfl r4.r (.int .i64 x) rfl Try.isAgg3 ?_
  simp only [Act.put, pu]
  refine pw_value (by rfl) (.bool false) (exec_gt_i _ _ _ _ rfl (x) (1099511627776) rfl rfl false (decide_eq_false (by omega))) ?_
  simp only [Act.put, pu]
  refine pw_pick (by rfl) false (v := .bool false) rfl rfl rfl ?_
  simp only [Act.put, pu]
  refine pw_nil ?_
  clear h1 h2
  (repeat ((fail_if_success with_reducible refine rg ?_); go_step))
  refine wp_region_pw ?_
  refine pw_callE (by rfl) 8 _ _ rfl Try.func8 (by kernel_rfl) #[.int .i64 7] rfl (hN _) ?_
  rintro _ z3000 ⟨g7, rfl, n7, r7, hb⟩
  refine ⟨_, rfl, ?_⟩
  simp only [Act.put, pu]
  have d4x7 := Nat.lt_of_lt_of_le r4.lt n7
  have d5x7 := Nat.lt_of_lt_of_le r5.lt n7
  have b7 := Nat.le_trans sb.size n7
  clear n7
  have k := Kept.ofBelow hb
  clear hb
  replace r4 := k.row r4 (by simp <;> omega)
  replace r5 := k.row r5 (by simp <;> omega)
  replace sb := sb.trans (k.below w.heap.size sb.size (by simp <;> omega))
  clear k
  refine pw_mv (by rfl) rfl rfl ?_
  simp only [Act.put, pu]
  refine pw_ext (by rfl) rfl rfl rfl ?_
  simp only [Act.put, pu]
  refine pw_ext (by rfl) rfl rfl rfl ?_
  simp only [Act.put, pu]
  refine pw_as (by rfl) rfl rfl ?_
  simp only [Act.put, pu]
  refine pw_as (by rfl) rfl rfl ?_
  simp only [Act.put, pu]
  refine pw_nil ?_
  clear hN hS
  (repeat ((fail_if_success with_reducible refine rg ?_); go_step))
  refine wp_region_pw ?_
  refine pw_mv (by rfl) rfl rfl ?_
  simp only [Act.put, pu]
  refine pw_value (by rfl) (.bool false) (exec_neq_k .i64 _ _ _ _ rfl (0) (0) rfl rfl false (by rw [decide_eq_true (by omega)]; rfl)) ?_
  simp only [Act.put, pu]
  refine pw_mv (by rfl) rfl rfl ?_
  simp only [Act.put, pu]
  refine pw_mv (by rfl) rfl rfl ?_
  simp only [Act.put, pu]
  refine pw_value (by rfl) (.bool false) (exec_eql_nilp _ _ _ _ rfl (some ⟨g7, 0, none⟩) rfl rfl ptr_vs) ?_
  simp only [Act.put, pu]
  refine pw_pick (by rfl) false (v := .bool false) rfl rfl rfl ?_
  simp only [Act.put, pu]
  refine pw_nil ?_
  (repeat ((fail_if_success with_reducible refine rg ?_); go_step))
  refine wp_region_pw ?_
  refine pw_value (by rfl) (.bool false) (fun _ => rfl) ?_
  simp only [Act.put, pu]
  refine pw_nil ?_
  (repeat ((fail_if_success with_reducible refine rg ?_); go_step))
  refine wp_region_pw ?_
  refine pw_value (by rfl) (.int .i64 0) (fun _ => rfl) ?_
  simp only [Act.put, pu]
  refine pw_nil ?_
  go_wp2_with fail
  go_loopg [6, 9, 10, 11, 12, 13] L.length (fun v s6 s9 s10 s11 s12 s13 wr => ∃ (i : Nat) (V : Nat → Vt) (pb : Bool), i + v = L.length ∧ s9 = .bool pb ∧ s10 = .int .i64 i ∧ Row wr g4 (tsC x y) 32 ∧ Row wr g5 #[.string ⟨da.toArray⟩, .string ⟨db.toArray⟩] 42 ∧ Row wr g7 (voC 7 V) 51 ∧ onP V x y da pb ∧ Below w.heap.size w wr)
  case atStart => exact ⟨0, fun _ => vt0, false, by omega, rfl, rfl, r4, r5, r7, (fun h => by cases h), sb⟩
  case round =>
   clear sb r4 r5 r7
   obtain ⟨i, V, pb, hi, rfl, rfl, r4, r5, r7, hon, sb⟩ := hrel
   have HO : Hid (onP V x y da pb) := hon
   clear hon
   cases gk with
   | zero =>
    have h1 : ¬ (i : Int) < (L.length : Int) := by omega
    have hA := fun w' (r : Row w' g7 (voC 7 V) 51) => at_any g7 7 V 1 y (x % 2) w' r (by omega)
    have hC := fun w' (r : Row w' g7 (voC 7 V) 51) => cnt_any g7 7 V x y da w' r (by omega) (by omega)
    have hD := fun w' (r : Row w' g7 (voC 7 V) 51) => cnt_any g7 7 V x y db w' r (by omega) (by omega)
    have hle1 := cntN_le 7 V x y da
    have hle2 := cntN_le 7 V x y db
    have htwo := cntN_two 7 V x y da db
    have HT : Hid (pb = true → atV 7 V 1 y (x % 2) = (x, y, da)) := fun e => onP_at (by rw [← e]; exact HO.out)
    clear HO hi
    generalize cntN 7 V x y da = u at *
    generalize cntN 7 V x y db = u' at *
    generalize atV 7 V 1 y (x % 2) = T at *
    have HTW : Hid (da ≠ db → u + u' ≤ 7) := htwo
    have hadd := add_i2 hle1 hle2
    clear htwo
    cases pb with
    | true =>
     obtain rfl : (x, y, da) = T := (HT.out rfl).symm
     (repeat ((fail_if_success with_reducible refine rg ?_); go_step))
     refine wp_region_pw ?_
     refine pw_mv (by rfl) rfl rfl ?_
     simp only [Act.put, pu]
     refine pw_mv (by rfl) rfl rfl ?_
     simp only [Act.put, pu]
     refine pw_value (by rfl) (.int .i64 (L.length : Nat)) (exec_len_s 22 _ rfl (ab) (L.length) (c) rfl sl_rv) ?_
     simp only [Act.put, pu]
     refine pw_value (by rfl) (.bool false) (exec_lt_b _ _ _ _ rfl ((i : Nat)) ((L.length : Nat)) rfl rfl false (decide_eq_false h1)) ?_
     simp only [Act.put, pu]
     refine pw_nil ?_
     (repeat ((fail_if_success with_reducible refine rg ?_); go_step))
     refine wp_region_pw ?_
     refine pw_mv (by rfl) rfl rfl ?_
     simp only [Act.put, pu]
     refine pw_value (by rfl) (.pointer (some ⟨g4, 1, none⟩)) (exec_field 32 _ 1 rfl g4 0 rfl _ Try.underlying32 _ rfl 0 Try.sizeOf3) ?_
     simp only [Act.put, pu]
     refine pw_loadk (by rfl) 3 _ rfl _ (1) rfl r4.r (.int .i64 y) rfl Try.isAgg3 ?_
     simp only [Act.put, pu]
     refine pw_value (by rfl) (.pointer (some ⟨g4, 0, none⟩)) (exec_field 32 _ 0 rfl g4 0 rfl _ Try.underlying32 _ rfl 0 Try.sizeOf3) ?_
     simp only [Act.put, pu]
     refine pw_loadk (by rfl) 3 _ rfl _ (0) rfl r4.r (.int .i64 x) rfl Try.isAgg3 ?_
     simp only [Act.put, pu]
     refine pw_value (by rfl) (.int .i64 (x % 2)) (x_par _ _ _ rfl (x) rfl rfl) ?_
     simp only [Act.put, pu]
     refine pw_callB (by rfl) 13 _ _ rfl Try.func13 (by kernel_rfl) #[.pointer (some ⟨g7, 0, none⟩), .int .i64 1, .int .i64 y, .int .i64 (x % 2)] rfl _ (hA _ r7) ?_
     intro z19006 k
     simp only [Act.put, pu]
     replace r4 := k.row r4 (by simp <;> omega)
     replace r5 := k.row r5 (by simp <;> omega)
     replace r7 := k.row r7 (by simp <;> omega)
     replace sb := sb.trans (k.below w.heap.size sb.size (by simp <;> omega))
     clear k
     refine pw_mv (by rfl) rfl rfl ?_
     simp only [Act.put, pu]
     refine pw_ext (by rfl) rfl rfl rfl ?_
     simp only [Act.put, pu]
     refine pw_ext (by rfl) rfl rfl rfl ?_
     simp only [Act.put, pu]
     refine pw_new (by rfl) 32 rfl _ zero_st ?_
     intro g14 z19010 n0 r14 k
     simp only [Act.put, pu]
     have d4x14 := Nat.lt_of_lt_of_le r4.lt n0
     have d5x14 := Nat.lt_of_lt_of_le r5.lt n0
     have d7x14 := Nat.lt_of_lt_of_le r7.lt n0
     have b14 := Nat.le_trans sb.size n0
     clear n0
     replace r4 := k.row r4 (by simp <;> omega)
     replace r5 := k.row r5 (by simp <;> omega)
     replace r7 := k.row r7 (by simp <;> omega)
     replace sb := sb.trans (k.below w.heap.size sb.size (by simp <;> omega))
     clear k
     refine pw_put (by rfl) 32 _ _ rfl _ rfl r14 (tsC x y) rfl (by exact size_st) (by rfl) (st_one _ _) ?_
     clear r14
     intro z19011 r14 k
     simp only [Act.put]
     replace r4 := k.row r4 (by simp <;> omega)
     replace r5 := k.row r5 (by simp <;> omega)
     replace r7 := k.row r7 (by simp <;> omega)
     replace sb := sb.trans (k.below w.heap.size sb.size (by simp <;> omega))
     clear k
     refine pw_as (by rfl) rfl rfl ?_
     simp only [Act.put, pu]
     refine pw_nil ?_
     (repeat ((fail_if_success with_reducible refine rg ?_); go_step))
     refine wp_region_pw ?_
     refine pw_mv (by rfl) rfl rfl ?_
     simp only [Act.put, pu]
     refine pw_mv (by rfl) rfl rfl ?_
     simp only [Act.put, pu]
     refine pw_loadm (by rfl) 32 _ rfl _ 0 rfl r14.r _ (part_all _) _ Try.underlying32 rfl size_st ?_
     simp only [Act.put, pu]
     refine pw_loadm (by rfl) 32 _ rfl _ 0 rfl r4.r _ (part_all _) _ Try.underlying32 rfl size_st ?_
     simp only [Act.put, pu]
     refine pw_value (by rfl) (.bool false) (exec_neq_st _ _ _ rfl x y x y rfl rfl false (by simp)) ?_
     simp only [Act.put, pu]
     refine pw_mv (by rfl) rfl rfl ?_
     simp only [Act.put, pu]
     refine pw_mv (by rfl) rfl rfl ?_
     simp only [Act.put, pu]
     refine pw_value (by rfl) (.pointer (some ⟨g5, 0, none⟩)) (exec_index_g 42 _ _ rfl g5 0 rfl 0 2 rfl (by decide) _ Try.underlying42 1 Try.sizeOf9) ?_
     simp only [Act.put, pu]
     refine pw_loadk (by rfl) 9 _ rfl _ (0) rfl r5.r (.string ⟨da.toArray⟩) rfl Try.isAgg9 ?_
     simp only [Act.put, pu]
     refine pw_value (by rfl) (.bool false) (y_neS _ _ _ _ rfl da da rfl rfl false (decide_eq_true rfl)) ?_
     simp only [Act.put, pu]
     refine pw_pick (by rfl) false (v := .bool false) rfl rfl rfl ?_
     simp only [Act.put, pu]
     refine pw_pick (by rfl) true (v := .bool false) rfl rfl rfl ?_
     simp only [Act.put, pu]
     refine pw_nil ?_
     (repeat ((fail_if_success with_reducible refine rg ?_); go_step))
     refine wp_region_qw (by kernel_rfl) (by kernel_rfl) ?_
     refine qw_move (by rfl) rfl rfl ?_
     simp only [Act.put, pu]
     refine qw_loadm (by rfl) 32 _ rfl _ (0) rfl r4 ((tsC x y)) (part_all _) _ Try.underlying32 rfl size_st ?_
     simp only [Act.put, pu]
     refine qw_value (by rfl) (.pointer (some ⟨g5, 0, none⟩)) (exec_index_g 42 _ _ rfl g5 0 rfl 0 2 rfl (by decide) _ Try.underlying42 1 Try.sizeOf9) ?_
     simp only [Act.put, pu]
     refine qw_loadc (by rfl) 9 _ rfl _ (0) rfl r5 (.string ⟨da.toArray⟩) rfl Try.isAgg9 ?_
     simp only [Act.put, pu]
     refine qw_callK (by rfl) 11 _ _ rfl Try.func11 (by kernel_rfl) #[.pointer (some ⟨g7, 0, none⟩), .agg (tsC x y), .string ⟨da.toArray⟩] rfl _ (fun w' hb => hC w' (r7.belowAll hb)) ?_
     simp only [Act.put, pu]
     refine qw_move (by rfl) rfl rfl ?_
     simp only [Act.put, pu]
     refine qw_loadm (by rfl) 32 _ rfl _ (0) rfl r4 ((tsC x y)) (part_all _) _ Try.underlying32 rfl size_st ?_
     simp only [Act.put, pu]
     refine qw_value (by rfl) (.pointer (some ⟨g5, 1, none⟩)) (exec_index_g 42 _ _ rfl g5 0 rfl 1 2 rfl (by decide) _ Try.underlying42 1 Try.sizeOf9) ?_
     simp only [Act.put, pu]
     refine qw_loadc (by rfl) 9 _ rfl _ (1) rfl r5 (.string ⟨db.toArray⟩) rfl Try.isAgg9 ?_
     simp only [Act.put, pu]
     refine qw_callK (by rfl) 11 _ _ rfl Try.func11 (by kernel_rfl) #[.pointer (some ⟨g7, 0, none⟩), .agg (tsC x y), .string ⟨db.toArray⟩] rfl _ (fun w' hb => hD w' (r7.belowAll hb)) ?_
     simp only [Act.put, pu]
     refine qw_value (by rfl) (.int .i64 ((u + u' : Nat) : Int)) (x_addz _ _ _ _ rfl ((u : Nat) : Int) ((u' : Nat) : Int) _ rfl rfl hadd (by omega) (by omega)) ?_
     simp only [Act.put, pu]
     refine qw_asg (by rfl) rfl rfl ?_
     simp only [Act.put, pu]
     refine qw_nil ?_
     intro w9 hqb
     replace r4 := r4.belowAll hqb
     replace r5 := r5.belowAll hqb
     replace r7 := r7.belowAll hqb
     replace sb := below_on sb (Nat.le_refl _) hqb
     clear hqb
     by_cases hdd0 : da = db
     ·have hdd := decide_eq_true hdd0
      clear HTW
      (repeat ((fail_if_success with_reducible refine rg ?_); go_step))
      refine wp_region_pw ?_
      refine pw_value (by rfl) (.pointer (some ⟨g5, 0, none⟩)) (exec_index_g 42 _ _ rfl g5 0 rfl 0 2 rfl (by decide) _ Try.underlying42 1 Try.sizeOf9) ?_
      simp only [Act.put, pu]
      refine pw_loadk (by rfl) 9 _ rfl _ (0) rfl r5.r (.string ⟨da.toArray⟩) rfl Try.isAgg9 ?_
      simp only [Act.put, pu]
      refine pw_value (by rfl) (.pointer (some ⟨g5, 1, none⟩)) (exec_index_g 42 _ _ rfl g5 0 rfl 1 2 rfl (by decide) _ Try.underlying42 1 Try.sizeOf9) ?_
      simp only [Act.put, pu]
      refine pw_loadk (by rfl) 9 _ rfl _ (1) rfl r5.r (.string ⟨db.toArray⟩) rfl Try.isAgg9 ?_
      simp only [Act.put, pu]
      refine pw_value (by rfl) (.bool true) (y_eqS _ _ _ _ rfl da db rfl rfl true hdd) ?_
      simp only [Act.put, pu]
      refine pw_mv (by rfl) rfl rfl ?_
      simp only [Act.put, pu]
      refine pw_skip (by rfl) ?_
      simp only [Act.put, pu]
      refine pw_skip (by rfl) ?_
      simp only [Act.put, pu]
      refine pw_pick (by rfl) true (v := .bool true) rfl rfl rfl ?_
      simp only [Act.put, pu]
      refine pw_mv (by rfl) rfl rfl ?_
      simp only [Act.put, pu]
      refine pw_mv (by rfl) rfl rfl ?_
      simp only [Act.put, pu]
      refine pw_loadm (by rfl) 32 _ rfl _ 0 rfl r4.r _ (part_all _) _ Try.underlying32 rfl size_st ?_
      simp only [Act.put, pu]
      refine pw_value (by rfl) (.pointer (some ⟨g5, 0, none⟩)) (exec_index_g 42 _ _ rfl g5 0 rfl 0 2 rfl (by decide) _ Try.underlying42 1 Try.sizeOf9) ?_
      simp only [Act.put, pu]
      refine pw_loadk (by rfl) 9 _ rfl _ (0) rfl r5.r (.string ⟨da.toArray⟩) rfl Try.isAgg9 ?_
      simp only [Act.put, pu]
      refine pw_callB (by rfl) 11 _ _ rfl Try.func11 (by kernel_rfl) #[.pointer (some ⟨g7, 0, none⟩), .agg (tsC x y), .string ⟨da.toArray⟩] rfl _ (hC _ r7) ?_
      intro z23014 k
      simp only [Act.put, pu]
      replace r4 := k.row r4 (by simp <;> omega)
      replace r5 := k.row r5 (by simp <;> omega)
      replace r7 := k.row r7 (by simp <;> omega)
      replace sb := sb.trans (k.below w.heap.size sb.size (by simp <;> omega))
      clear k
      refine pw_value (by rfl) (.bool true) (exec_leq_i _ _ _ _ rfl (((u : Nat) : Int)) (7) rfl rfl true (decide_eq_true (by omega))) ?_
      simp only [Act.put, pu]
      refine pw_pick (by rfl) true (v := .bool true) rfl rfl rfl ?_
      simp only [Act.put, pu]
      refine pw_mv (by rfl) rfl rfl ?_
      simp only [Act.put, pu]
      refine pw_callB (by rfl) 7 _ _ rfl Try.func7 (by kernel_rfl) #[] rfl _ (awake_any _) ?_
      intro z23018 k
      simp only [Act.put, pu]
      replace r4 := k.row r4 (by simp <;> omega)
      replace r5 := k.row r5 (by simp <;> omega)
      replace r7 := k.row r7 (by simp <;> omega)
      replace sb := sb.trans (k.below w.heap.size sb.size (by simp <;> omega))
      clear k
      refine pw_pick (by rfl) true (v := .bool true) rfl rfl rfl ?_
      simp only [Act.put, pu]
      refine pw_as (by rfl) rfl rfl ?_
      simp only [Act.put, pu]
      refine pw_nil ?_
      go_wp2
      go_ret
      exact ⟨rfl, sb⟩
     ·have hdd := decide_eq_false hdd0
      have h7 := HTW.out hdd0
      clear HTW
      (repeat ((fail_if_success with_reducible refine rg ?_); go_step))
      refine wp_region_pw ?_
      refine pw_value (by rfl) (.pointer (some ⟨g5, 0, none⟩)) (exec_index_g 42 _ _ rfl g5 0 rfl 0 2 rfl (by decide) _ Try.underlying42 1 Try.sizeOf9) ?_
      simp only [Act.put, pu]
      refine pw_loadk (by rfl) 9 _ rfl _ (0) rfl r5.r (.string ⟨da.toArray⟩) rfl Try.isAgg9 ?_
      simp only [Act.put, pu]
      refine pw_value (by rfl) (.pointer (some ⟨g5, 1, none⟩)) (exec_index_g 42 _ _ rfl g5 0 rfl 1 2 rfl (by decide) _ Try.underlying42 1 Try.sizeOf9) ?_
      simp only [Act.put, pu]
      refine pw_loadk (by rfl) 9 _ rfl _ (1) rfl r5.r (.string ⟨db.toArray⟩) rfl Try.isAgg9 ?_
      simp only [Act.put, pu]
      refine pw_value (by rfl) (.bool false) (y_eqS _ _ _ _ rfl da db rfl rfl false hdd) ?_
      simp only [Act.put, pu]
      refine pw_mv (by rfl) rfl rfl ?_
      simp only [Act.put, pu]
      refine pw_mv (by rfl) rfl rfl ?_
      simp only [Act.put, pu]
      refine pw_value (by rfl) (.bool true) (exec_leq_i _ _ _ _ rfl (((u + u' : Nat) : Int)) (7) rfl rfl true (decide_eq_true (by omega))) ?_
      simp only [Act.put, pu]
      refine pw_pick (by rfl) false (v := .bool true) rfl rfl rfl ?_
      simp only [Act.put, pu]
      refine pw_mv (by rfl) rfl rfl ?_
      simp only [Act.put, pu]
      refine pw_mv (by rfl) rfl rfl ?_
      simp only [Act.put, pu]
      refine pw_loadm (by rfl) 32 _ rfl _ 0 rfl r4.r _ (part_all _) _ Try.underlying32 rfl size_st ?_
      simp only [Act.put, pu]
      refine pw_value (by rfl) (.pointer (some ⟨g5, 0, none⟩)) (exec_index_g 42 _ _ rfl g5 0 rfl 0 2 rfl (by decide) _ Try.underlying42 1 Try.sizeOf9) ?_
      simp only [Act.put, pu]
      refine pw_loadk (by rfl) 9 _ rfl _ (0) rfl r5.r (.string ⟨da.toArray⟩) rfl Try.isAgg9 ?_
      simp only [Act.put, pu]
      refine pw_callB (by rfl) 11 _ _ rfl Try.func11 (by kernel_rfl) #[.pointer (some ⟨g7, 0, none⟩), .agg (tsC x y), .string ⟨da.toArray⟩] rfl _ (hC _ r7) ?_
      intro z23014 k
      simp only [Act.put, pu]
      replace r4 := k.row r4 (by simp <;> omega)
      replace r5 := k.row r5 (by simp <;> omega)
      replace r7 := k.row r7 (by simp <;> omega)
      replace sb := sb.trans (k.below w.heap.size sb.size (by simp <;> omega))
      clear k
      refine pw_value (by rfl) (.bool true) (exec_leq_i _ _ _ _ rfl (((u : Nat) : Int)) (7) rfl rfl true (decide_eq_true (by omega))) ?_
      simp only [Act.put, pu]
      refine pw_pick (by rfl) true (v := .bool true) rfl rfl rfl ?_
      simp only [Act.put, pu]
      refine pw_mv (by rfl) rfl rfl ?_
      simp only [Act.put, pu]
      refine pw_callB (by rfl) 7 _ _ rfl Try.func7 (by kernel_rfl) #[] rfl _ (awake_any _) ?_
      intro z23018 k
      simp only [Act.put, pu]
      replace r4 := k.row r4 (by simp <;> omega)
      replace r5 := k.row r5 (by simp <;> omega)
      replace r7 := k.row r7 (by simp <;> omega)
      replace sb := sb.trans (k.below w.heap.size sb.size (by simp <;> omega))
      clear k
      refine pw_pick (by rfl) true (v := .bool true) rfl rfl rfl ?_
      simp only [Act.put, pu]
      refine pw_as (by rfl) rfl rfl ?_
      simp only [Act.put, pu]
      refine pw_nil ?_
      go_wp2
      go_ret
      exact ⟨rfl, sb⟩
    | false =>
     clear HT
     (repeat ((fail_if_success with_reducible refine rg ?_); go_step))
     refine wp_region_pw ?_
     refine pw_mv (by rfl) rfl rfl ?_
     simp only [Act.put, pu]
     refine pw_mv (by rfl) rfl rfl ?_
     simp only [Act.put, pu]
     refine pw_value (by rfl) (.int .i64 (L.length : Nat)) (exec_len_s 22 _ rfl (ab) (L.length) (c) rfl sl_rv) ?_
     simp only [Act.put, pu]
     refine pw_value (by rfl) (.bool false) (exec_lt_b _ _ _ _ rfl ((i : Nat)) ((L.length : Nat)) rfl rfl false (decide_eq_false h1)) ?_
     simp only [Act.put, pu]
     refine pw_nil ?_
     (repeat ((fail_if_success with_reducible refine rg ?_); go_step))
     refine wp_region_pw ?_
     refine pw_mv (by rfl) rfl rfl ?_
     simp only [Act.put, pu]
     refine pw_value (by rfl) (.pointer (some ⟨g4, 1, none⟩)) (exec_field 32 _ 1 rfl g4 0 rfl _ Try.underlying32 _ rfl 0 Try.sizeOf3) ?_
     simp only [Act.put, pu]
     refine pw_loadk (by rfl) 3 _ rfl _ (1) rfl r4.r (.int .i64 y) rfl Try.isAgg3 ?_
     simp only [Act.put, pu]
     refine pw_value (by rfl) (.pointer (some ⟨g4, 0, none⟩)) (exec_field 32 _ 0 rfl g4 0 rfl _ Try.underlying32 _ rfl 0 Try.sizeOf3) ?_
     simp only [Act.put, pu]
     refine pw_loadk (by rfl) 3 _ rfl _ (0) rfl r4.r (.int .i64 x) rfl Try.isAgg3 ?_
     simp only [Act.put, pu]
     refine pw_value (by rfl) (.int .i64 (x % 2)) (x_par _ _ _ rfl (x) rfl rfl) ?_
     simp only [Act.put, pu]
     refine pw_callB (by rfl) 13 _ _ rfl Try.func13 (by kernel_rfl) #[.pointer (some ⟨g7, 0, none⟩), .int .i64 1, .int .i64 y, .int .i64 (x % 2)] rfl _ (hA _ r7) ?_
     intro z19006 k
     simp only [Act.put, pu]
     replace r4 := k.row r4 (by simp <;> omega)
     replace r5 := k.row r5 (by simp <;> omega)
     replace r7 := k.row r7 (by simp <;> omega)
     replace sb := sb.trans (k.below w.heap.size sb.size (by simp <;> omega))
     clear k
     refine pw_mv (by rfl) rfl rfl ?_
     simp only [Act.put, pu]
     refine pw_ext (by rfl) rfl rfl rfl ?_
     simp only [Act.put, pu]
     refine pw_ext (by rfl) rfl rfl rfl ?_
     simp only [Act.put, pu]
     refine pw_new (by rfl) 32 rfl _ zero_st ?_
     intro g14 z19010 n0 r14 k
     simp only [Act.put, pu]
     have d4x14 := Nat.lt_of_lt_of_le r4.lt n0
     have d5x14 := Nat.lt_of_lt_of_le r5.lt n0
     have d7x14 := Nat.lt_of_lt_of_le r7.lt n0
     have b14 := Nat.le_trans sb.size n0
     clear n0
     replace r4 := k.row r4 (by simp <;> omega)
     replace r5 := k.row r5 (by simp <;> omega)
     replace r7 := k.row r7 (by simp <;> omega)
     replace sb := sb.trans (k.below w.heap.size sb.size (by simp <;> omega))
     clear k
     refine pw_put (by rfl) 32 _ _ rfl _ rfl r14 (tsC T.1 T.2.1) rfl (by exact size_st) (by rfl) (st_one _ _) ?_
     clear r14
     intro z19011 r14 k
     simp only [Act.put]
     replace r4 := k.row r4 (by simp <;> omega)
     replace r5 := k.row r5 (by simp <;> omega)
     replace r7 := k.row r7 (by simp <;> omega)
     replace sb := sb.trans (k.below w.heap.size sb.size (by simp <;> omega))
     clear k
     refine pw_as (by rfl) rfl rfl ?_
     simp only [Act.put, pu]
     refine pw_nil ?_
     (repeat ((fail_if_success with_reducible refine rg ?_); go_step))
     refine wp_region_pw ?_
     refine pw_mv (by rfl) rfl rfl ?_
     simp only [Act.put, pu]
     refine pw_mv (by rfl) rfl rfl ?_
     simp only [Act.put, pu]
     refine pw_skip (by rfl) ?_
     simp only [Act.put, pu]
     refine pw_skip (by rfl) ?_
     simp only [Act.put, pu]
     refine pw_skip (by rfl) ?_
     simp only [Act.put, pu]
     refine pw_skip (by rfl) ?_
     simp only [Act.put, pu]
     refine pw_skip (by rfl) ?_
     simp only [Act.put, pu]
     refine pw_skip (by rfl) ?_
     simp only [Act.put, pu]
     refine pw_skip (by rfl) ?_
     simp only [Act.put, pu]
     refine pw_skip (by rfl) ?_
     simp only [Act.put, pu]
     refine pw_skip (by rfl) ?_
     simp only [Act.put, pu]
     refine pw_pick (by rfl) false (v := .bool false) rfl rfl rfl ?_
     simp only [Act.put, pu]
     refine pw_nil ?_
     (repeat ((fail_if_success with_reducible refine rg ?_); go_step))
     refine wp_region_qw (by kernel_rfl) (by kernel_rfl) ?_
     refine qw_move (by rfl) rfl rfl ?_
     simp only [Act.put, pu]
     refine qw_loadm (by rfl) 32 _ rfl _ (0) rfl r4 ((tsC x y)) (part_all _) _ Try.underlying32 rfl size_st ?_
     simp only [Act.put, pu]
     refine qw_value (by rfl) (.pointer (some ⟨g5, 0, none⟩)) (exec_index_g 42 _ _ rfl g5 0 rfl 0 2 rfl (by decide) _ Try.underlying42 1 Try.sizeOf9) ?_
     simp only [Act.put, pu]
     refine qw_loadc (by rfl) 9 _ rfl _ (0) rfl r5 (.string ⟨da.toArray⟩) rfl Try.isAgg9 ?_
     simp only [Act.put, pu]
     refine qw_callK (by rfl) 11 _ _ rfl Try.func11 (by kernel_rfl) #[.pointer (some ⟨g7, 0, none⟩), .agg (tsC x y), .string ⟨da.toArray⟩] rfl _ (fun w' hb => hC w' (r7.belowAll hb)) ?_
     simp only [Act.put, pu]
     refine qw_move (by rfl) rfl rfl ?_
     simp only [Act.put, pu]
     refine qw_loadm (by rfl) 32 _ rfl _ (0) rfl r4 ((tsC x y)) (part_all _) _ Try.underlying32 rfl size_st ?_
     simp only [Act.put, pu]
     refine qw_value (by rfl) (.pointer (some ⟨g5, 1, none⟩)) (exec_index_g 42 _ _ rfl g5 0 rfl 1 2 rfl (by decide) _ Try.underlying42 1 Try.sizeOf9) ?_
     simp only [Act.put, pu]
     refine qw_loadc (by rfl) 9 _ rfl _ (1) rfl r5 (.string ⟨db.toArray⟩) rfl Try.isAgg9 ?_
     simp only [Act.put, pu]
     refine qw_callK (by rfl) 11 _ _ rfl Try.func11 (by kernel_rfl) #[.pointer (some ⟨g7, 0, none⟩), .agg (tsC x y), .string ⟨db.toArray⟩] rfl _ (fun w' hb => hD w' (r7.belowAll hb)) ?_
     simp only [Act.put, pu]
     refine qw_value (by rfl) (.int .i64 ((u + u' : Nat) : Int)) (x_addz _ _ _ _ rfl ((u : Nat) : Int) ((u' : Nat) : Int) _ rfl rfl hadd (by omega) (by omega)) ?_
     simp only [Act.put, pu]
     refine qw_asg (by rfl) rfl rfl ?_
     simp only [Act.put, pu]
     refine qw_nil ?_
     intro w9 hqb
     replace r4 := r4.belowAll hqb
     replace r5 := r5.belowAll hqb
     replace r7 := r7.belowAll hqb
     replace sb := below_on sb (Nat.le_refl _) hqb
     clear hqb
     by_cases hdd0 : da = db
     ·have hdd := decide_eq_true hdd0
      clear HTW
      (repeat ((fail_if_success with_reducible refine rg ?_); go_step))
      refine wp_region_pw ?_
      refine pw_value (by rfl) (.pointer (some ⟨g5, 0, none⟩)) (exec_index_g 42 _ _ rfl g5 0 rfl 0 2 rfl (by decide) _ Try.underlying42 1 Try.sizeOf9) ?_
      simp only [Act.put, pu]
      refine pw_loadk (by rfl) 9 _ rfl _ (0) rfl r5.r (.string ⟨da.toArray⟩) rfl Try.isAgg9 ?_
      simp only [Act.put, pu]
      refine pw_value (by rfl) (.pointer (some ⟨g5, 1, none⟩)) (exec_index_g 42 _ _ rfl g5 0 rfl 1 2 rfl (by decide) _ Try.underlying42 1 Try.sizeOf9) ?_
      simp only [Act.put, pu]
      refine pw_loadk (by rfl) 9 _ rfl _ (1) rfl r5.r (.string ⟨db.toArray⟩) rfl Try.isAgg9 ?_
      simp only [Act.put, pu]
      refine pw_value (by rfl) (.bool true) (y_eqS _ _ _ _ rfl da db rfl rfl true hdd) ?_
      simp only [Act.put, pu]
      refine pw_mv (by rfl) rfl rfl ?_
      simp only [Act.put, pu]
      refine pw_skip (by rfl) ?_
      simp only [Act.put, pu]
      refine pw_skip (by rfl) ?_
      simp only [Act.put, pu]
      refine pw_pick (by rfl) true (v := .bool true) rfl rfl rfl ?_
      simp only [Act.put, pu]
      refine pw_mv (by rfl) rfl rfl ?_
      simp only [Act.put, pu]
      refine pw_mv (by rfl) rfl rfl ?_
      simp only [Act.put, pu]
      refine pw_loadm (by rfl) 32 _ rfl _ 0 rfl r4.r _ (part_all _) _ Try.underlying32 rfl size_st ?_
      simp only [Act.put, pu]
      refine pw_value (by rfl) (.pointer (some ⟨g5, 0, none⟩)) (exec_index_g 42 _ _ rfl g5 0 rfl 0 2 rfl (by decide) _ Try.underlying42 1 Try.sizeOf9) ?_
      simp only [Act.put, pu]
      refine pw_loadk (by rfl) 9 _ rfl _ (0) rfl r5.r (.string ⟨da.toArray⟩) rfl Try.isAgg9 ?_
      simp only [Act.put, pu]
      refine pw_callB (by rfl) 11 _ _ rfl Try.func11 (by kernel_rfl) #[.pointer (some ⟨g7, 0, none⟩), .agg (tsC x y), .string ⟨da.toArray⟩] rfl _ (hC _ r7) ?_
      intro z23014 k
      simp only [Act.put, pu]
      replace r4 := k.row r4 (by simp <;> omega)
      replace r5 := k.row r5 (by simp <;> omega)
      replace r7 := k.row r7 (by simp <;> omega)
      replace sb := sb.trans (k.below w.heap.size sb.size (by simp <;> omega))
      clear k
      refine pw_value (by rfl) (.bool true) (exec_leq_i _ _ _ _ rfl (((u : Nat) : Int)) (7) rfl rfl true (decide_eq_true (by omega))) ?_
      simp only [Act.put, pu]
      refine pw_pick (by rfl) true (v := .bool true) rfl rfl rfl ?_
      simp only [Act.put, pu]
      refine pw_mv (by rfl) rfl rfl ?_
      simp only [Act.put, pu]
      refine pw_callB (by rfl) 7 _ _ rfl Try.func7 (by kernel_rfl) #[] rfl _ (awake_any _) ?_
      intro z23018 k
      simp only [Act.put, pu]
      replace r4 := k.row r4 (by simp <;> omega)
      replace r5 := k.row r5 (by simp <;> omega)
      replace r7 := k.row r7 (by simp <;> omega)
      replace sb := sb.trans (k.below w.heap.size sb.size (by simp <;> omega))
      clear k
      refine pw_pick (by rfl) true (v := .bool true) rfl rfl rfl ?_
      simp only [Act.put, pu]
      refine pw_as (by rfl) rfl rfl ?_
      simp only [Act.put, pu]
      refine pw_nil ?_
      go_wp2
      go_ret
      exact ⟨rfl, sb⟩
     ·have hdd := decide_eq_false hdd0
      have h7 := HTW.out hdd0
      clear HTW
      (repeat ((fail_if_success with_reducible refine rg ?_); go_step))
      refine wp_region_pw ?_
      refine pw_value (by rfl) (.pointer (some ⟨g5, 0, none⟩)) (exec_index_g 42 _ _ rfl g5 0 rfl 0 2 rfl (by decide) _ Try.underlying42 1 Try.sizeOf9) ?_
      simp only [Act.put, pu]
      refine pw_loadk (by rfl) 9 _ rfl _ (0) rfl r5.r (.string ⟨da.toArray⟩) rfl Try.isAgg9 ?_
      simp only [Act.put, pu]
      refine pw_value (by rfl) (.pointer (some ⟨g5, 1, none⟩)) (exec_index_g 42 _ _ rfl g5 0 rfl 1 2 rfl (by decide) _ Try.underlying42 1 Try.sizeOf9) ?_
      simp only [Act.put, pu]
      refine pw_loadk (by rfl) 9 _ rfl _ (1) rfl r5.r (.string ⟨db.toArray⟩) rfl Try.isAgg9 ?_
      simp only [Act.put, pu]
      refine pw_value (by rfl) (.bool false) (y_eqS _ _ _ _ rfl da db rfl rfl false hdd) ?_
      simp only [Act.put, pu]
      refine pw_mv (by rfl) rfl rfl ?_
      simp only [Act.put, pu]
      refine pw_mv (by rfl) rfl rfl ?_
      simp only [Act.put, pu]
      refine pw_value (by rfl) (.bool true) (exec_leq_i _ _ _ _ rfl (((u + u' : Nat) : Int)) (7) rfl rfl true (decide_eq_true (by omega))) ?_
      simp only [Act.put, pu]
      refine pw_pick (by rfl) false (v := .bool true) rfl rfl rfl ?_
      simp only [Act.put, pu]
      refine pw_mv (by rfl) rfl rfl ?_
      simp only [Act.put, pu]
      refine pw_mv (by rfl) rfl rfl ?_
      simp only [Act.put, pu]
      refine pw_loadm (by rfl) 32 _ rfl _ 0 rfl r4.r _ (part_all _) _ Try.underlying32 rfl size_st ?_
      simp only [Act.put, pu]
      refine pw_value (by rfl) (.pointer (some ⟨g5, 0, none⟩)) (exec_index_g 42 _ _ rfl g5 0 rfl 0 2 rfl (by decide) _ Try.underlying42 1 Try.sizeOf9) ?_
      simp only [Act.put, pu]
      refine pw_loadk (by rfl) 9 _ rfl _ (0) rfl r5.r (.string ⟨da.toArray⟩) rfl Try.isAgg9 ?_
      simp only [Act.put, pu]
      refine pw_callB (by rfl) 11 _ _ rfl Try.func11 (by kernel_rfl) #[.pointer (some ⟨g7, 0, none⟩), .agg (tsC x y), .string ⟨da.toArray⟩] rfl _ (hC _ r7) ?_
      intro z23014 k
      simp only [Act.put, pu]
      replace r4 := k.row r4 (by simp <;> omega)
      replace r5 := k.row r5 (by simp <;> omega)
      replace r7 := k.row r7 (by simp <;> omega)
      replace sb := sb.trans (k.below w.heap.size sb.size (by simp <;> omega))
      clear k
      refine pw_value (by rfl) (.bool true) (exec_leq_i _ _ _ _ rfl (((u : Nat) : Int)) (7) rfl rfl true (decide_eq_true (by omega))) ?_
      simp only [Act.put, pu]
      refine pw_pick (by rfl) true (v := .bool true) rfl rfl rfl ?_
      simp only [Act.put, pu]
      refine pw_mv (by rfl) rfl rfl ?_
      simp only [Act.put, pu]
      refine pw_callB (by rfl) 7 _ _ rfl Try.func7 (by kernel_rfl) #[] rfl _ (awake_any _) ?_
      intro z23018 k
      simp only [Act.put, pu]
      replace r4 := k.row r4 (by simp <;> omega)
      replace r5 := k.row r5 (by simp <;> omega)
      replace r7 := k.row r7 (by simp <;> omega)
      replace sb := sb.trans (k.below w.heap.size sb.size (by simp <;> omega))
      clear k
      refine pw_pick (by rfl) true (v := .bool true) rfl rfl rfl ?_
      simp only [Act.put, pu]
      refine pw_as (by rfl) rfl rfl ?_
      simp only [Act.put, pu]
      refine pw_nil ?_
      go_wp2
      go_ret
      exact ⟨rfl, sb⟩
   | succ yv =>
    have hlt : i < L.length := by omega
    obtain ⟨X, hxg, hx, _⟩ := ls_at hlt
    have hx40 := HD40.out i hlt
    rw [hxg] at hx40
    have HXg : Hid (lsC L i = rvA X) := hx
    have hPut := fun w' r => put_any g7 7 V X.1 X.2.1 X.2.2.1 X.2.2.2 w' r (by omega) (by omega)
    obtain ⟨V2, hV2⟩ : ∃ V2, puV 7 V X.1 X.2.1 X.2.2.1 X.2.2.2 = V2 := ⟨_, rfl⟩
    have hC := fun w' (r : Row w' g7 (voC 7 V) 51) => cnt_any g7 7 V x y da w' r (by omega) (by omega)
    have hD := fun w' (r : Row w' g7 (voC 7 V2) 51) => cnt_any g7 7 V2 x y da w' r (by omega) (by omega)
    have hle := once_le (V := V) (x := x) (y := y) (da := da) (k := X.1) (s := X.2.1) (c := X.2.2.1) (d := X.2.2.2)
    have HK := onP_keep (k := X.1) (s := X.2.1) (c := X.2.2.1) (d := X.2.2.2) HO.out
    have HNw := onP_new (V := V) (k := X.1) (s := X.2.1) (c := X.2.2.1) (d := X.2.2.2)
    rw [hV2] at hPut hle HK HNw
    have HLE : Hid (puB 7 V X.1 X.2.1 X.2.2.1 = false ∨ ¬ (X.2.1 = x ∧ X.2.2.1 = y) → cntN 7 V2 x y da ≤ cntN 7 V x y da) := hle
    have HKK : Hid ((pb = true → X.1 = 1 → X.2.2.1 = y → X.2.1 % 2 = x % 2 → puB 7 V X.1 X.2.1 X.2.2.1 = true → x < X.2.1 → False) → onP V2 x y da pb) := HK
    have HNN : Hid (X.1 = 1 → puB 7 V X.1 X.2.1 X.2.2.1 = true → onP V2 X.2.1 X.2.2.1 X.2.2.2 true) := HNw
    clear hle HK HNw hV2 hx hxg hx40 HO
    obtain ⟨B, hB⟩ : ∃ B, puB 7 V X.1 X.2.1 X.2.2.1 = B := ⟨_, rfl⟩
    rw [hB] at hPut HLE HKK HNN
    clear hB
    generalize cntN 7 V x y da = u at *
    generalize cntN 7 V2 x y da = u2 at *
    obtain h0 | ⟨rfl, rB, hbt⟩ := (HB.out.below sb).at'
    ·exact absurd h0 (by omega)
    have hbx := hbt i hlt
    rw [HXg.out] at hbx
    clear hbt HXg
    (repeat ((fail_if_success with_reducible refine rg ?_); go_step))
    refine wp_region_pw ?_
    refine pw_mv (by rfl) rfl rfl ?_
    simp only [Act.put, pu]
    refine pw_mv (by rfl) rfl rfl ?_
    simp only [Act.put, pu]
    refine pw_value (by rfl) (.int .i64 (L.length : Nat)) (exec_len_s 22 _ rfl (some ⟨gb, ob, none⟩) (L.length) (c) rfl sl_rv) ?_
    simp only [Act.put, pu]
    refine pw_value (by rfl) (.bool true) (exec_lt_b _ _ _ _ rfl ((i : Nat)) ((L.length : Nat)) rfl rfl true (decide_eq_true (by omega))) ?_
    simp only [Act.put, pu]
    refine pw_nil ?_
    (repeat ((fail_if_success with_reducible refine rg ?_); go_step))
    refine wp_region_pw ?_
    refine pw_mv (by rfl) rfl rfl ?_
    simp only [Act.put, pu]
    refine pw_mv (by rfl) rfl rfl ?_
    simp only [Act.put, pu]
    refine pw_value (by rfl) (.pointer (some ⟨gb, ob + i * 4, none⟩)) ((exec_index_s 22 _ _ rfl gb ob (L.length) (c) rfl (i) rfl (hlt) _ Try.underlying22 4 Try.sizeOf34)) ?_
    simp only [Act.put, pu]
    refine pw_loadm (by rfl) 34 _ rfl _ (ob + i * 4) rfl rB ((rvA X)) hbx _ Try.underlying34 rfl size_rv ?_
    simp only [Act.put, pu]
    refine pw_new (by rfl) 34 rfl _ zero_rv ?_
    intro g11 z10004 n0 r11 k
    simp only [Act.put, pu]
    have d4x11 := Nat.lt_of_lt_of_le r4.lt n0
    have d5x11 := Nat.lt_of_lt_of_le r5.lt n0
    have d7x11 := Nat.lt_of_lt_of_le r7.lt n0
    have b11 := Nat.le_trans sb.size n0
    clear n0
    replace r4 := k.row r4 (by simp <;> omega)
    replace r5 := k.row r5 (by simp <;> omega)
    replace r7 := k.row r7 (by simp <;> omega)
    replace sb := sb.trans (k.below w.heap.size sb.size (by simp <;> omega))
    clear k
    refine pw_put (by rfl) 34 _ _ rfl _ rfl r11 (rvA X) rfl (by exact size_rv) (by rfl) (rv_one _) ?_
    clear r11
    intro z10005 r11 k
    simp only [Act.put]
    replace r4 := k.row r4 (by simp <;> omega)
    replace r5 := k.row r5 (by simp <;> omega)
    replace r7 := k.row r7 (by simp <;> omega)
    replace sb := sb.trans (k.below w.heap.size sb.size (by simp <;> omega))
    clear k
    refine pw_nil ?_
    clear rB hbx
    (repeat ((fail_if_success with_reducible refine rg ?_); go_step))
    refine wp_region_pw ?_
    refine pw_mv (by rfl) rfl rfl ?_
    simp only [Act.put, pu]
    refine pw_loadm (by rfl) 32 _ rfl _ 0 rfl r4.r _ (part_all _) _ Try.underlying32 rfl size_st ?_
    simp only [Act.put, pu]
    refine pw_value (by rfl) (.pointer (some ⟨g5, 0, none⟩)) (exec_index_g 42 _ _ rfl g5 0 rfl 0 2 rfl (by decide) _ Try.underlying42 1 Try.sizeOf9) ?_
    simp only [Act.put, pu]
    refine pw_loadk (by rfl) 9 _ rfl _ (0) rfl r5.r (.string ⟨da.toArray⟩) rfl Try.isAgg9 ?_
    simp only [Act.put, pu]
    refine pw_callB (by rfl) 11 _ _ rfl Try.func11 (by kernel_rfl) #[.pointer (some ⟨g7, 0, none⟩), .agg (tsC x y), .string ⟨da.toArray⟩] rfl _ (hC _ r7) ?_
    intro z11004 k
    simp only [Act.put, pu]
    replace r4 := k.row r4 (by simp <;> omega)
    replace r5 := k.row r5 (by simp <;> omega)
    replace r7 := k.row r7 (by simp <;> omega)
    replace r11 := k.row r11 (by simp <;> omega)
    replace sb := sb.trans (k.below w.heap.size sb.size (by simp <;> omega))
    clear k
    refine pw_as (by rfl) rfl rfl ?_
    simp only [Act.put, pu]
    refine pw_nil ?_
    (repeat ((fail_if_success with_reducible refine rg ?_); go_step))
    refine wp_region_pw ?_
    refine pw_mv (by rfl) rfl rfl ?_
    simp only [Act.put, pu]
    refine pw_value (by rfl) (.pointer (some ⟨g11, 0, none⟩)) (exec_field 34 _ 0 rfl g11 (0) rfl _ Try.underlying34 _ rfl 0 Try.sizeOf3) ?_
    simp only [Act.put, pu]
    refine pw_loadk (by rfl) 3 _ rfl _ (0) rfl r11.r (.int .i64 X.1) rfl Try.isAgg3 ?_
    simp only [Act.put, pu]
    refine pw_value (by rfl) (.pointer (some ⟨g11, 1, none⟩)) (exec_field 34 _ 1 rfl g11 (0) rfl _ Try.underlying34 _ rfl 1 Try.sizeOf32) ?_
    simp only [Act.put, pu]
    refine pw_loadm (by rfl) 32 _ rfl _ (1) rfl r11.r ((tsC X.2.1 X.2.2.1)) (rv_st X) _ Try.underlying32 rfl size_st ?_
    simp only [Act.put, pu]
    refine pw_value (by rfl) (.pointer (some ⟨g11, 3, none⟩)) (exec_field 34 _ 2 rfl g11 (0) rfl _ Try.underlying34 _ rfl 0 Try.sizeOf9) ?_
    simp only [Act.put, pu]
    refine pw_loadk (by rfl) 9 _ rfl _ (3) rfl r11.r (.string ⟨X.2.2.2.toArray⟩) rfl Try.isAgg9 ?_
    simp only [Act.put, pu]
    refine pw_callE (by rfl) 10 _ _ rfl Try.func10 (by kernel_rfl) #[.pointer (some ⟨g7, 0, none⟩), .int .i64 X.1, .agg (tsC X.2.1 X.2.2.1), .string ⟨X.2.2.2.toArray⟩] rfl (hPut _ r7) ?_
    have cr7 := r7.lt
    clear r7
    rintro _ z12007 ⟨rfl, r7, k⟩
    refine ⟨_, rfl, ?_⟩
    simp only [Act.put, pu]
    clear cr7
    replace r4 := k.row r4 (by simp <;> omega)
    replace r5 := k.row r5 (by simp <;> omega)
    replace r11 := k.row r11 (by simp <;> omega)
    replace sb := sb.trans (k.below w.heap.size sb.size (by simp <;> omega))
    clear k
    refine pw_as (by rfl) rfl rfl ?_
    simp only [Act.put, pu]
    refine pw_nil ?_
    clear hC hPut
    by_cases hk1 : X.1 = 1
    rotate_left
    ·have hk1' : ¬ X.1 = 1 := hk1
     have hon := HKK.out (fun hp hk hc hpar hB hlt => hk1 hk)
     clear HKK HNN
     (repeat ((fail_if_success with_reducible refine rg ?_); go_step))
     refine wp_region_pw ?_
     refine pw_value (by rfl) (.pointer (some ⟨g11, 0, none⟩)) (exec_field 34 _ 0 rfl g11 (0) rfl _ Try.underlying34 _ rfl 0 Try.sizeOf3) ?_
     simp only [Act.put, pu]
     refine pw_loadk (by rfl) 3 _ rfl _ (0) rfl r11.r (.int .i64 X.1) rfl Try.isAgg3 ?_
     simp only [Act.put, pu]
     refine pw_value (by rfl) (.bool false) (exec_eql_k .i64 _ _ _ _ rfl (X.1) (1) rfl rfl false (decide_eq_false (by omega))) ?_
     simp only [Act.put, pu]
     refine pw_mv (by rfl) rfl rfl ?_
     simp only [Act.put, pu]
     refine pw_skip (by rfl) ?_
     simp only [Act.put, pu]
     refine pw_skip (by rfl) ?_
     simp only [Act.put, pu]
     refine pw_skip (by rfl) ?_
     simp only [Act.put, pu]
     refine pw_skip (by rfl) ?_
     simp only [Act.put, pu]
     refine pw_pick (by rfl) false (v := .bool false) rfl rfl rfl ?_
     simp only [Act.put, pu]
     refine pw_mv (by rfl) rfl rfl ?_
     simp only [Act.put, pu]
     refine pw_skip (by rfl) ?_
     simp only [Act.put, pu]
     refine pw_skip (by rfl) ?_
     simp only [Act.put, pu]
     refine pw_skip (by rfl) ?_
     simp only [Act.put, pu]
     refine pw_skip (by rfl) ?_
     simp only [Act.put, pu]
     refine pw_skip (by rfl) ?_
     simp only [Act.put, pu]
     refine pw_pick (by rfl) false (v := .bool false) rfl rfl rfl ?_
     simp only [Act.put, pu]
     refine pw_mv (by rfl) rfl rfl ?_
     simp only [Act.put, pu]
     refine pw_skip (by rfl) ?_
     simp only [Act.put, pu]
     refine pw_pick (by rfl) false (v := .bool false) rfl rfl rfl ?_
     simp only [Act.put, pu]
     refine pw_nil ?_
     (repeat ((fail_if_success with_reducible refine rg ?_); go_step))
     refine wp_region_pw ?_
     refine pw_value (by rfl) (.pointer (some ⟨g11, 0, none⟩)) (exec_field 34 _ 0 rfl g11 (0) rfl _ Try.underlying34 _ rfl 0 Try.sizeOf3) ?_
     simp only [Act.put, pu]
     refine pw_loadk (by rfl) 3 _ rfl _ (0) rfl r11.r (.int .i64 X.1) rfl Try.isAgg3 ?_
     simp only [Act.put, pu]
     refine pw_value (by rfl) (.bool false) (exec_eql_k .i64 _ _ _ _ rfl (X.1) (1) rfl rfl false (decide_eq_false (by omega))) ?_
     simp only [Act.put, pu]
     refine pw_mv (by rfl) rfl rfl ?_
     simp only [Act.put, pu]
     refine pw_skip (by rfl) ?_
     simp only [Act.put, pu]
     refine pw_skip (by rfl) ?_
     simp only [Act.put, pu]
     refine pw_skip (by rfl) ?_
     simp only [Act.put, pu]
     refine pw_skip (by rfl) ?_
     simp only [Act.put, pu]
     refine pw_skip (by rfl) ?_
     simp only [Act.put, pu]
     refine pw_skip (by rfl) ?_
     simp only [Act.put, pu]
     refine pw_pick (by rfl) false (v := .bool false) rfl rfl rfl ?_
     simp only [Act.put, pu]
     refine pw_mv (by rfl) rfl rfl ?_
     simp only [Act.put, pu]
     refine pw_skip (by rfl) ?_
     simp only [Act.put, pu]
     refine pw_skip (by rfl) ?_
     simp only [Act.put, pu]
     refine pw_skip (by rfl) ?_
     simp only [Act.put, pu]
     refine pw_skip (by rfl) ?_
     simp only [Act.put, pu]
     refine pw_skip (by rfl) ?_
     simp only [Act.put, pu]
     refine pw_skip (by rfl) ?_
     simp only [Act.put, pu]
     refine pw_skip (by rfl) ?_
     simp only [Act.put, pu]
     refine pw_pick (by rfl) false (v := .bool false) rfl rfl rfl ?_
     simp only [Act.put, pu]
     refine pw_mv (by rfl) rfl rfl ?_
     simp only [Act.put, pu]
     refine pw_skip (by rfl) ?_
     simp only [Act.put, pu]
     refine pw_pick (by rfl) false (v := .bool false) rfl rfl rfl ?_
     simp only [Act.put, pu]
     refine pw_nil ?_
     by_cases hgt : ((u2 : Nat) : Int) > ((u : Nat) : Int)
     ·obtain ⟨rfl, hneq⟩ : B = true ∧ (!decide (X.2.1 = x ∧ X.2.2.1 = y)) = false := by
       cases B with
       | false => have := HLE.out (.inl rfl); omega
       | true =>
        refine ⟨rfl, ?_⟩
        by_cases e : X.2.1 = x ∧ X.2.2.1 = y
        ·rw [decide_eq_true e]; rfl
        ·have := HLE.out (.inr e); omega
      clear HLE
      (repeat ((fail_if_success with_reducible refine rg ?_); go_step))
      refine wp_region_pw ?_
      refine pw_mv (by rfl) rfl rfl ?_
      simp only [Act.put, pu]
      refine pw_loadm (by rfl) 32 _ rfl _ 0 rfl r4.r _ (part_all _) _ Try.underlying32 rfl size_st ?_
      simp only [Act.put, pu]
      refine pw_value (by rfl) (.pointer (some ⟨g5, 0, none⟩)) (exec_index_g 42 _ _ rfl g5 0 rfl 0 2 rfl (by decide) _ Try.underlying42 1 Try.sizeOf9) ?_
      simp only [Act.put, pu]
      refine pw_loadk (by rfl) 9 _ rfl _ (0) rfl r5.r (.string ⟨da.toArray⟩) rfl Try.isAgg9 ?_
      simp only [Act.put, pu]
      refine pw_callB (by rfl) 11 _ _ rfl Try.func11 (by kernel_rfl) #[.pointer (some ⟨g7, 0, none⟩), .agg (tsC x y), .string ⟨da.toArray⟩] rfl _ (hD _ r7) ?_
      intro z17004 k
      simp only [Act.put, pu]
      replace r4 := k.row r4 (by simp <;> omega)
      replace r5 := k.row r5 (by simp <;> omega)
      replace r7 := k.row r7 (by simp <;> omega)
      replace r11 := k.row r11 (by simp <;> omega)
      replace sb := sb.trans (k.below w.heap.size sb.size (by simp <;> omega))
      clear k
      refine pw_mv (by rfl) rfl rfl ?_
      simp only [Act.put, pu]
      refine pw_value (by rfl) (.bool true) (exec_gt_i _ _ _ _ rfl (((u2 : Nat) : Int)) (((u : Nat) : Int)) rfl rfl true (decide_eq_true (by omega))) ?_
      simp only [Act.put, pu]
      refine pw_mv (by rfl) rfl rfl ?_
      simp only [Act.put, pu]
      refine pw_mv (by rfl) rfl rfl ?_
      simp only [Act.put, pu]
      refine pw_value (by rfl) (.bool false) (exec_not _ _ rfl true rfl) ?_
      simp only [Act.put, pu]
      refine pw_mv (by rfl) rfl rfl ?_
      simp only [Act.put, pu]
      refine pw_value (by rfl) (.pointer (some ⟨g11, 1, none⟩)) (exec_field 34 _ 1 rfl g11 (0) rfl _ Try.underlying34 _ rfl 1 Try.sizeOf32) ?_
      simp only [Act.put, pu]
      refine pw_loadm (by rfl) 32 _ rfl _ (1) rfl r11.r ((tsC X.2.1 X.2.2.1)) (rv_st X) _ Try.underlying32 rfl size_st ?_
      simp only [Act.put, pu]
      refine pw_loadm (by rfl) 32 _ rfl _ 0 rfl r4.r _ (part_all _) _ Try.underlying32 rfl size_st ?_
      simp only [Act.put, pu]
      refine pw_value (by rfl) (.bool false) (exec_neq_st _ _ _ rfl X.2.1 X.2.2.1 x y rfl rfl false hneq) ?_
      simp only [Act.put, pu]
      refine pw_pick (by rfl) false (v := .bool false) rfl rfl rfl ?_
      simp only [Act.put, pu]
      refine pw_pick (by rfl) true (v := .bool false) rfl rfl rfl ?_
      simp only [Act.put, pu]
      refine pw_nil ?_
      (repeat ((fail_if_success with_reducible refine rg ?_); go_step))
      refine wp_region_pw ?_
      refine pw_mv (by rfl) rfl rfl ?_
      simp only [Act.put, pu]
      refine pw_value (by rfl) (.int .i64 (((i + 1 : Nat) : Int))) (x_addz _ _ _ _ rfl ((i : Nat)) (1) (((i + 1 : Nat) : Int)) rfl rfl (by omega) (by omega) (by omega)) ?_
      simp only [Act.put, pu]
      refine pw_as (by rfl) rfl rfl ?_
      simp only [Act.put, pu]
      refine pw_nil ?_
      go_wp2
      go_roundg yv
      case measure => omega
      case rel => exact ⟨i + 1, V2, _, by omega, rfl, rfl, r4, r5, r7, hon, sb⟩
     ·clear HLE
      (repeat ((fail_if_success with_reducible refine rg ?_); go_step))
      refine wp_region_pw ?_
      refine pw_mv (by rfl) rfl rfl ?_
      simp only [Act.put, pu]
      refine pw_loadm (by rfl) 32 _ rfl _ 0 rfl r4.r _ (part_all _) _ Try.underlying32 rfl size_st ?_
      simp only [Act.put, pu]
      refine pw_value (by rfl) (.pointer (some ⟨g5, 0, none⟩)) (exec_index_g 42 _ _ rfl g5 0 rfl 0 2 rfl (by decide) _ Try.underlying42 1 Try.sizeOf9) ?_
      simp only [Act.put, pu]
      refine pw_loadk (by rfl) 9 _ rfl _ (0) rfl r5.r (.string ⟨da.toArray⟩) rfl Try.isAgg9 ?_
      simp only [Act.put, pu]
      refine pw_callB (by rfl) 11 _ _ rfl Try.func11 (by kernel_rfl) #[.pointer (some ⟨g7, 0, none⟩), .agg (tsC x y), .string ⟨da.toArray⟩] rfl _ (hD _ r7) ?_
      intro z17004 k
      simp only [Act.put, pu]
      replace r4 := k.row r4 (by simp <;> omega)
      replace r5 := k.row r5 (by simp <;> omega)
      replace r7 := k.row r7 (by simp <;> omega)
      replace r11 := k.row r11 (by simp <;> omega)
      replace sb := sb.trans (k.below w.heap.size sb.size (by simp <;> omega))
      clear k
      refine pw_mv (by rfl) rfl rfl ?_
      simp only [Act.put, pu]
      refine pw_value (by rfl) (.bool false) (exec_gt_i _ _ _ _ rfl (((u2 : Nat) : Int)) (((u : Nat) : Int)) rfl rfl false (decide_eq_false (by omega))) ?_
      simp only [Act.put, pu]
      refine pw_mv (by rfl) rfl rfl ?_
      simp only [Act.put, pu]
      refine pw_skip (by rfl) ?_
      simp only [Act.put, pu]
      refine pw_skip (by rfl) ?_
      simp only [Act.put, pu]
      refine pw_skip (by rfl) ?_
      simp only [Act.put, pu]
      refine pw_skip (by rfl) ?_
      simp only [Act.put, pu]
      refine pw_skip (by rfl) ?_
      simp only [Act.put, pu]
      refine pw_skip (by rfl) ?_
      simp only [Act.put, pu]
      refine pw_skip (by rfl) ?_
      simp only [Act.put, pu]
      refine pw_skip (by rfl) ?_
      simp only [Act.put, pu]
      refine pw_pick (by rfl) false (v := .bool false) rfl rfl rfl ?_
      simp only [Act.put, pu]
      refine pw_nil ?_
      (repeat ((fail_if_success with_reducible refine rg ?_); go_step))
      refine wp_region_pw ?_
      refine pw_mv (by rfl) rfl rfl ?_
      simp only [Act.put, pu]
      refine pw_value (by rfl) (.int .i64 (((i + 1 : Nat) : Int))) (x_addz _ _ _ _ rfl ((i : Nat)) (1) (((i + 1 : Nat) : Int)) rfl rfl (by omega) (by omega) (by omega)) ?_
      simp only [Act.put, pu]
      refine pw_as (by rfl) rfl rfl ?_
      simp only [Act.put, pu]
      refine pw_nil ?_
      go_wp2
      go_roundg yv
      case measure => omega
      case rel => exact ⟨i + 1, V2, _, by omega, rfl, rfl, r4, r5, r7, hon, sb⟩
    by_cases hc1 : X.2.2.1 = y
    rotate_left
    ·have hst : decide (X.2.1 = x ∧ X.2.2.1 = y) = false := decide_eq_false fun e => hc1 e.2
     have hon := HKK.out (fun hp hk hc hpar hB hlt => hc1 hc)
     clear HKK HNN
     (repeat ((fail_if_success with_reducible refine rg ?_); go_step))
     refine wp_region_pw ?_
     refine pw_value (by rfl) (.pointer (some ⟨g11, 0, none⟩)) (exec_field 34 _ 0 rfl g11 (0) rfl _ Try.underlying34 _ rfl 0 Try.sizeOf3) ?_
     simp only [Act.put, pu]
     refine pw_loadk (by rfl) 3 _ rfl _ (0) rfl r11.r (.int .i64 X.1) rfl Try.isAgg3 ?_
     simp only [Act.put, pu]
     refine pw_value (by rfl) (.bool true) (exec_eql_k .i64 _ _ _ _ rfl (X.1) (1) rfl rfl true (decide_eq_true (by omega))) ?_
     simp only [Act.put, pu]
     refine pw_mv (by rfl) rfl rfl ?_
     simp only [Act.put, pu]
     refine pw_value (by rfl) (.pointer (some ⟨g11, 1, none⟩)) (exec_field 34 _ 1 rfl g11 (0) rfl _ Try.underlying34 _ rfl 1 Try.sizeOf32) ?_
     simp only [Act.put, pu]
     refine pw_loadm (by rfl) 32 _ rfl _ (1) rfl r11.r ((tsC X.2.1 X.2.2.1)) (rv_st X) _ Try.underlying32 rfl size_st ?_
     simp only [Act.put, pu]
     refine pw_loadm (by rfl) 32 _ rfl _ 0 rfl r4.r _ (part_all _) _ Try.underlying32 rfl size_st ?_
     simp only [Act.put, pu]
     refine pw_value (by rfl) (.bool false) (exec_eql_st _ _ _ rfl X.2.1 X.2.2.1 x y rfl rfl false hst) ?_
     simp only [Act.put, pu]
     refine pw_pick (by rfl) true (v := .bool false) rfl rfl rfl ?_
     simp only [Act.put, pu]
     refine pw_mv (by rfl) rfl rfl ?_
     simp only [Act.put, pu]
     refine pw_skip (by rfl) ?_
     simp only [Act.put, pu]
     refine pw_skip (by rfl) ?_
     simp only [Act.put, pu]
     refine pw_skip (by rfl) ?_
     simp only [Act.put, pu]
     refine pw_skip (by rfl) ?_
     simp only [Act.put, pu]
     refine pw_skip (by rfl) ?_
     simp only [Act.put, pu]
     refine pw_pick (by rfl) false (v := .bool false) rfl rfl rfl ?_
     simp only [Act.put, pu]
     refine pw_mv (by rfl) rfl rfl ?_
     simp only [Act.put, pu]
     refine pw_skip (by rfl) ?_
     simp only [Act.put, pu]
     refine pw_pick (by rfl) false (v := .bool false) rfl rfl rfl ?_
     simp only [Act.put, pu]
     refine pw_nil ?_
     (repeat ((fail_if_success with_reducible refine rg ?_); go_step))
     refine wp_region_pw ?_
     refine pw_value (by rfl) (.pointer (some ⟨g11, 0, none⟩)) (exec_field 34 _ 0 rfl g11 (0) rfl _ Try.underlying34 _ rfl 0 Try.sizeOf3) ?_
     simp only [Act.put, pu]
     refine pw_loadk (by rfl) 3 _ rfl _ (0) rfl r11.r (.int .i64 X.1) rfl Try.isAgg3 ?_
     simp only [Act.put, pu]
     refine pw_value (by rfl) (.bool true) (exec_eql_k .i64 _ _ _ _ rfl (X.1) (1) rfl rfl true (decide_eq_true (by omega))) ?_
     simp only [Act.put, pu]
     refine pw_mv (by rfl) rfl rfl ?_
     simp only [Act.put, pu]
     refine pw_value (by rfl) (.pointer (some ⟨g11, 1, none⟩)) (exec_field 34 _ 1 rfl g11 (0) rfl _ Try.underlying34 _ rfl 1 Try.sizeOf32) ?_
     simp only [Act.put, pu]
     refine pw_value (by rfl) (.pointer (some ⟨g11, 1 + 1, none⟩)) (exec_field 32 _ 1 rfl g11 (1) rfl _ Try.underlying32 _ rfl 0 Try.sizeOf3) ?_
     simp only [Act.put, pu]
     refine pw_loadk (by rfl) 3 _ rfl _ (2) rfl r11.r (.int .i64 X.2.2.1) rfl Try.isAgg3 ?_
     simp only [Act.put, pu]
     refine pw_value (by rfl) (.pointer (some ⟨g4, 1, none⟩)) (exec_field 32 _ 1 rfl g4 0 rfl _ Try.underlying32 _ rfl 0 Try.sizeOf3) ?_
     simp only [Act.put, pu]
     refine pw_loadk (by rfl) 3 _ rfl _ (1) rfl r4.r (.int .i64 y) rfl Try.isAgg3 ?_
     simp only [Act.put, pu]
     refine pw_value (by rfl) (.bool false) (exec_eql_k .i64 _ _ _ _ rfl (X.2.2.1) (y) rfl rfl false (decide_eq_false (by omega))) ?_
     simp only [Act.put, pu]
     refine pw_pick (by rfl) true (v := .bool false) rfl rfl rfl ?_
     simp only [Act.put, pu]
     refine pw_mv (by rfl) rfl rfl ?_
     simp only [Act.put, pu]
     refine pw_skip (by rfl) ?_
     simp only [Act.put, pu]
     refine pw_skip (by rfl) ?_
     simp only [Act.put, pu]
     refine pw_skip (by rfl) ?_
     simp only [Act.put, pu]
     refine pw_skip (by rfl) ?_
     simp only [Act.put, pu]
     refine pw_skip (by rfl) ?_
     simp only [Act.put, pu]
     refine pw_skip (by rfl) ?_
     simp only [Act.put, pu]
     refine pw_skip (by rfl) ?_
     simp only [Act.put, pu]
     refine pw_pick (by rfl) false (v := .bool false) rfl rfl rfl ?_
     simp only [Act.put, pu]
     refine pw_mv (by rfl) rfl rfl ?_
     simp only [Act.put, pu]
     refine pw_skip (by rfl) ?_
     simp only [Act.put, pu]
     refine pw_pick (by rfl) false (v := .bool false) rfl rfl rfl ?_
     simp only [Act.put, pu]
     refine pw_nil ?_
     have hgt : ¬ ((u2 : Nat) : Int) > ((u : Nat) : Int) := by have := HLE.out (.inr fun e => hc1 e.2); omega
     clear HLE
     (repeat ((fail_if_success with_reducible refine rg ?_); go_step))
     refine wp_region_pw ?_
     refine pw_mv (by rfl) rfl rfl ?_
     simp only [Act.put, pu]
     refine pw_loadm (by rfl) 32 _ rfl _ 0 rfl r4.r _ (part_all _) _ Try.underlying32 rfl size_st ?_
     simp only [Act.put, pu]
     refine pw_value (by rfl) (.pointer (some ⟨g5, 0, none⟩)) (exec_index_g 42 _ _ rfl g5 0 rfl 0 2 rfl (by decide) _ Try.underlying42 1 Try.sizeOf9) ?_
     simp only [Act.put, pu]
     refine pw_loadk (by rfl) 9 _ rfl _ (0) rfl r5.r (.string ⟨da.toArray⟩) rfl Try.isAgg9 ?_
     simp only [Act.put, pu]
     refine pw_callB (by rfl) 11 _ _ rfl Try.func11 (by kernel_rfl) #[.pointer (some ⟨g7, 0, none⟩), .agg (tsC x y), .string ⟨da.toArray⟩] rfl _ (hD _ r7) ?_
     intro z17004 k
     simp only [Act.put, pu]
     replace r4 := k.row r4 (by simp <;> omega)
     replace r5 := k.row r5 (by simp <;> omega)
     replace r7 := k.row r7 (by simp <;> omega)
     replace r11 := k.row r11 (by simp <;> omega)
     replace sb := sb.trans (k.below w.heap.size sb.size (by simp <;> omega))
     clear k
     refine pw_mv (by rfl) rfl rfl ?_
     simp only [Act.put, pu]
     refine pw_value (by rfl) (.bool false) (exec_gt_i _ _ _ _ rfl (((u2 : Nat) : Int)) (((u : Nat) : Int)) rfl rfl false (decide_eq_false (by omega))) ?_
     simp only [Act.put, pu]
     refine pw_mv (by rfl) rfl rfl ?_
     simp only [Act.put, pu]
     refine pw_skip (by rfl) ?_
     simp only [Act.put, pu]
     refine pw_skip (by rfl) ?_
     simp only [Act.put, pu]
     refine pw_skip (by rfl) ?_
     simp only [Act.put, pu]
     refine pw_skip (by rfl) ?_
     simp only [Act.put, pu]
     refine pw_skip (by rfl) ?_
     simp only [Act.put, pu]
     refine pw_skip (by rfl) ?_
     simp only [Act.put, pu]
     refine pw_skip (by rfl) ?_
     simp only [Act.put, pu]
     refine pw_skip (by rfl) ?_
     simp only [Act.put, pu]
     refine pw_pick (by rfl) false (v := .bool false) rfl rfl rfl ?_
     simp only [Act.put, pu]
     refine pw_nil ?_
     (repeat ((fail_if_success with_reducible refine rg ?_); go_step))
     refine wp_region_pw ?_
     refine pw_mv (by rfl) rfl rfl ?_
     simp only [Act.put, pu]
     refine pw_value (by rfl) (.int .i64 (((i + 1 : Nat) : Int))) (x_addz _ _ _ _ rfl ((i : Nat)) (1) (((i + 1 : Nat) : Int)) rfl rfl (by omega) (by omega) (by omega)) ?_
     simp only [Act.put, pu]
     refine pw_as (by rfl) rfl rfl ?_
     simp only [Act.put, pu]
     refine pw_nil ?_
     go_wp2
     go_roundg yv
     case measure => omega
     case rel => exact ⟨i + 1, V2, _, by omega, rfl, rfl, r4, r5, r7, hon, sb⟩
    by_cases hs1 : X.2.1 = x
    ·have hst : decide (X.2.1 = x ∧ X.2.2.1 = y) = true := decide_eq_true ⟨hs1, hc1⟩
     have hs2 : ¬ X.2.1 > x + 1 := by omega
     by_cases hd1 : X.2.2.2 = da
     ·have hdg : decide (X.2.2.2 = da) = true := decide_eq_true hd1
      cases B with
      | true =>
       have hon : onP V2 x y da true := by have := HNN.out hk1 rfl; rw [hs1, hc1, hd1] at this; exact this
       clear HKK HNN
       (repeat ((fail_if_success with_reducible refine rg ?_); go_step))
       refine wp_region_pw ?_
       refine pw_value (by rfl) (.pointer (some ⟨g11, 0, none⟩)) (exec_field 34 _ 0 rfl g11 (0) rfl _ Try.underlying34 _ rfl 0 Try.sizeOf3) ?_
       simp only [Act.put, pu]
       refine pw_loadk (by rfl) 3 _ rfl _ (0) rfl r11.r (.int .i64 X.1) rfl Try.isAgg3 ?_
       simp only [Act.put, pu]
       refine pw_value (by rfl) (.bool true) (exec_eql_k .i64 _ _ _ _ rfl (X.1) (1) rfl rfl true (decide_eq_true (by omega))) ?_
       simp only [Act.put, pu]
       refine pw_mv (by rfl) rfl rfl ?_
       simp only [Act.put, pu]
       refine pw_value (by rfl) (.pointer (some ⟨g11, 1, none⟩)) (exec_field 34 _ 1 rfl g11 (0) rfl _ Try.underlying34 _ rfl 1 Try.sizeOf32) ?_
       simp only [Act.put, pu]
       refine pw_loadm (by rfl) 32 _ rfl _ (1) rfl r11.r ((tsC X.2.1 X.2.2.1)) (rv_st X) _ Try.underlying32 rfl size_st ?_
       simp only [Act.put, pu]
       refine pw_loadm (by rfl) 32 _ rfl _ 0 rfl r4.r _ (part_all _) _ Try.underlying32 rfl size_st ?_
       simp only [Act.put, pu]
       refine pw_value (by rfl) (.bool true) (exec_eql_st _ _ _ rfl X.2.1 X.2.2.1 x y rfl rfl true hst) ?_
       simp only [Act.put, pu]
       refine pw_pick (by rfl) true (v := .bool true) rfl rfl rfl ?_
       simp only [Act.put, pu]
       refine pw_mv (by rfl) rfl rfl ?_
       simp only [Act.put, pu]
       refine pw_value (by rfl) (.pointer (some ⟨g11, 3, none⟩)) (exec_field 34 _ 2 rfl g11 (0) rfl _ Try.underlying34 _ rfl 0 Try.sizeOf9) ?_
       simp only [Act.put, pu]
       refine pw_loadk (by rfl) 9 _ rfl _ (3) rfl r11.r (.string ⟨X.2.2.2.toArray⟩) rfl Try.isAgg9 ?_
       simp only [Act.put, pu]
       refine pw_value (by rfl) (.pointer (some ⟨g5, 0, none⟩)) (exec_index_g 42 _ _ rfl g5 0 rfl 0 2 rfl (by decide) _ Try.underlying42 1 Try.sizeOf9) ?_
       simp only [Act.put, pu]
       refine pw_loadk (by rfl) 9 _ rfl _ (0) rfl r5.r (.string ⟨da.toArray⟩) rfl Try.isAgg9 ?_
       simp only [Act.put, pu]
       refine pw_value (by rfl) (.bool true) (y_eqS _ _ _ _ rfl X.2.2.2 da rfl rfl true hdg) ?_
       simp only [Act.put, pu]
       refine pw_pick (by rfl) true (v := .bool true) rfl rfl rfl ?_
       simp only [Act.put, pu]
       refine pw_mv (by rfl) rfl rfl ?_
       simp only [Act.put, pu]
       refine pw_mv (by rfl) rfl rfl ?_
       simp only [Act.put, pu]
       refine pw_pick (by rfl) true (v := .bool true) rfl rfl rfl ?_
       simp only [Act.put, pu]
       refine pw_nil ?_
       (repeat ((fail_if_success with_reducible refine rg ?_); go_step))
       refine wp_region_pw ?_
       refine pw_value (by rfl) (.bool true) (fun _ => rfl) ?_
       simp only [Act.put, pu]
       refine pw_nil ?_
       (repeat ((fail_if_success with_reducible refine rg ?_); go_step))
       refine wp_region_pw ?_
       refine pw_value (by rfl) (.pointer (some ⟨g11, 0, none⟩)) (exec_field 34 _ 0 rfl g11 (0) rfl _ Try.underlying34 _ rfl 0 Try.sizeOf3) ?_
       simp only [Act.put, pu]
       refine pw_loadk (by rfl) 3 _ rfl _ (0) rfl r11.r (.int .i64 X.1) rfl Try.isAgg3 ?_
       simp only [Act.put, pu]
       refine pw_value (by rfl) (.bool true) (exec_eql_k .i64 _ _ _ _ rfl (X.1) (1) rfl rfl true (decide_eq_true (by omega))) ?_
       simp only [Act.put, pu]
       refine pw_mv (by rfl) rfl rfl ?_
       simp only [Act.put, pu]
       refine pw_value (by rfl) (.pointer (some ⟨g11, 1, none⟩)) (exec_field 34 _ 1 rfl g11 (0) rfl _ Try.underlying34 _ rfl 1 Try.sizeOf32) ?_
       simp only [Act.put, pu]
       refine pw_value (by rfl) (.pointer (some ⟨g11, 1 + 1, none⟩)) (exec_field 32 _ 1 rfl g11 (1) rfl _ Try.underlying32 _ rfl 0 Try.sizeOf3) ?_
       simp only [Act.put, pu]
       refine pw_loadk (by rfl) 3 _ rfl _ (2) rfl r11.r (.int .i64 X.2.2.1) rfl Try.isAgg3 ?_
       simp only [Act.put, pu]
       refine pw_value (by rfl) (.pointer (some ⟨g4, 1, none⟩)) (exec_field 32 _ 1 rfl g4 0 rfl _ Try.underlying32 _ rfl 0 Try.sizeOf3) ?_
       simp only [Act.put, pu]
       refine pw_loadk (by rfl) 3 _ rfl _ (1) rfl r4.r (.int .i64 y) rfl Try.isAgg3 ?_
       simp only [Act.put, pu]
       refine pw_value (by rfl) (.bool true) (exec_eql_k .i64 _ _ _ _ rfl (X.2.2.1) (y) rfl rfl true (decide_eq_true (by omega))) ?_
       simp only [Act.put, pu]
       refine pw_pick (by rfl) true (v := .bool true) rfl rfl rfl ?_
       simp only [Act.put, pu]
       refine pw_mv (by rfl) rfl rfl ?_
       simp only [Act.put, pu]
       refine pw_value (by rfl) (.pointer (some ⟨g11, 1, none⟩)) (exec_field 34 _ 1 rfl g11 (0) rfl _ Try.underlying34 _ rfl 1 Try.sizeOf32) ?_
       simp only [Act.put, pu]
       refine pw_value (by rfl) (.pointer (some ⟨g11, 1, none⟩)) (exec_field 32 _ 0 rfl g11 (1) rfl _ Try.underlying32 _ rfl 0 Try.sizeOf3) ?_
       simp only [Act.put, pu]
       refine pw_loadk (by rfl) 3 _ rfl _ (1) rfl r11.r (.int .i64 X.2.1) rfl Try.isAgg3 ?_
       simp only [Act.put, pu]
       refine pw_value (by rfl) (.pointer (some ⟨g4, 0, none⟩)) (exec_field 32 _ 0 rfl g4 0 rfl _ Try.underlying32 _ rfl 0 Try.sizeOf3) ?_
       simp only [Act.put, pu]
       refine pw_loadk (by rfl) 3 _ rfl _ (0) rfl r4.r (.int .i64 x) rfl Try.isAgg3 ?_
       simp only [Act.put, pu]
       refine pw_value (by rfl) (.int .i64 (x + 1)) (x_addz _ _ _ _ rfl (x) (1) (x + 1) rfl rfl (by omega) (by omega) (by omega)) ?_
       simp only [Act.put, pu]
       refine pw_value (by rfl) (.bool false) (exec_gt_i _ _ _ _ rfl (X.2.1) (x + 1) rfl rfl false (decide_eq_false (by omega))) ?_
       simp only [Act.put, pu]
       refine pw_pick (by rfl) true (v := .bool false) rfl rfl rfl ?_
       simp only [Act.put, pu]
       refine pw_mv (by rfl) rfl rfl ?_
       simp only [Act.put, pu]
       refine pw_skip (by rfl) ?_
       simp only [Act.put, pu]
       refine pw_pick (by rfl) false (v := .bool false) rfl rfl rfl ?_
       simp only [Act.put, pu]
       refine pw_nil ?_
       by_cases hgt : ((u2 : Nat) : Int) > ((u : Nat) : Int)
       ·have hneq : (!decide (X.2.1 = x ∧ X.2.2.1 = y)) = false := by rw [hst]; rfl
        clear HLE
        (repeat ((fail_if_success with_reducible refine rg ?_); go_step))
        refine wp_region_pw ?_
        refine pw_mv (by rfl) rfl rfl ?_
        simp only [Act.put, pu]
        refine pw_loadm (by rfl) 32 _ rfl _ 0 rfl r4.r _ (part_all _) _ Try.underlying32 rfl size_st ?_
        simp only [Act.put, pu]
        refine pw_value (by rfl) (.pointer (some ⟨g5, 0, none⟩)) (exec_index_g 42 _ _ rfl g5 0 rfl 0 2 rfl (by decide) _ Try.underlying42 1 Try.sizeOf9) ?_
        simp only [Act.put, pu]
        refine pw_loadk (by rfl) 9 _ rfl _ (0) rfl r5.r (.string ⟨da.toArray⟩) rfl Try.isAgg9 ?_
        simp only [Act.put, pu]
        refine pw_callB (by rfl) 11 _ _ rfl Try.func11 (by kernel_rfl) #[.pointer (some ⟨g7, 0, none⟩), .agg (tsC x y), .string ⟨da.toArray⟩] rfl _ (hD _ r7) ?_
        intro z17004 k
        simp only [Act.put, pu]
        replace r4 := k.row r4 (by simp <;> omega)
        replace r5 := k.row r5 (by simp <;> omega)
        replace r7 := k.row r7 (by simp <;> omega)
        replace r11 := k.row r11 (by simp <;> omega)
        replace sb := sb.trans (k.below w.heap.size sb.size (by simp <;> omega))
        clear k
        refine pw_mv (by rfl) rfl rfl ?_
        simp only [Act.put, pu]
        refine pw_value (by rfl) (.bool true) (exec_gt_i _ _ _ _ rfl (((u2 : Nat) : Int)) (((u : Nat) : Int)) rfl rfl true (decide_eq_true (by omega))) ?_
        simp only [Act.put, pu]
        refine pw_mv (by rfl) rfl rfl ?_
        simp only [Act.put, pu]
        refine pw_mv (by rfl) rfl rfl ?_
        simp only [Act.put, pu]
        refine pw_value (by rfl) (.bool false) (exec_not _ _ rfl true rfl) ?_
        simp only [Act.put, pu]
        refine pw_mv (by rfl) rfl rfl ?_
        simp only [Act.put, pu]
        refine pw_value (by rfl) (.pointer (some ⟨g11, 1, none⟩)) (exec_field 34 _ 1 rfl g11 (0) rfl _ Try.underlying34 _ rfl 1 Try.sizeOf32) ?_
        simp only [Act.put, pu]
        refine pw_loadm (by rfl) 32 _ rfl _ (1) rfl r11.r ((tsC X.2.1 X.2.2.1)) (rv_st X) _ Try.underlying32 rfl size_st ?_
        simp only [Act.put, pu]
        refine pw_loadm (by rfl) 32 _ rfl _ 0 rfl r4.r _ (part_all _) _ Try.underlying32 rfl size_st ?_
        simp only [Act.put, pu]
        refine pw_value (by rfl) (.bool false) (exec_neq_st _ _ _ rfl X.2.1 X.2.2.1 x y rfl rfl false hneq) ?_
        simp only [Act.put, pu]
        refine pw_pick (by rfl) false (v := .bool false) rfl rfl rfl ?_
        simp only [Act.put, pu]
        refine pw_pick (by rfl) true (v := .bool false) rfl rfl rfl ?_
        simp only [Act.put, pu]
        refine pw_nil ?_
        (repeat ((fail_if_success with_reducible refine rg ?_); go_step))
        refine wp_region_pw ?_
        refine pw_mv (by rfl) rfl rfl ?_
        simp only [Act.put, pu]
        refine pw_value (by rfl) (.int .i64 (((i + 1 : Nat) : Int))) (x_addz _ _ _ _ rfl ((i : Nat)) (1) (((i + 1 : Nat) : Int)) rfl rfl (by omega) (by omega) (by omega)) ?_
        simp only [Act.put, pu]
        refine pw_as (by rfl) rfl rfl ?_
        simp only [Act.put, pu]
        refine pw_nil ?_
        go_wp2
        go_roundg yv
        case measure => omega
        case rel => exact ⟨i + 1, V2, _, by omega, rfl, rfl, r4, r5, r7, hon, sb⟩
       ·clear HLE
        (repeat ((fail_if_success with_reducible refine rg ?_); go_step))
        refine wp_region_pw ?_
        refine pw_mv (by rfl) rfl rfl ?_
        simp only [Act.put, pu]
        refine pw_loadm (by rfl) 32 _ rfl _ 0 rfl r4.r _ (part_all _) _ Try.underlying32 rfl size_st ?_
        simp only [Act.put, pu]
        refine pw_value (by rfl) (.pointer (some ⟨g5, 0, none⟩)) (exec_index_g 42 _ _ rfl g5 0 rfl 0 2 rfl (by decide) _ Try.underlying42 1 Try.sizeOf9) ?_
        simp only [Act.put, pu]
        refine pw_loadk (by rfl) 9 _ rfl _ (0) rfl r5.r (.string ⟨da.toArray⟩) rfl Try.isAgg9 ?_
        simp only [Act.put, pu]
        refine pw_callB (by rfl) 11 _ _ rfl Try.func11 (by kernel_rfl) #[.pointer (some ⟨g7, 0, none⟩), .agg (tsC x y), .string ⟨da.toArray⟩] rfl _ (hD _ r7) ?_
        intro z17004 k
        simp only [Act.put, pu]
        replace r4 := k.row r4 (by simp <;> omega)
        replace r5 := k.row r5 (by simp <;> omega)
        replace r7 := k.row r7 (by simp <;> omega)
        replace r11 := k.row r11 (by simp <;> omega)
        replace sb := sb.trans (k.below w.heap.size sb.size (by simp <;> omega))
        clear k
        refine pw_mv (by rfl) rfl rfl ?_
        simp only [Act.put, pu]
        refine pw_value (by rfl) (.bool false) (exec_gt_i _ _ _ _ rfl (((u2 : Nat) : Int)) (((u : Nat) : Int)) rfl rfl false (decide_eq_false (by omega))) ?_
        simp only [Act.put, pu]
        refine pw_mv (by rfl) rfl rfl ?_
        simp only [Act.put, pu]
        refine pw_skip (by rfl) ?_
        simp only [Act.put, pu]
        refine pw_skip (by rfl) ?_
        simp only [Act.put, pu]
        refine pw_skip (by rfl) ?_
        simp only [Act.put, pu]
        refine pw_skip (by rfl) ?_
        simp only [Act.put, pu]
        refine pw_skip (by rfl) ?_
        simp only [Act.put, pu]
        refine pw_skip (by rfl) ?_
        simp only [Act.put, pu]
        refine pw_skip (by rfl) ?_
        simp only [Act.put, pu]
        refine pw_skip (by rfl) ?_
        simp only [Act.put, pu]
        refine pw_pick (by rfl) false (v := .bool false) rfl rfl rfl ?_
        simp only [Act.put, pu]
        refine pw_nil ?_
        (repeat ((fail_if_success with_reducible refine rg ?_); go_step))
        refine wp_region_pw ?_
        refine pw_mv (by rfl) rfl rfl ?_
        simp only [Act.put, pu]
        refine pw_value (by rfl) (.int .i64 (((i + 1 : Nat) : Int))) (x_addz _ _ _ _ rfl ((i : Nat)) (1) (((i + 1 : Nat) : Int)) rfl rfl (by omega) (by omega) (by omega)) ?_
        simp only [Act.put, pu]
        refine pw_as (by rfl) rfl rfl ?_
        simp only [Act.put, pu]
        refine pw_nil ?_
        go_wp2
        go_roundg yv
        case measure => omega
        case rel => exact ⟨i + 1, V2, _, by omega, rfl, rfl, r4, r5, r7, hon, sb⟩
      | false =>
       have hon := HKK.out (fun hp hk hc hpar hB hlt => by cases hB)
       clear HKK HNN
       (repeat ((fail_if_success with_reducible refine rg ?_); go_step))
       refine wp_region_pw ?_
       refine pw_value (by rfl) (.pointer (some ⟨g11, 0, none⟩)) (exec_field 34 _ 0 rfl g11 (0) rfl _ Try.underlying34 _ rfl 0 Try.sizeOf3) ?_
       simp only [Act.put, pu]
       refine pw_loadk (by rfl) 3 _ rfl _ (0) rfl r11.r (.int .i64 X.1) rfl Try.isAgg3 ?_
       simp only [Act.put, pu]
       refine pw_value (by rfl) (.bool true) (exec_eql_k .i64 _ _ _ _ rfl (X.1) (1) rfl rfl true (decide_eq_true (by omega))) ?_
       simp only [Act.put, pu]
       refine pw_mv (by rfl) rfl rfl ?_
       simp only [Act.put, pu]
       refine pw_value (by rfl) (.pointer (some ⟨g11, 1, none⟩)) (exec_field 34 _ 1 rfl g11 (0) rfl _ Try.underlying34 _ rfl 1 Try.sizeOf32) ?_
       simp only [Act.put, pu]
       refine pw_loadm (by rfl) 32 _ rfl _ (1) rfl r11.r ((tsC X.2.1 X.2.2.1)) (rv_st X) _ Try.underlying32 rfl size_st ?_
       simp only [Act.put, pu]
       refine pw_loadm (by rfl) 32 _ rfl _ 0 rfl r4.r _ (part_all _) _ Try.underlying32 rfl size_st ?_
       simp only [Act.put, pu]
       refine pw_value (by rfl) (.bool true) (exec_eql_st _ _ _ rfl X.2.1 X.2.2.1 x y rfl rfl true hst) ?_
       simp only [Act.put, pu]
       refine pw_pick (by rfl) true (v := .bool true) rfl rfl rfl ?_
       simp only [Act.put, pu]
       refine pw_mv (by rfl) rfl rfl ?_
       simp only [Act.put, pu]
       refine pw_value (by rfl) (.pointer (some ⟨g11, 3, none⟩)) (exec_field 34 _ 2 rfl g11 (0) rfl _ Try.underlying34 _ rfl 0 Try.sizeOf9) ?_
       simp only [Act.put, pu]
       refine pw_loadk (by rfl) 9 _ rfl _ (3) rfl r11.r (.string ⟨X.2.2.2.toArray⟩) rfl Try.isAgg9 ?_
       simp only [Act.put, pu]
       refine pw_value (by rfl) (.pointer (some ⟨g5, 0, none⟩)) (exec_index_g 42 _ _ rfl g5 0 rfl 0 2 rfl (by decide) _ Try.underlying42 1 Try.sizeOf9) ?_
       simp only [Act.put, pu]
       refine pw_loadk (by rfl) 9 _ rfl _ (0) rfl r5.r (.string ⟨da.toArray⟩) rfl Try.isAgg9 ?_
       simp only [Act.put, pu]
       refine pw_value (by rfl) (.bool true) (y_eqS _ _ _ _ rfl X.2.2.2 da rfl rfl true hdg) ?_
       simp only [Act.put, pu]
       refine pw_pick (by rfl) true (v := .bool true) rfl rfl rfl ?_
       simp only [Act.put, pu]
       refine pw_mv (by rfl) rfl rfl ?_
       simp only [Act.put, pu]
       refine pw_mv (by rfl) rfl rfl ?_
       simp only [Act.put, pu]
       refine pw_pick (by rfl) true (v := .bool false) rfl rfl rfl ?_
       simp only [Act.put, pu]
       refine pw_nil ?_
       (repeat ((fail_if_success with_reducible refine rg ?_); go_step))
       refine wp_region_pw ?_
       refine pw_value (by rfl) (.pointer (some ⟨g11, 0, none⟩)) (exec_field 34 _ 0 rfl g11 (0) rfl _ Try.underlying34 _ rfl 0 Try.sizeOf3) ?_
       simp only [Act.put, pu]
       refine pw_loadk (by rfl) 3 _ rfl _ (0) rfl r11.r (.int .i64 X.1) rfl Try.isAgg3 ?_
       simp only [Act.put, pu]
       refine pw_value (by rfl) (.bool true) (exec_eql_k .i64 _ _ _ _ rfl (X.1) (1) rfl rfl true (decide_eq_true (by omega))) ?_
       simp only [Act.put, pu]
       refine pw_mv (by rfl) rfl rfl ?_
       simp only [Act.put, pu]
       refine pw_value (by rfl) (.pointer (some ⟨g11, 1, none⟩)) (exec_field 34 _ 1 rfl g11 (0) rfl _ Try.underlying34 _ rfl 1 Try.sizeOf32) ?_
       simp only [Act.put, pu]
       refine pw_value (by rfl) (.pointer (some ⟨g11, 1 + 1, none⟩)) (exec_field 32 _ 1 rfl g11 (1) rfl _ Try.underlying32 _ rfl 0 Try.sizeOf3) ?_
       simp only [Act.put, pu]
       refine pw_loadk (by rfl) 3 _ rfl _ (2) rfl r11.r (.int .i64 X.2.2.1) rfl Try.isAgg3 ?_
       simp only [Act.put, pu]
       refine pw_value (by rfl) (.pointer (some ⟨g4, 1, none⟩)) (exec_field 32 _ 1 rfl g4 0 rfl _ Try.underlying32 _ rfl 0 Try.sizeOf3) ?_
       simp only [Act.put, pu]
       refine pw_loadk (by rfl) 3 _ rfl _ (1) rfl r4.r (.int .i64 y) rfl Try.isAgg3 ?_
       simp only [Act.put, pu]
       refine pw_value (by rfl) (.bool true) (exec_eql_k .i64 _ _ _ _ rfl (X.2.2.1) (y) rfl rfl true (decide_eq_true (by omega))) ?_
       simp only [Act.put, pu]
       refine pw_pick (by rfl) true (v := .bool true) rfl rfl rfl ?_
       simp only [Act.put, pu]
       refine pw_mv (by rfl) rfl rfl ?_
       simp only [Act.put, pu]
       refine pw_value (by rfl) (.pointer (some ⟨g11, 1, none⟩)) (exec_field 34 _ 1 rfl g11 (0) rfl _ Try.underlying34 _ rfl 1 Try.sizeOf32) ?_
       simp only [Act.put, pu]
       refine pw_value (by rfl) (.pointer (some ⟨g11, 1, none⟩)) (exec_field 32 _ 0 rfl g11 (1) rfl _ Try.underlying32 _ rfl 0 Try.sizeOf3) ?_
       simp only [Act.put, pu]
       refine pw_loadk (by rfl) 3 _ rfl _ (1) rfl r11.r (.int .i64 X.2.1) rfl Try.isAgg3 ?_
       simp only [Act.put, pu]
       refine pw_value (by rfl) (.pointer (some ⟨g4, 0, none⟩)) (exec_field 32 _ 0 rfl g4 0 rfl _ Try.underlying32 _ rfl 0 Try.sizeOf3) ?_
       simp only [Act.put, pu]
       refine pw_loadk (by rfl) 3 _ rfl _ (0) rfl r4.r (.int .i64 x) rfl Try.isAgg3 ?_
       simp only [Act.put, pu]
       refine pw_value (by rfl) (.int .i64 (x + 1)) (x_addz _ _ _ _ rfl (x) (1) (x + 1) rfl rfl (by omega) (by omega) (by omega)) ?_
       simp only [Act.put, pu]
       refine pw_value (by rfl) (.bool false) (exec_gt_i _ _ _ _ rfl (X.2.1) (x + 1) rfl rfl false (decide_eq_false (by omega))) ?_
       simp only [Act.put, pu]
       refine pw_pick (by rfl) true (v := .bool false) rfl rfl rfl ?_
       simp only [Act.put, pu]
       refine pw_mv (by rfl) rfl rfl ?_
       simp only [Act.put, pu]
       refine pw_skip (by rfl) ?_
       simp only [Act.put, pu]
       refine pw_pick (by rfl) false (v := .bool false) rfl rfl rfl ?_
       simp only [Act.put, pu]
       refine pw_nil ?_
       have hgt : ¬ ((u2 : Nat) : Int) > ((u : Nat) : Int) := by have := HLE.out (.inl rfl); omega
       clear HLE
       (repeat ((fail_if_success with_reducible refine rg ?_); go_step))
       refine wp_region_pw ?_
       refine pw_mv (by rfl) rfl rfl ?_
       simp only [Act.put, pu]
       refine pw_loadm (by rfl) 32 _ rfl _ 0 rfl r4.r _ (part_all _) _ Try.underlying32 rfl size_st ?_
       simp only [Act.put, pu]
       refine pw_value (by rfl) (.pointer (some ⟨g5, 0, none⟩)) (exec_index_g 42 _ _ rfl g5 0 rfl 0 2 rfl (by decide) _ Try.underlying42 1 Try.sizeOf9) ?_
       simp only [Act.put, pu]
       refine pw_loadk (by rfl) 9 _ rfl _ (0) rfl r5.r (.string ⟨da.toArray⟩) rfl Try.isAgg9 ?_
       simp only [Act.put, pu]
       refine pw_callB (by rfl) 11 _ _ rfl Try.func11 (by kernel_rfl) #[.pointer (some ⟨g7, 0, none⟩), .agg (tsC x y), .string ⟨da.toArray⟩] rfl _ (hD _ r7) ?_
       intro z17004 k
       simp only [Act.put, pu]
       replace r4 := k.row r4 (by simp <;> omega)
       replace r5 := k.row r5 (by simp <;> omega)
       replace r7 := k.row r7 (by simp <;> omega)
       replace r11 := k.row r11 (by simp <;> omega)
       replace sb := sb.trans (k.below w.heap.size sb.size (by simp <;> omega))
       clear k
       refine pw_mv (by rfl) rfl rfl ?_
       simp only [Act.put, pu]
       refine pw_value (by rfl) (.bool false) (exec_gt_i _ _ _ _ rfl (((u2 : Nat) : Int)) (((u : Nat) : Int)) rfl rfl false (decide_eq_false (by omega))) ?_
       simp only [Act.put, pu]
       refine pw_mv (by rfl) rfl rfl ?_
       simp only [Act.put, pu]
       refine pw_skip (by rfl) ?_
       simp only [Act.put, pu]
       refine pw_skip (by rfl) ?_
       simp only [Act.put, pu]
       refine pw_skip (by rfl) ?_
       simp only [Act.put, pu]
       refine pw_skip (by rfl) ?_
       simp only [Act.put, pu]
       refine pw_skip (by rfl) ?_
       simp only [Act.put, pu]
       refine pw_skip (by rfl) ?_
       simp only [Act.put, pu]
       refine pw_skip (by rfl) ?_
       simp only [Act.put, pu]
       refine pw_skip (by rfl) ?_
       simp only [Act.put, pu]
       refine pw_pick (by rfl) false (v := .bool false) rfl rfl rfl ?_
       simp only [Act.put, pu]
       refine pw_nil ?_
       (repeat ((fail_if_success with_reducible refine rg ?_); go_step))
       refine wp_region_pw ?_
       refine pw_mv (by rfl) rfl rfl ?_
       simp only [Act.put, pu]
       refine pw_value (by rfl) (.int .i64 (((i + 1 : Nat) : Int))) (x_addz _ _ _ _ rfl ((i : Nat)) (1) (((i + 1 : Nat) : Int)) rfl rfl (by omega) (by omega) (by omega)) ?_
       simp only [Act.put, pu]
       refine pw_as (by rfl) rfl rfl ?_
       simp only [Act.put, pu]
       refine pw_nil ?_
       go_wp2
       go_roundg yv
       case measure => omega
       case rel => exact ⟨i + 1, V2, _, by omega, rfl, rfl, r4, r5, r7, hon, sb⟩
     ·have hdg : decide (X.2.2.2 = da) = false := decide_eq_false hd1
      have hon := HKK.out (fun hp hk hc hpar hB hlt => by omega)
      clear HKK HNN
      (repeat ((fail_if_success with_reducible refine rg ?_); go_step))
      refine wp_region_pw ?_
      refine pw_value (by rfl) (.pointer (some ⟨g11, 0, none⟩)) (exec_field 34 _ 0 rfl g11 (0) rfl _ Try.underlying34 _ rfl 0 Try.sizeOf3) ?_
      simp only [Act.put, pu]
      refine pw_loadk (by rfl) 3 _ rfl _ (0) rfl r11.r (.int .i64 X.1) rfl Try.isAgg3 ?_
      simp only [Act.put, pu]
      refine pw_value (by rfl) (.bool true) (exec_eql_k .i64 _ _ _ _ rfl (X.1) (1) rfl rfl true (decide_eq_true (by omega))) ?_
      simp only [Act.put, pu]
      refine pw_mv (by rfl) rfl rfl ?_
      simp only [Act.put, pu]
      refine pw_value (by rfl) (.pointer (some ⟨g11, 1, none⟩)) (exec_field 34 _ 1 rfl g11 (0) rfl _ Try.underlying34 _ rfl 1 Try.sizeOf32) ?_
      simp only [Act.put, pu]
      refine pw_loadm (by rfl) 32 _ rfl _ (1) rfl r11.r ((tsC X.2.1 X.2.2.1)) (rv_st X) _ Try.underlying32 rfl size_st ?_
      simp only [Act.put, pu]
      refine pw_loadm (by rfl) 32 _ rfl _ 0 rfl r4.r _ (part_all _) _ Try.underlying32 rfl size_st ?_
      simp only [Act.put, pu]
      refine pw_value (by rfl) (.bool true) (exec_eql_st _ _ _ rfl X.2.1 X.2.2.1 x y rfl rfl true hst) ?_
      simp only [Act.put, pu]
      refine pw_pick (by rfl) true (v := .bool true) rfl rfl rfl ?_
      simp only [Act.put, pu]
      refine pw_mv (by rfl) rfl rfl ?_
      simp only [Act.put, pu]
      refine pw_value (by rfl) (.pointer (some ⟨g11, 3, none⟩)) (exec_field 34 _ 2 rfl g11 (0) rfl _ Try.underlying34 _ rfl 0 Try.sizeOf9) ?_
      simp only [Act.put, pu]
      refine pw_loadk (by rfl) 9 _ rfl _ (3) rfl r11.r (.string ⟨X.2.2.2.toArray⟩) rfl Try.isAgg9 ?_
      simp only [Act.put, pu]
      refine pw_value (by rfl) (.pointer (some ⟨g5, 0, none⟩)) (exec_index_g 42 _ _ rfl g5 0 rfl 0 2 rfl (by decide) _ Try.underlying42 1 Try.sizeOf9) ?_
      simp only [Act.put, pu]
      refine pw_loadk (by rfl) 9 _ rfl _ (0) rfl r5.r (.string ⟨da.toArray⟩) rfl Try.isAgg9 ?_
      simp only [Act.put, pu]
      refine pw_value (by rfl) (.bool false) (y_eqS _ _ _ _ rfl X.2.2.2 da rfl rfl false hdg) ?_
      simp only [Act.put, pu]
      refine pw_pick (by rfl) true (v := .bool false) rfl rfl rfl ?_
      simp only [Act.put, pu]
      refine pw_mv (by rfl) rfl rfl ?_
      simp only [Act.put, pu]
      refine pw_skip (by rfl) ?_
      simp only [Act.put, pu]
      refine pw_pick (by rfl) false (v := .bool false) rfl rfl rfl ?_
      simp only [Act.put, pu]
      refine pw_nil ?_
      (repeat ((fail_if_success with_reducible refine rg ?_); go_step))
      refine wp_region_pw ?_
      refine pw_value (by rfl) (.pointer (some ⟨g11, 0, none⟩)) (exec_field 34 _ 0 rfl g11 (0) rfl _ Try.underlying34 _ rfl 0 Try.sizeOf3) ?_
      simp only [Act.put, pu]
      refine pw_loadk (by rfl) 3 _ rfl _ (0) rfl r11.r (.int .i64 X.1) rfl Try.isAgg3 ?_
      simp only [Act.put, pu]
      refine pw_value (by rfl) (.bool true) (exec_eql_k .i64 _ _ _ _ rfl (X.1) (1) rfl rfl true (decide_eq_true (by omega))) ?_
      simp only [Act.put, pu]
      refine pw_mv (by rfl) rfl rfl ?_
      simp only [Act.put, pu]
      refine pw_value (by rfl) (.pointer (some ⟨g11, 1, none⟩)) (exec_field 34 _ 1 rfl g11 (0) rfl _ Try.underlying34 _ rfl 1 Try.sizeOf32) ?_
      simp only [Act.put, pu]
      refine pw_value (by rfl) (.pointer (some ⟨g11, 1 + 1, none⟩)) (exec_field 32 _ 1 rfl g11 (1) rfl _ Try.underlying32 _ rfl 0 Try.sizeOf3) ?_
      simp only [Act.put, pu]
      refine pw_loadk (by rfl) 3 _ rfl _ (2) rfl r11.r (.int .i64 X.2.2.1) rfl Try.isAgg3 ?_
      simp only [Act.put, pu]
      refine pw_value (by rfl) (.pointer (some ⟨g4, 1, none⟩)) (exec_field 32 _ 1 rfl g4 0 rfl _ Try.underlying32 _ rfl 0 Try.sizeOf3) ?_
      simp only [Act.put, pu]
      refine pw_loadk (by rfl) 3 _ rfl _ (1) rfl r4.r (.int .i64 y) rfl Try.isAgg3 ?_
      simp only [Act.put, pu]
      refine pw_value (by rfl) (.bool true) (exec_eql_k .i64 _ _ _ _ rfl (X.2.2.1) (y) rfl rfl true (decide_eq_true (by omega))) ?_
      simp only [Act.put, pu]
      refine pw_pick (by rfl) true (v := .bool true) rfl rfl rfl ?_
      simp only [Act.put, pu]
      refine pw_mv (by rfl) rfl rfl ?_
      simp only [Act.put, pu]
      refine pw_value (by rfl) (.pointer (some ⟨g11, 1, none⟩)) (exec_field 34 _ 1 rfl g11 (0) rfl _ Try.underlying34 _ rfl 1 Try.sizeOf32) ?_
      simp only [Act.put, pu]
      refine pw_value (by rfl) (.pointer (some ⟨g11, 1, none⟩)) (exec_field 32 _ 0 rfl g11 (1) rfl _ Try.underlying32 _ rfl 0 Try.sizeOf3) ?_
      simp only [Act.put, pu]
      refine pw_loadk (by rfl) 3 _ rfl _ (1) rfl r11.r (.int .i64 X.2.1) rfl Try.isAgg3 ?_
      simp only [Act.put, pu]
      refine pw_value (by rfl) (.pointer (some ⟨g4, 0, none⟩)) (exec_field 32 _ 0 rfl g4 0 rfl _ Try.underlying32 _ rfl 0 Try.sizeOf3) ?_
      simp only [Act.put, pu]
      refine pw_loadk (by rfl) 3 _ rfl _ (0) rfl r4.r (.int .i64 x) rfl Try.isAgg3 ?_
      simp only [Act.put, pu]
      refine pw_value (by rfl) (.int .i64 (x + 1)) (x_addz _ _ _ _ rfl (x) (1) (x + 1) rfl rfl (by omega) (by omega) (by omega)) ?_
      simp only [Act.put, pu]
      refine pw_value (by rfl) (.bool false) (exec_gt_i _ _ _ _ rfl (X.2.1) (x + 1) rfl rfl false (decide_eq_false (by omega))) ?_
      simp only [Act.put, pu]
      refine pw_pick (by rfl) true (v := .bool false) rfl rfl rfl ?_
      simp only [Act.put, pu]
      refine pw_mv (by rfl) rfl rfl ?_
      simp only [Act.put, pu]
      refine pw_skip (by rfl) ?_
      simp only [Act.put, pu]
      refine pw_pick (by rfl) false (v := .bool false) rfl rfl rfl ?_
      simp only [Act.put, pu]
      refine pw_nil ?_
      by_cases hgt : ((u2 : Nat) : Int) > ((u : Nat) : Int)
      ·obtain ⟨rfl, hneq⟩ : B = true ∧ (!decide (X.2.1 = x ∧ X.2.2.1 = y)) = false := by
        cases B with
        | false => have := HLE.out (.inl rfl); omega
        | true =>
         refine ⟨rfl, ?_⟩
         by_cases e : X.2.1 = x ∧ X.2.2.1 = y
         ·rw [decide_eq_true e]; rfl
         ·have := HLE.out (.inr e); omega
       clear HLE
       (repeat ((fail_if_success with_reducible refine rg ?_); go_step))
       refine wp_region_pw ?_
       refine pw_mv (by rfl) rfl rfl ?_
       simp only [Act.put, pu]
       refine pw_loadm (by rfl) 32 _ rfl _ 0 rfl r4.r _ (part_all _) _ Try.underlying32 rfl size_st ?_
       simp only [Act.put, pu]
       refine pw_value (by rfl) (.pointer (some ⟨g5, 0, none⟩)) (exec_index_g 42 _ _ rfl g5 0 rfl 0 2 rfl (by decide) _ Try.underlying42 1 Try.sizeOf9) ?_
       simp only [Act.put, pu]
       refine pw_loadk (by rfl) 9 _ rfl _ (0) rfl r5.r (.string ⟨da.toArray⟩) rfl Try.isAgg9 ?_
       simp only [Act.put, pu]
       refine pw_callB (by rfl) 11 _ _ rfl Try.func11 (by kernel_rfl) #[.pointer (some ⟨g7, 0, none⟩), .agg (tsC x y), .string ⟨da.toArray⟩] rfl _ (hD _ r7) ?_
       intro z17004 k
       simp only [Act.put, pu]
       replace r4 := k.row r4 (by simp <;> omega)
       replace r5 := k.row r5 (by simp <;> omega)
       replace r7 := k.row r7 (by simp <;> omega)
       replace r11 := k.row r11 (by simp <;> omega)
       replace sb := sb.trans (k.below w.heap.size sb.size (by simp <;> omega))
       clear k
       refine pw_mv (by rfl) rfl rfl ?_
       simp only [Act.put, pu]
       refine pw_value (by rfl) (.bool true) (exec_gt_i _ _ _ _ rfl (((u2 : Nat) : Int)) (((u : Nat) : Int)) rfl rfl true (decide_eq_true (by omega))) ?_
       simp only [Act.put, pu]
       refine pw_mv (by rfl) rfl rfl ?_
       simp only [Act.put, pu]
       refine pw_mv (by rfl) rfl rfl ?_
       simp only [Act.put, pu]
       refine pw_value (by rfl) (.bool false) (exec_not _ _ rfl true rfl) ?_
       simp only [Act.put, pu]
       refine pw_mv (by rfl) rfl rfl ?_
       simp only [Act.put, pu]
       refine pw_value (by rfl) (.pointer (some ⟨g11, 1, none⟩)) (exec_field 34 _ 1 rfl g11 (0) rfl _ Try.underlying34 _ rfl 1 Try.sizeOf32) ?_
       simp only [Act.put, pu]
       refine pw_loadm (by rfl) 32 _ rfl _ (1) rfl r11.r ((tsC X.2.1 X.2.2.1)) (rv_st X) _ Try.underlying32 rfl size_st ?_
       simp only [Act.put, pu]
       refine pw_loadm (by rfl) 32 _ rfl _ 0 rfl r4.r _ (part_all _) _ Try.underlying32 rfl size_st ?_
       simp only [Act.put, pu]
       refine pw_value (by rfl) (.bool false) (exec_neq_st _ _ _ rfl X.2.1 X.2.2.1 x y rfl rfl false hneq) ?_
       simp only [Act.put, pu]
       refine pw_pick (by rfl) false (v := .bool false) rfl rfl rfl ?_
       simp only [Act.put, pu]
       refine pw_pick (by rfl) true (v := .bool false) rfl rfl rfl ?_
       simp only [Act.put, pu]
       refine pw_nil ?_
       (repeat ((fail_if_success with_reducible refine rg ?_); go_step))
       refine wp_region_pw ?_
       refine pw_mv (by rfl) rfl rfl ?_
       simp only [Act.put, pu]
       refine pw_value (by rfl) (.int .i64 (((i + 1 : Nat) : Int))) (x_addz _ _ _ _ rfl ((i : Nat)) (1) (((i + 1 : Nat) : Int)) rfl rfl (by omega) (by omega) (by omega)) ?_
       simp only [Act.put, pu]
       refine pw_as (by rfl) rfl rfl ?_
       simp only [Act.put, pu]
       refine pw_nil ?_
       go_wp2
       go_roundg yv
       case measure => omega
       case rel => exact ⟨i + 1, V2, _, by omega, rfl, rfl, r4, r5, r7, hon, sb⟩
      ·clear HLE
       (repeat ((fail_if_success with_reducible refine rg ?_); go_step))
       refine wp_region_pw ?_
       refine pw_mv (by rfl) rfl rfl ?_
       simp only [Act.put, pu]
       refine pw_loadm (by rfl) 32 _ rfl _ 0 rfl r4.r _ (part_all _) _ Try.underlying32 rfl size_st ?_
       simp only [Act.put, pu]
       refine pw_value (by rfl) (.pointer (some ⟨g5, 0, none⟩)) (exec_index_g 42 _ _ rfl g5 0 rfl 0 2 rfl (by decide) _ Try.underlying42 1 Try.sizeOf9) ?_
       simp only [Act.put, pu]
       refine pw_loadk (by rfl) 9 _ rfl _ (0) rfl r5.r (.string ⟨da.toArray⟩) rfl Try.isAgg9 ?_
       simp only [Act.put, pu]
       refine pw_callB (by rfl) 11 _ _ rfl Try.func11 (by kernel_rfl) #[.pointer (some ⟨g7, 0, none⟩), .agg (tsC x y), .string ⟨da.toArray⟩] rfl _ (hD _ r7) ?_
       intro z17004 k
       simp only [Act.put, pu]
       replace r4 := k.row r4 (by simp <;> omega)
       replace r5 := k.row r5 (by simp <;> omega)
       replace r7 := k.row r7 (by simp <;> omega)
       replace r11 := k.row r11 (by simp <;> omega)
       replace sb := sb.trans (k.below w.heap.size sb.size (by simp <;> omega))
       clear k
       refine pw_mv (by rfl) rfl rfl ?_
       simp only [Act.put, pu]
       refine pw_value (by rfl) (.bool false) (exec_gt_i _ _ _ _ rfl (((u2 : Nat) : Int)) (((u : Nat) : Int)) rfl rfl false (decide_eq_false (by omega))) ?_
       simp only [Act.put, pu]
       refine pw_mv (by rfl) rfl rfl ?_
       simp only [Act.put, pu]
       refine pw_skip (by rfl) ?_
       simp only [Act.put, pu]
       refine pw_skip (by rfl) ?_
       simp only [Act.put, pu]
       refine pw_skip (by rfl) ?_
       simp only [Act.put, pu]
       refine pw_skip (by rfl) ?_
       simp only [Act.put, pu]
       refine pw_skip (by rfl) ?_
       simp only [Act.put, pu]
       refine pw_skip (by rfl) ?_
       simp only [Act.put, pu]
       refine pw_skip (by rfl) ?_
       simp only [Act.put, pu]
       refine pw_skip (by rfl) ?_
       simp only [Act.put, pu]
       refine pw_pick (by rfl) false (v := .bool false) rfl rfl rfl ?_
       simp only [Act.put, pu]
       refine pw_nil ?_
       (repeat ((fail_if_success with_reducible refine rg ?_); go_step))
       refine wp_region_pw ?_
       refine pw_mv (by rfl) rfl rfl ?_
       simp only [Act.put, pu]
       refine pw_value (by rfl) (.int .i64 (((i + 1 : Nat) : Int))) (x_addz _ _ _ _ rfl ((i : Nat)) (1) (((i + 1 : Nat) : Int)) rfl rfl (by omega) (by omega) (by omega)) ?_
       simp only [Act.put, pu]
       refine pw_as (by rfl) rfl rfl ?_
       simp only [Act.put, pu]
       refine pw_nil ?_
       go_wp2
       go_roundg yv
       case measure => omega
       case rel => exact ⟨i + 1, V2, _, by omega, rfl, rfl, r4, r5, r7, hon, sb⟩
    have hst : decide (X.2.1 = x ∧ X.2.2.1 = y) = false := decide_eq_false fun e => hs1 e.1
    by_cases hs2 : X.2.1 > x + 1
    rotate_left
    ·have hon := HKK.out (fun hp hk hc hpar hB hlt => by omega)
     clear HKK HNN
     (repeat ((fail_if_success with_reducible refine rg ?_); go_step))
     refine wp_region_pw ?_
     refine pw_value (by rfl) (.pointer (some ⟨g11, 0, none⟩)) (exec_field 34 _ 0 rfl g11 (0) rfl _ Try.underlying34 _ rfl 0 Try.sizeOf3) ?_
     simp only [Act.put, pu]
     refine pw_loadk (by rfl) 3 _ rfl _ (0) rfl r11.r (.int .i64 X.1) rfl Try.isAgg3 ?_
     simp only [Act.put, pu]
     refine pw_value (by rfl) (.bool true) (exec_eql_k .i64 _ _ _ _ rfl (X.1) (1) rfl rfl true (decide_eq_true (by omega))) ?_
     simp only [Act.put, pu]
     refine pw_mv (by rfl) rfl rfl ?_
     simp only [Act.put, pu]
     refine pw_value (by rfl) (.pointer (some ⟨g11, 1, none⟩)) (exec_field 34 _ 1 rfl g11 (0) rfl _ Try.underlying34 _ rfl 1 Try.sizeOf32) ?_
     simp only [Act.put, pu]
     refine pw_loadm (by rfl) 32 _ rfl _ (1) rfl r11.r ((tsC X.2.1 X.2.2.1)) (rv_st X) _ Try.underlying32 rfl size_st ?_
     simp only [Act.put, pu]
     refine pw_loadm (by rfl) 32 _ rfl _ 0 rfl r4.r _ (part_all _) _ Try.underlying32 rfl size_st ?_
     simp only [Act.put, pu]
     refine pw_value (by rfl) (.bool false) (exec_eql_st _ _ _ rfl X.2.1 X.2.2.1 x y rfl rfl false hst) ?_
     simp only [Act.put, pu]
     refine pw_pick (by rfl) true (v := .bool false) rfl rfl rfl ?_
     simp only [Act.put, pu]
     refine pw_mv (by rfl) rfl rfl ?_
     simp only [Act.put, pu]
     refine pw_skip (by rfl) ?_
     simp only [Act.put, pu]
     refine pw_skip (by rfl) ?_
     simp only [Act.put, pu]
     refine pw_skip (by rfl) ?_
     simp only [Act.put, pu]
     refine pw_skip (by rfl) ?_
     simp only [Act.put, pu]
     refine pw_skip (by rfl) ?_
     simp only [Act.put, pu]
     refine pw_pick (by rfl) false (v := .bool false) rfl rfl rfl ?_
     simp only [Act.put, pu]
     refine pw_mv (by rfl) rfl rfl ?_
     simp only [Act.put, pu]
     refine pw_skip (by rfl) ?_
     simp only [Act.put, pu]
     refine pw_pick (by rfl) false (v := .bool false) rfl rfl rfl ?_
     simp only [Act.put, pu]
     refine pw_nil ?_
     (repeat ((fail_if_success with_reducible refine rg ?_); go_step))
     refine wp_region_pw ?_
     refine pw_value (by rfl) (.pointer (some ⟨g11, 0, none⟩)) (exec_field 34 _ 0 rfl g11 (0) rfl _ Try.underlying34 _ rfl 0 Try.sizeOf3) ?_
     simp only [Act.put, pu]
     refine pw_loadk (by rfl) 3 _ rfl _ (0) rfl r11.r (.int .i64 X.1) rfl Try.isAgg3 ?_
     simp only [Act.put, pu]
     refine pw_value (by rfl) (.bool true) (exec_eql_k .i64 _ _ _ _ rfl (X.1) (1) rfl rfl true (decide_eq_true (by omega))) ?_
     simp only [Act.put, pu]
     refine pw_mv (by rfl) rfl rfl ?_
     simp only [Act.put, pu]
     refine pw_value (by rfl) (.pointer (some ⟨g11, 1, none⟩)) (exec_field 34 _ 1 rfl g11 (0) rfl _ Try.underlying34 _ rfl 1 Try.sizeOf32) ?_
     simp only [Act.put, pu]
     refine pw_value (by rfl) (.pointer (some ⟨g11, 1 + 1, none⟩)) (exec_field 32 _ 1 rfl g11 (1) rfl _ Try.underlying32 _ rfl 0 Try.sizeOf3) ?_
     simp only [Act.put, pu]
     refine pw_loadk (by rfl) 3 _ rfl _ (2) rfl r11.r (.int .i64 X.2.2.1) rfl Try.isAgg3 ?_
     simp only [Act.put, pu]
     refine pw_value (by rfl) (.pointer (some ⟨g4, 1, none⟩)) (exec_field 32 _ 1 rfl g4 0 rfl _ Try.underlying32 _ rfl 0 Try.sizeOf3) ?_
     simp only [Act.put, pu]
     refine pw_loadk (by rfl) 3 _ rfl _ (1) rfl r4.r (.int .i64 y) rfl Try.isAgg3 ?_
     simp only [Act.put, pu]
     refine pw_value (by rfl) (.bool true) (exec_eql_k .i64 _ _ _ _ rfl (X.2.2.1) (y) rfl rfl true (decide_eq_true (by omega))) ?_
     simp only [Act.put, pu]
     refine pw_pick (by rfl) true (v := .bool true) rfl rfl rfl ?_
     simp only [Act.put, pu]
     refine pw_mv (by rfl) rfl rfl ?_
     simp only [Act.put, pu]
     refine pw_value (by rfl) (.pointer (some ⟨g11, 1, none⟩)) (exec_field 34 _ 1 rfl g11 (0) rfl _ Try.underlying34 _ rfl 1 Try.sizeOf32) ?_
     simp only [Act.put, pu]
     refine pw_value (by rfl) (.pointer (some ⟨g11, 1, none⟩)) (exec_field 32 _ 0 rfl g11 (1) rfl _ Try.underlying32 _ rfl 0 Try.sizeOf3) ?_
     simp only [Act.put, pu]
     refine pw_loadk (by rfl) 3 _ rfl _ (1) rfl r11.r (.int .i64 X.2.1) rfl Try.isAgg3 ?_
     simp only [Act.put, pu]
     refine pw_value (by rfl) (.pointer (some ⟨g4, 0, none⟩)) (exec_field 32 _ 0 rfl g4 0 rfl _ Try.underlying32 _ rfl 0 Try.sizeOf3) ?_
     simp only [Act.put, pu]
     refine pw_loadk (by rfl) 3 _ rfl _ (0) rfl r4.r (.int .i64 x) rfl Try.isAgg3 ?_
     simp only [Act.put, pu]
     refine pw_value (by rfl) (.int .i64 (x + 1)) (x_addz _ _ _ _ rfl (x) (1) (x + 1) rfl rfl (by omega) (by omega) (by omega)) ?_
     simp only [Act.put, pu]
     refine pw_value (by rfl) (.bool false) (exec_gt_i _ _ _ _ rfl (X.2.1) (x + 1) rfl rfl false (decide_eq_false (by omega))) ?_
     simp only [Act.put, pu]
     refine pw_pick (by rfl) true (v := .bool false) rfl rfl rfl ?_
     simp only [Act.put, pu]
     refine pw_mv (by rfl) rfl rfl ?_
     simp only [Act.put, pu]
     refine pw_skip (by rfl) ?_
     simp only [Act.put, pu]
     refine pw_pick (by rfl) false (v := .bool false) rfl rfl rfl ?_
     simp only [Act.put, pu]
     refine pw_nil ?_
     have hgt : ¬ ((u2 : Nat) : Int) > ((u : Nat) : Int) := by have := HLE.out (.inr fun e => hs1 e.1); omega
     clear HLE
     (repeat ((fail_if_success with_reducible refine rg ?_); go_step))
     refine wp_region_pw ?_
     refine pw_mv (by rfl) rfl rfl ?_
     simp only [Act.put, pu]
     refine pw_loadm (by rfl) 32 _ rfl _ 0 rfl r4.r _ (part_all _) _ Try.underlying32 rfl size_st ?_
     simp only [Act.put, pu]
     refine pw_value (by rfl) (.pointer (some ⟨g5, 0, none⟩)) (exec_index_g 42 _ _ rfl g5 0 rfl 0 2 rfl (by decide) _ Try.underlying42 1 Try.sizeOf9) ?_
     simp only [Act.put, pu]
     refine pw_loadk (by rfl) 9 _ rfl _ (0) rfl r5.r (.string ⟨da.toArray⟩) rfl Try.isAgg9 ?_
     simp only [Act.put, pu]
     refine pw_callB (by rfl) 11 _ _ rfl Try.func11 (by kernel_rfl) #[.pointer (some ⟨g7, 0, none⟩), .agg (tsC x y), .string ⟨da.toArray⟩] rfl _ (hD _ r7) ?_
     intro z17004 k
     simp only [Act.put, pu]
     replace r4 := k.row r4 (by simp <;> omega)
     replace r5 := k.row r5 (by simp <;> omega)
     replace r7 := k.row r7 (by simp <;> omega)
     replace r11 := k.row r11 (by simp <;> omega)
     replace sb := sb.trans (k.below w.heap.size sb.size (by simp <;> omega))
     clear k
     refine pw_mv (by rfl) rfl rfl ?_
     simp only [Act.put, pu]
     refine pw_value (by rfl) (.bool false) (exec_gt_i _ _ _ _ rfl (((u2 : Nat) : Int)) (((u : Nat) : Int)) rfl rfl false (decide_eq_false (by omega))) ?_
     simp only [Act.put, pu]
     refine pw_mv (by rfl) rfl rfl ?_
     simp only [Act.put, pu]
     refine pw_skip (by rfl) ?_
     simp only [Act.put, pu]
     refine pw_skip (by rfl) ?_
     simp only [Act.put, pu]
     refine pw_skip (by rfl) ?_
     simp only [Act.put, pu]
     refine pw_skip (by rfl) ?_
     simp only [Act.put, pu]
     refine pw_skip (by rfl) ?_
     simp only [Act.put, pu]
     refine pw_skip (by rfl) ?_
     simp only [Act.put, pu]
     refine pw_skip (by rfl) ?_
     simp only [Act.put, pu]
     refine pw_skip (by rfl) ?_
     simp only [Act.put, pu]
     refine pw_pick (by rfl) false (v := .bool false) rfl rfl rfl ?_
     simp only [Act.put, pu]
     refine pw_nil ?_
     (repeat ((fail_if_success with_reducible refine rg ?_); go_step))
     refine wp_region_pw ?_
     refine pw_mv (by rfl) rfl rfl ?_
     simp only [Act.put, pu]
     refine pw_value (by rfl) (.int .i64 (((i + 1 : Nat) : Int))) (x_addz _ _ _ _ rfl ((i : Nat)) (1) (((i + 1 : Nat) : Int)) rfl rfl (by omega) (by omega) (by omega)) ?_
     simp only [Act.put, pu]
     refine pw_as (by rfl) rfl rfl ?_
     simp only [Act.put, pu]
     refine pw_nil ?_
     go_wp2
     go_roundg yv
     case measure => omega
     case rel => exact ⟨i + 1, V2, _, by omega, rfl, rfl, r4, r5, r7, hon, sb⟩
    cases B with
    | false =>
     have hon := HKK.out (fun hp hk hc hpar hB hlt => by cases hB)
     clear HKK HNN
     (repeat ((fail_if_success with_reducible refine rg ?_); go_step))
     refine wp_region_pw ?_
     refine pw_value (by rfl) (.pointer (some ⟨g11, 0, none⟩)) (exec_field 34 _ 0 rfl g11 (0) rfl _ Try.underlying34 _ rfl 0 Try.sizeOf3) ?_
     simp only [Act.put, pu]
     refine pw_loadk (by rfl) 3 _ rfl _ (0) rfl r11.r (.int .i64 X.1) rfl Try.isAgg3 ?_
     simp only [Act.put, pu]
     refine pw_value (by rfl) (.bool true) (exec_eql_k .i64 _ _ _ _ rfl (X.1) (1) rfl rfl true (decide_eq_true (by omega))) ?_
     simp only [Act.put, pu]
     refine pw_mv (by rfl) rfl rfl ?_
     simp only [Act.put, pu]
     refine pw_value (by rfl) (.pointer (some ⟨g11, 1, none⟩)) (exec_field 34 _ 1 rfl g11 (0) rfl _ Try.underlying34 _ rfl 1 Try.sizeOf32) ?_
     simp only [Act.put, pu]
     refine pw_loadm (by rfl) 32 _ rfl _ (1) rfl r11.r ((tsC X.2.1 X.2.2.1)) (rv_st X) _ Try.underlying32 rfl size_st ?_
     simp only [Act.put, pu]
     refine pw_loadm (by rfl) 32 _ rfl _ 0 rfl r4.r _ (part_all _) _ Try.underlying32 rfl size_st ?_
     simp only [Act.put, pu]
     refine pw_value (by rfl) (.bool false) (exec_eql_st _ _ _ rfl X.2.1 X.2.2.1 x y rfl rfl false hst) ?_
     simp only [Act.put, pu]
     refine pw_pick (by rfl) true (v := .bool false) rfl rfl rfl ?_
     simp only [Act.put, pu]
     refine pw_mv (by rfl) rfl rfl ?_
     simp only [Act.put, pu]
     refine pw_skip (by rfl) ?_
     simp only [Act.put, pu]
     refine pw_skip (by rfl) ?_
     simp only [Act.put, pu]
     refine pw_skip (by rfl) ?_
     simp only [Act.put, pu]
     refine pw_skip (by rfl) ?_
     simp only [Act.put, pu]
     refine pw_skip (by rfl) ?_
     simp only [Act.put, pu]
     refine pw_pick (by rfl) false (v := .bool false) rfl rfl rfl ?_
     simp only [Act.put, pu]
     refine pw_mv (by rfl) rfl rfl ?_
     simp only [Act.put, pu]
     refine pw_skip (by rfl) ?_
     simp only [Act.put, pu]
     refine pw_pick (by rfl) false (v := .bool false) rfl rfl rfl ?_
     simp only [Act.put, pu]
     refine pw_nil ?_
     (repeat ((fail_if_success with_reducible refine rg ?_); go_step))
     refine wp_region_pw ?_
     refine pw_value (by rfl) (.pointer (some ⟨g11, 0, none⟩)) (exec_field 34 _ 0 rfl g11 (0) rfl _ Try.underlying34 _ rfl 0 Try.sizeOf3) ?_
     simp only [Act.put, pu]
     refine pw_loadk (by rfl) 3 _ rfl _ (0) rfl r11.r (.int .i64 X.1) rfl Try.isAgg3 ?_
     simp only [Act.put, pu]
     refine pw_value (by rfl) (.bool true) (exec_eql_k .i64 _ _ _ _ rfl (X.1) (1) rfl rfl true (decide_eq_true (by omega))) ?_
     simp only [Act.put, pu]
     refine pw_mv (by rfl) rfl rfl ?_
     simp only [Act.put, pu]
     refine pw_value (by rfl) (.pointer (some ⟨g11, 1, none⟩)) (exec_field 34 _ 1 rfl g11 (0) rfl _ Try.underlying34 _ rfl 1 Try.sizeOf32) ?_
     simp only [Act.put, pu]
     refine pw_value (by rfl) (.pointer (some ⟨g11, 1 + 1, none⟩)) (exec_field 32 _ 1 rfl g11 (1) rfl _ Try.underlying32 _ rfl 0 Try.sizeOf3) ?_
     simp only [Act.put, pu]
     refine pw_loadk (by rfl) 3 _ rfl _ (2) rfl r11.r (.int .i64 X.2.2.1) rfl Try.isAgg3 ?_
     simp only [Act.put, pu]
     refine pw_value (by rfl) (.pointer (some ⟨g4, 1, none⟩)) (exec_field 32 _ 1 rfl g4 0 rfl _ Try.underlying32 _ rfl 0 Try.sizeOf3) ?_
     simp only [Act.put, pu]
     refine pw_loadk (by rfl) 3 _ rfl _ (1) rfl r4.r (.int .i64 y) rfl Try.isAgg3 ?_
     simp only [Act.put, pu]
     refine pw_value (by rfl) (.bool true) (exec_eql_k .i64 _ _ _ _ rfl (X.2.2.1) (y) rfl rfl true (decide_eq_true (by omega))) ?_
     simp only [Act.put, pu]
     refine pw_pick (by rfl) true (v := .bool true) rfl rfl rfl ?_
     simp only [Act.put, pu]
     refine pw_mv (by rfl) rfl rfl ?_
     simp only [Act.put, pu]
     refine pw_value (by rfl) (.pointer (some ⟨g11, 1, none⟩)) (exec_field 34 _ 1 rfl g11 (0) rfl _ Try.underlying34 _ rfl 1 Try.sizeOf32) ?_
     simp only [Act.put, pu]
     refine pw_value (by rfl) (.pointer (some ⟨g11, 1, none⟩)) (exec_field 32 _ 0 rfl g11 (1) rfl _ Try.underlying32 _ rfl 0 Try.sizeOf3) ?_
     simp only [Act.put, pu]
     refine pw_loadk (by rfl) 3 _ rfl _ (1) rfl r11.r (.int .i64 X.2.1) rfl Try.isAgg3 ?_
     simp only [Act.put, pu]
     refine pw_value (by rfl) (.pointer (some ⟨g4, 0, none⟩)) (exec_field 32 _ 0 rfl g4 0 rfl _ Try.underlying32 _ rfl 0 Try.sizeOf3) ?_
     simp only [Act.put, pu]
     refine pw_loadk (by rfl) 3 _ rfl _ (0) rfl r4.r (.int .i64 x) rfl Try.isAgg3 ?_
     simp only [Act.put, pu]
     refine pw_value (by rfl) (.int .i64 (x + 1)) (x_addz _ _ _ _ rfl (x) (1) (x + 1) rfl rfl (by omega) (by omega) (by omega)) ?_
     simp only [Act.put, pu]
     refine pw_value (by rfl) (.bool true) (exec_gt_i _ _ _ _ rfl (X.2.1) (x + 1) rfl rfl true (decide_eq_true (by omega))) ?_
     simp only [Act.put, pu]
     refine pw_pick (by rfl) true (v := .bool true) rfl rfl rfl ?_
     simp only [Act.put, pu]
     refine pw_mv (by rfl) rfl rfl ?_
     simp only [Act.put, pu]
     refine pw_mv (by rfl) rfl rfl ?_
     simp only [Act.put, pu]
     refine pw_pick (by rfl) true (v := .bool false) rfl rfl rfl ?_
     simp only [Act.put, pu]
     refine pw_nil ?_
     have hgt : ¬ ((u2 : Nat) : Int) > ((u : Nat) : Int) := by have := HLE.out (.inl rfl); omega
     clear HLE
     (repeat ((fail_if_success with_reducible refine rg ?_); go_step))
     refine wp_region_pw ?_
     refine pw_mv (by rfl) rfl rfl ?_
     simp only [Act.put, pu]
     refine pw_loadm (by rfl) 32 _ rfl _ 0 rfl r4.r _ (part_all _) _ Try.underlying32 rfl size_st ?_
     simp only [Act.put, pu]
     refine pw_value (by rfl) (.pointer (some ⟨g5, 0, none⟩)) (exec_index_g 42 _ _ rfl g5 0 rfl 0 2 rfl (by decide) _ Try.underlying42 1 Try.sizeOf9) ?_
     simp only [Act.put, pu]
     refine pw_loadk (by rfl) 9 _ rfl _ (0) rfl r5.r (.string ⟨da.toArray⟩) rfl Try.isAgg9 ?_
     simp only [Act.put, pu]
     refine pw_callB (by rfl) 11 _ _ rfl Try.func11 (by kernel_rfl) #[.pointer (some ⟨g7, 0, none⟩), .agg (tsC x y), .string ⟨da.toArray⟩] rfl _ (hD _ r7) ?_
     intro z17004 k
     simp only [Act.put, pu]
     replace r4 := k.row r4 (by simp <;> omega)
     replace r5 := k.row r5 (by simp <;> omega)
     replace r7 := k.row r7 (by simp <;> omega)
     replace r11 := k.row r11 (by simp <;> omega)
     replace sb := sb.trans (k.below w.heap.size sb.size (by simp <;> omega))
     clear k
     refine pw_mv (by rfl) rfl rfl ?_
     simp only [Act.put, pu]
     refine pw_value (by rfl) (.bool false) (exec_gt_i _ _ _ _ rfl (((u2 : Nat) : Int)) (((u : Nat) : Int)) rfl rfl false (decide_eq_false (by omega))) ?_
     simp only [Act.put, pu]
     refine pw_mv (by rfl) rfl rfl ?_
     simp only [Act.put, pu]
     refine pw_skip (by rfl) ?_
     simp only [Act.put, pu]
     refine pw_skip (by rfl) ?_
     simp only [Act.put, pu]
     refine pw_skip (by rfl) ?_
     simp only [Act.put, pu]
     refine pw_skip (by rfl) ?_
     simp only [Act.put, pu]
     refine pw_skip (by rfl) ?_
     simp only [Act.put, pu]
     refine pw_skip (by rfl) ?_
     simp only [Act.put, pu]
     refine pw_skip (by rfl) ?_
     simp only [Act.put, pu]
     refine pw_skip (by rfl) ?_
     simp only [Act.put, pu]
     refine pw_pick (by rfl) false (v := .bool false) rfl rfl rfl ?_
     simp only [Act.put, pu]
     refine pw_nil ?_
     (repeat ((fail_if_success with_reducible refine rg ?_); go_step))
     refine wp_region_pw ?_
     refine pw_mv (by rfl) rfl rfl ?_
     simp only [Act.put, pu]
     refine pw_value (by rfl) (.int .i64 (((i + 1 : Nat) : Int))) (x_addz _ _ _ _ rfl ((i : Nat)) (1) (((i + 1 : Nat) : Int)) rfl rfl (by omega) (by omega) (by omega)) ?_
     simp only [Act.put, pu]
     refine pw_as (by rfl) rfl rfl ?_
     simp only [Act.put, pu]
     refine pw_nil ?_
     go_wp2
     go_roundg yv
     case measure => omega
     case rel => exact ⟨i + 1, V2, _, by omega, rfl, rfl, r4, r5, r7, hon, sb⟩
    | true =>
     cases pb with
     | false =>
      have hon : onP V2 x y da false := fun e => by cases e
      clear HKK HNN
      (repeat ((fail_if_success with_reducible refine rg ?_); go_step))
      refine wp_region_pw ?_
      refine pw_value (by rfl) (.pointer (some ⟨g11, 0, none⟩)) (exec_field 34 _ 0 rfl g11 (0) rfl _ Try.underlying34 _ rfl 0 Try.sizeOf3) ?_
      simp only [Act.put, pu]
      refine pw_loadk (by rfl) 3 _ rfl _ (0) rfl r11.r (.int .i64 X.1) rfl Try.isAgg3 ?_
      simp only [Act.put, pu]
      refine pw_value (by rfl) (.bool true) (exec_eql_k .i64 _ _ _ _ rfl (X.1) (1) rfl rfl true (decide_eq_true (by omega))) ?_
      simp only [Act.put, pu]
      refine pw_mv (by rfl) rfl rfl ?_
      simp only [Act.put, pu]
      refine pw_value (by rfl) (.pointer (some ⟨g11, 1, none⟩)) (exec_field 34 _ 1 rfl g11 (0) rfl _ Try.underlying34 _ rfl 1 Try.sizeOf32) ?_
      simp only [Act.put, pu]
      refine pw_loadm (by rfl) 32 _ rfl _ (1) rfl r11.r ((tsC X.2.1 X.2.2.1)) (rv_st X) _ Try.underlying32 rfl size_st ?_
      simp only [Act.put, pu]
      refine pw_loadm (by rfl) 32 _ rfl _ 0 rfl r4.r _ (part_all _) _ Try.underlying32 rfl size_st ?_
      simp only [Act.put, pu]
      refine pw_value (by rfl) (.bool false) (exec_eql_st _ _ _ rfl X.2.1 X.2.2.1 x y rfl rfl false hst) ?_
      simp only [Act.put, pu]
      refine pw_pick (by rfl) true (v := .bool false) rfl rfl rfl ?_
      simp only [Act.put, pu]
      refine pw_mv (by rfl) rfl rfl ?_
      simp only [Act.put, pu]
      refine pw_skip (by rfl) ?_
      simp only [Act.put, pu]
      refine pw_skip (by rfl) ?_
      simp only [Act.put, pu]
      refine pw_skip (by rfl) ?_
      simp only [Act.put, pu]
      refine pw_skip (by rfl) ?_
      simp only [Act.put, pu]
      refine pw_skip (by rfl) ?_
      simp only [Act.put, pu]
      refine pw_pick (by rfl) false (v := .bool false) rfl rfl rfl ?_
      simp only [Act.put, pu]
      refine pw_mv (by rfl) rfl rfl ?_
      simp only [Act.put, pu]
      refine pw_skip (by rfl) ?_
      simp only [Act.put, pu]
      refine pw_pick (by rfl) false (v := .bool false) rfl rfl rfl ?_
      simp only [Act.put, pu]
      refine pw_nil ?_
      (repeat ((fail_if_success with_reducible refine rg ?_); go_step))
      refine wp_region_pw ?_
      refine pw_value (by rfl) (.pointer (some ⟨g11, 0, none⟩)) (exec_field 34 _ 0 rfl g11 (0) rfl _ Try.underlying34 _ rfl 0 Try.sizeOf3) ?_
      simp only [Act.put, pu]
      refine pw_loadk (by rfl) 3 _ rfl _ (0) rfl r11.r (.int .i64 X.1) rfl Try.isAgg3 ?_
      simp only [Act.put, pu]
      refine pw_value (by rfl) (.bool true) (exec_eql_k .i64 _ _ _ _ rfl (X.1) (1) rfl rfl true (decide_eq_true (by omega))) ?_
      simp only [Act.put, pu]
      refine pw_mv (by rfl) rfl rfl ?_
      simp only [Act.put, pu]
      refine pw_value (by rfl) (.pointer (some ⟨g11, 1, none⟩)) (exec_field 34 _ 1 rfl g11 (0) rfl _ Try.underlying34 _ rfl 1 Try.sizeOf32) ?_
      simp only [Act.put, pu]
      refine pw_value (by rfl) (.pointer (some ⟨g11, 1 + 1, none⟩)) (exec_field 32 _ 1 rfl g11 (1) rfl _ Try.underlying32 _ rfl 0 Try.sizeOf3) ?_
      simp only [Act.put, pu]
      refine pw_loadk (by rfl) 3 _ rfl _ (2) rfl r11.r (.int .i64 X.2.2.1) rfl Try.isAgg3 ?_
      simp only [Act.put, pu]
      refine pw_value (by rfl) (.pointer (some ⟨g4, 1, none⟩)) (exec_field 32 _ 1 rfl g4 0 rfl _ Try.underlying32 _ rfl 0 Try.sizeOf3) ?_
      simp only [Act.put, pu]
      refine pw_loadk (by rfl) 3 _ rfl _ (1) rfl r4.r (.int .i64 y) rfl Try.isAgg3 ?_
      simp only [Act.put, pu]
      refine pw_value (by rfl) (.bool true) (exec_eql_k .i64 _ _ _ _ rfl (X.2.2.1) (y) rfl rfl true (decide_eq_true (by omega))) ?_
      simp only [Act.put, pu]
      refine pw_pick (by rfl) true (v := .bool true) rfl rfl rfl ?_
      simp only [Act.put, pu]
      refine pw_mv (by rfl) rfl rfl ?_
      simp only [Act.put, pu]
      refine pw_value (by rfl) (.pointer (some ⟨g11, 1, none⟩)) (exec_field 34 _ 1 rfl g11 (0) rfl _ Try.underlying34 _ rfl 1 Try.sizeOf32) ?_
      simp only [Act.put, pu]
      refine pw_value (by rfl) (.pointer (some ⟨g11, 1, none⟩)) (exec_field 32 _ 0 rfl g11 (1) rfl _ Try.underlying32 _ rfl 0 Try.sizeOf3) ?_
      simp only [Act.put, pu]
      refine pw_loadk (by rfl) 3 _ rfl _ (1) rfl r11.r (.int .i64 X.2.1) rfl Try.isAgg3 ?_
      simp only [Act.put, pu]
      refine pw_value (by rfl) (.pointer (some ⟨g4, 0, none⟩)) (exec_field 32 _ 0 rfl g4 0 rfl _ Try.underlying32 _ rfl 0 Try.sizeOf3) ?_
      simp only [Act.put, pu]
      refine pw_loadk (by rfl) 3 _ rfl _ (0) rfl r4.r (.int .i64 x) rfl Try.isAgg3 ?_
      simp only [Act.put, pu]
      refine pw_value (by rfl) (.int .i64 (x + 1)) (x_addz _ _ _ _ rfl (x) (1) (x + 1) rfl rfl (by omega) (by omega) (by omega)) ?_
      simp only [Act.put, pu]
      refine pw_value (by rfl) (.bool true) (exec_gt_i _ _ _ _ rfl (X.2.1) (x + 1) rfl rfl true (decide_eq_true (by omega))) ?_
      simp only [Act.put, pu]
      refine pw_pick (by rfl) true (v := .bool true) rfl rfl rfl ?_
      simp only [Act.put, pu]
      refine pw_mv (by rfl) rfl rfl ?_
      simp only [Act.put, pu]
      refine pw_mv (by rfl) rfl rfl ?_
      simp only [Act.put, pu]
      refine pw_pick (by rfl) true (v := .bool true) rfl rfl rfl ?_
      simp only [Act.put, pu]
      refine pw_nil ?_
      (repeat ((fail_if_success with_reducible refine rg ?_); go_step))
      refine wp_region_pw ?_
      refine pw_mv (by rfl) rfl rfl ?_
      simp only [Act.put, pu]
      refine pw_mv (by rfl) rfl rfl ?_
      simp only [Act.put, pu]
      refine pw_skip (by rfl) ?_
      simp only [Act.put, pu]
      refine pw_skip (by rfl) ?_
      simp only [Act.put, pu]
      refine pw_skip (by rfl) ?_
      simp only [Act.put, pu]
      refine pw_skip (by rfl) ?_
      simp only [Act.put, pu]
      refine pw_skip (by rfl) ?_
      simp only [Act.put, pu]
      refine pw_skip (by rfl) ?_
      simp only [Act.put, pu]
      refine pw_skip (by rfl) ?_
      simp only [Act.put, pu]
      refine pw_skip (by rfl) ?_
      simp only [Act.put, pu]
      refine pw_pick (by rfl) false (v := .bool false) rfl rfl rfl ?_
      simp only [Act.put, pu]
      refine pw_as (by rfl) rfl rfl ?_
      simp only [Act.put, pu]
      refine pw_nil ?_
      have hgt : ¬ ((u2 : Nat) : Int) > ((u : Nat) : Int) := by have := HLE.out (.inr fun e => hs1 e.1); omega
      clear HLE
      (repeat ((fail_if_success with_reducible refine rg ?_); go_step))
      refine wp_region_pw ?_
      refine pw_mv (by rfl) rfl rfl ?_
      simp only [Act.put, pu]
      refine pw_loadm (by rfl) 32 _ rfl _ 0 rfl r4.r _ (part_all _) _ Try.underlying32 rfl size_st ?_
      simp only [Act.put, pu]
      refine pw_value (by rfl) (.pointer (some ⟨g5, 0, none⟩)) (exec_index_g 42 _ _ rfl g5 0 rfl 0 2 rfl (by decide) _ Try.underlying42 1 Try.sizeOf9) ?_
      simp only [Act.put, pu]
      refine pw_loadk (by rfl) 9 _ rfl _ (0) rfl r5.r (.string ⟨da.toArray⟩) rfl Try.isAgg9 ?_
      simp only [Act.put, pu]
      refine pw_callB (by rfl) 11 _ _ rfl Try.func11 (by kernel_rfl) #[.pointer (some ⟨g7, 0, none⟩), .agg (tsC x y), .string ⟨da.toArray⟩] rfl _ (hD _ r7) ?_
      intro z17004 k
      simp only [Act.put, pu]
      replace r4 := k.row r4 (by simp <;> omega)
      replace r5 := k.row r5 (by simp <;> omega)
      replace r7 := k.row r7 (by simp <;> omega)
      replace r11 := k.row r11 (by simp <;> omega)
      replace sb := sb.trans (k.below w.heap.size sb.size (by simp <;> omega))
      clear k
      refine pw_mv (by rfl) rfl rfl ?_
      simp only [Act.put, pu]
      refine pw_value (by rfl) (.bool false) (exec_gt_i _ _ _ _ rfl (((u2 : Nat) : Int)) (((u : Nat) : Int)) rfl rfl false (decide_eq_false (by omega))) ?_
      simp only [Act.put, pu]
      refine pw_mv (by rfl) rfl rfl ?_
      simp only [Act.put, pu]
      refine pw_skip (by rfl) ?_
      simp only [Act.put, pu]
      refine pw_skip (by rfl) ?_
      simp only [Act.put, pu]
      refine pw_skip (by rfl) ?_
      simp only [Act.put, pu]
      refine pw_skip (by rfl) ?_
      simp only [Act.put, pu]
      refine pw_skip (by rfl) ?_
      simp only [Act.put, pu]
      refine pw_skip (by rfl) ?_
      simp only [Act.put, pu]
      refine pw_skip (by rfl) ?_
      simp only [Act.put, pu]
      refine pw_skip (by rfl) ?_
      simp only [Act.put, pu]
      refine pw_pick (by rfl) false (v := .bool false) rfl rfl rfl ?_
      simp only [Act.put, pu]
      refine pw_nil ?_
      (repeat ((fail_if_success with_reducible refine rg ?_); go_step))
      refine wp_region_pw ?_
      refine pw_mv (by rfl) rfl rfl ?_
      simp only [Act.put, pu]
      refine pw_value (by rfl) (.int .i64 (((i + 1 : Nat) : Int))) (x_addz _ _ _ _ rfl ((i : Nat)) (1) (((i + 1 : Nat) : Int)) rfl rfl (by omega) (by omega) (by omega)) ?_
      simp only [Act.put, pu]
      refine pw_as (by rfl) rfl rfl ?_
      simp only [Act.put, pu]
      refine pw_nil ?_
      go_wp2
      go_roundg yv
      case measure => omega
      case rel => exact ⟨i + 1, V2, _, by omega, rfl, rfl, r4, r5, r7, hon, sb⟩
     | true =>
      by_cases hpar : X.2.1 % 2 = x % 2
      ·have hon : onP V2 x y da false := fun e => by cases e
       clear HKK HNN
       (repeat ((fail_if_success with_reducible refine rg ?_); go_step))
       refine wp_region_pw ?_
       refine pw_value (by rfl) (.pointer (some ⟨g11, 0, none⟩)) (exec_field 34 _ 0 rfl g11 (0) rfl _ Try.underlying34 _ rfl 0 Try.sizeOf3) ?_
       simp only [Act.put, pu]
       refine pw_loadk (by rfl) 3 _ rfl _ (0) rfl r11.r (.int .i64 X.1) rfl Try.isAgg3 ?_
       simp only [Act.put, pu]
       refine pw_value (by rfl) (.bool true) (exec_eql_k .i64 _ _ _ _ rfl (X.1) (1) rfl rfl true (decide_eq_true (by omega))) ?_
       simp only [Act.put, pu]
       refine pw_mv (by rfl) rfl rfl ?_
       simp only [Act.put, pu]
       refine pw_value (by rfl) (.pointer (some ⟨g11, 1, none⟩)) (exec_field 34 _ 1 rfl g11 (0) rfl _ Try.underlying34 _ rfl 1 Try.sizeOf32) ?_
       simp only [Act.put, pu]
       refine pw_loadm (by rfl) 32 _ rfl _ (1) rfl r11.r ((tsC X.2.1 X.2.2.1)) (rv_st X) _ Try.underlying32 rfl size_st ?_
       simp only [Act.put, pu]
       refine pw_loadm (by rfl) 32 _ rfl _ 0 rfl r4.r _ (part_all _) _ Try.underlying32 rfl size_st ?_
       simp only [Act.put, pu]
       refine pw_value (by rfl) (.bool false) (exec_eql_st _ _ _ rfl X.2.1 X.2.2.1 x y rfl rfl false hst) ?_
       simp only [Act.put, pu]
       refine pw_pick (by rfl) true (v := .bool false) rfl rfl rfl ?_
       simp only [Act.put, pu]
       refine pw_mv (by rfl) rfl rfl ?_
       simp only [Act.put, pu]
       refine pw_skip (by rfl) ?_
       simp only [Act.put, pu]
       refine pw_skip (by rfl) ?_
       simp only [Act.put, pu]
       refine pw_skip (by rfl) ?_
       simp only [Act.put, pu]
       refine pw_skip (by rfl) ?_
       simp only [Act.put, pu]
       refine pw_skip (by rfl) ?_
       simp only [Act.put, pu]
       refine pw_pick (by rfl) false (v := .bool false) rfl rfl rfl ?_
       simp only [Act.put, pu]
       refine pw_mv (by rfl) rfl rfl ?_
       simp only [Act.put, pu]
       refine pw_skip (by rfl) ?_
       simp only [Act.put, pu]
       refine pw_pick (by rfl) false (v := .bool false) rfl rfl rfl ?_
       simp only [Act.put, pu]
       refine pw_nil ?_
       (repeat ((fail_if_success with_reducible refine rg ?_); go_step))
       refine wp_region_pw ?_
       refine pw_value (by rfl) (.pointer (some ⟨g11, 0, none⟩)) (exec_field 34 _ 0 rfl g11 (0) rfl _ Try.underlying34 _ rfl 0 Try.sizeOf3) ?_
       simp only [Act.put, pu]
       refine pw_loadk (by rfl) 3 _ rfl _ (0) rfl r11.r (.int .i64 X.1) rfl Try.isAgg3 ?_
       simp only [Act.put, pu]
       refine pw_value (by rfl) (.bool true) (exec_eql_k .i64 _ _ _ _ rfl (X.1) (1) rfl rfl true (decide_eq_true (by omega))) ?_
       simp only [Act.put, pu]
       refine pw_mv (by rfl) rfl rfl ?_
       simp only [Act.put, pu]
       refine pw_value (by rfl) (.pointer (some ⟨g11, 1, none⟩)) (exec_field 34 _ 1 rfl g11 (0) rfl _ Try.underlying34 _ rfl 1 Try.sizeOf32) ?_
       simp only [Act.put, pu]
       refine pw_value (by rfl) (.pointer (some ⟨g11, 1 + 1, none⟩)) (exec_field 32 _ 1 rfl g11 (1) rfl _ Try.underlying32 _ rfl 0 Try.sizeOf3) ?_
       simp only [Act.put, pu]
       refine pw_loadk (by rfl) 3 _ rfl _ (2) rfl r11.r (.int .i64 X.2.2.1) rfl Try.isAgg3 ?_
       simp only [Act.put, pu]
       refine pw_value (by rfl) (.pointer (some ⟨g4, 1, none⟩)) (exec_field 32 _ 1 rfl g4 0 rfl _ Try.underlying32 _ rfl 0 Try.sizeOf3) ?_
       simp only [Act.put, pu]
       refine pw_loadk (by rfl) 3 _ rfl _ (1) rfl r4.r (.int .i64 y) rfl Try.isAgg3 ?_
       simp only [Act.put, pu]
       refine pw_value (by rfl) (.bool true) (exec_eql_k .i64 _ _ _ _ rfl (X.2.2.1) (y) rfl rfl true (decide_eq_true (by omega))) ?_
       simp only [Act.put, pu]
       refine pw_pick (by rfl) true (v := .bool true) rfl rfl rfl ?_
       simp only [Act.put, pu]
       refine pw_mv (by rfl) rfl rfl ?_
       simp only [Act.put, pu]
       refine pw_value (by rfl) (.pointer (some ⟨g11, 1, none⟩)) (exec_field 34 _ 1 rfl g11 (0) rfl _ Try.underlying34 _ rfl 1 Try.sizeOf32) ?_
       simp only [Act.put, pu]
       refine pw_value (by rfl) (.pointer (some ⟨g11, 1, none⟩)) (exec_field 32 _ 0 rfl g11 (1) rfl _ Try.underlying32 _ rfl 0 Try.sizeOf3) ?_
       simp only [Act.put, pu]
       refine pw_loadk (by rfl) 3 _ rfl _ (1) rfl r11.r (.int .i64 X.2.1) rfl Try.isAgg3 ?_
       simp only [Act.put, pu]
       refine pw_value (by rfl) (.pointer (some ⟨g4, 0, none⟩)) (exec_field 32 _ 0 rfl g4 0 rfl _ Try.underlying32 _ rfl 0 Try.sizeOf3) ?_
       simp only [Act.put, pu]
       refine pw_loadk (by rfl) 3 _ rfl _ (0) rfl r4.r (.int .i64 x) rfl Try.isAgg3 ?_
       simp only [Act.put, pu]
       refine pw_value (by rfl) (.int .i64 (x + 1)) (x_addz _ _ _ _ rfl (x) (1) (x + 1) rfl rfl (by omega) (by omega) (by omega)) ?_
       simp only [Act.put, pu]
       refine pw_value (by rfl) (.bool true) (exec_gt_i _ _ _ _ rfl (X.2.1) (x + 1) rfl rfl true (decide_eq_true (by omega))) ?_
       simp only [Act.put, pu]
       refine pw_pick (by rfl) true (v := .bool true) rfl rfl rfl ?_
       simp only [Act.put, pu]
       refine pw_mv (by rfl) rfl rfl ?_
       simp only [Act.put, pu]
       refine pw_mv (by rfl) rfl rfl ?_
       simp only [Act.put, pu]
       refine pw_pick (by rfl) true (v := .bool true) rfl rfl rfl ?_
       simp only [Act.put, pu]
       refine pw_nil ?_
       (repeat ((fail_if_success with_reducible refine rg ?_); go_step))
       refine wp_region_pw ?_
       refine pw_mv (by rfl) rfl rfl ?_
       simp only [Act.put, pu]
       refine pw_mv (by rfl) rfl rfl ?_
       simp only [Act.put, pu]
       refine pw_value (by rfl) (.pointer (some ⟨g11, 1, none⟩)) (exec_field 34 _ 1 rfl g11 (0) rfl _ Try.underlying34 _ rfl 1 Try.sizeOf32) ?_
       simp only [Act.put, pu]
       refine pw_value (by rfl) (.pointer (some ⟨g11, 1, none⟩)) (exec_field 32 _ 0 rfl g11 (1) rfl _ Try.underlying32 _ rfl 0 Try.sizeOf3) ?_
       simp only [Act.put, pu]
       refine pw_loadk (by rfl) 3 _ rfl _ (1) rfl r11.r (.int .i64 X.2.1) rfl Try.isAgg3 ?_
       simp only [Act.put, pu]
       refine pw_value (by rfl) (.int .i64 (X.2.1 % 2)) (x_par _ _ _ rfl (X.2.1) rfl rfl) ?_
       simp only [Act.put, pu]
       refine pw_value (by rfl) (.pointer (some ⟨g4, 0, none⟩)) (exec_field 32 _ 0 rfl g4 0 rfl _ Try.underlying32 _ rfl 0 Try.sizeOf3) ?_
       simp only [Act.put, pu]
       refine pw_loadk (by rfl) 3 _ rfl _ (0) rfl r4.r (.int .i64 x) rfl Try.isAgg3 ?_
       simp only [Act.put, pu]
       refine pw_value (by rfl) (.int .i64 (x % 2)) (x_par _ _ _ rfl (x) rfl rfl) ?_
       simp only [Act.put, pu]
       refine pw_value (by rfl) (.bool false) (exec_neq_k .i64 _ _ _ _ rfl (X.2.1 % 2) (x % 2) rfl rfl false (by rw [decide_eq_true (by omega)]; rfl)) ?_
       simp only [Act.put, pu]
       refine pw_pick (by rfl) true (v := .bool false) rfl rfl rfl ?_
       simp only [Act.put, pu]
       refine pw_as (by rfl) rfl rfl ?_
       simp only [Act.put, pu]
       refine pw_nil ?_
       have hgt : ¬ ((u2 : Nat) : Int) > ((u : Nat) : Int) := by have := HLE.out (.inr fun e => hs1 e.1); omega
       clear HLE
       (repeat ((fail_if_success with_reducible refine rg ?_); go_step))
       refine wp_region_pw ?_
       refine pw_mv (by rfl) rfl rfl ?_
       simp only [Act.put, pu]
       refine pw_loadm (by rfl) 32 _ rfl _ 0 rfl r4.r _ (part_all _) _ Try.underlying32 rfl size_st ?_
       simp only [Act.put, pu]
       refine pw_value (by rfl) (.pointer (some ⟨g5, 0, none⟩)) (exec_index_g 42 _ _ rfl g5 0 rfl 0 2 rfl (by decide) _ Try.underlying42 1 Try.sizeOf9) ?_
       simp only [Act.put, pu]
       refine pw_loadk (by rfl) 9 _ rfl _ (0) rfl r5.r (.string ⟨da.toArray⟩) rfl Try.isAgg9 ?_
       simp only [Act.put, pu]
       refine pw_callB (by rfl) 11 _ _ rfl Try.func11 (by kernel_rfl) #[.pointer (some ⟨g7, 0, none⟩), .agg (tsC x y), .string ⟨da.toArray⟩] rfl _ (hD _ r7) ?_
       intro z17004 k
       simp only [Act.put, pu]
       replace r4 := k.row r4 (by simp <;> omega)
       replace r5 := k.row r5 (by simp <;> omega)
       replace r7 := k.row r7 (by simp <;> omega)
       replace r11 := k.row r11 (by simp <;> omega)
       replace sb := sb.trans (k.below w.heap.size sb.size (by simp <;> omega))
       clear k
       refine pw_mv (by rfl) rfl rfl ?_
       simp only [Act.put, pu]
       refine pw_value (by rfl) (.bool false) (exec_gt_i _ _ _ _ rfl (((u2 : Nat) : Int)) (((u : Nat) : Int)) rfl rfl false (decide_eq_false (by omega))) ?_
       simp only [Act.put, pu]
       refine pw_mv (by rfl) rfl rfl ?_
       simp only [Act.put, pu]
       refine pw_skip (by rfl) ?_
       simp only [Act.put, pu]
       refine pw_skip (by rfl) ?_
       simp only [Act.put, pu]
       refine pw_skip (by rfl) ?_
       simp only [Act.put, pu]
       refine pw_skip (by rfl) ?_
       simp only [Act.put, pu]
       refine pw_skip (by rfl) ?_
       simp only [Act.put, pu]
       refine pw_skip (by rfl) ?_
       simp only [Act.put, pu]
       refine pw_skip (by rfl) ?_
       simp only [Act.put, pu]
       refine pw_skip (by rfl) ?_
       simp only [Act.put, pu]
       refine pw_pick (by rfl) false (v := .bool false) rfl rfl rfl ?_
       simp only [Act.put, pu]
       refine pw_nil ?_
       (repeat ((fail_if_success with_reducible refine rg ?_); go_step))
       refine wp_region_pw ?_
       refine pw_mv (by rfl) rfl rfl ?_
       simp only [Act.put, pu]
       refine pw_value (by rfl) (.int .i64 (((i + 1 : Nat) : Int))) (x_addz _ _ _ _ rfl ((i : Nat)) (1) (((i + 1 : Nat) : Int)) rfl rfl (by omega) (by omega) (by omega)) ?_
       simp only [Act.put, pu]
       refine pw_as (by rfl) rfl rfl ?_
       simp only [Act.put, pu]
       refine pw_nil ?_
       go_wp2
       go_roundg yv
       case measure => omega
       case rel => exact ⟨i + 1, V2, _, by omega, rfl, rfl, r4, r5, r7, hon, sb⟩
      ·have hon := HKK.out (fun _ _ _ hp2 _ _ => hpar hp2)
       clear HKK HNN
       (repeat ((fail_if_success with_reducible refine rg ?_); go_step))
       refine wp_region_pw ?_
       refine pw_value (by rfl) (.pointer (some ⟨g11, 0, none⟩)) (exec_field 34 _ 0 rfl g11 (0) rfl _ Try.underlying34 _ rfl 0 Try.sizeOf3) ?_
       simp only [Act.put, pu]
       refine pw_loadk (by rfl) 3 _ rfl _ (0) rfl r11.r (.int .i64 X.1) rfl Try.isAgg3 ?_
       simp only [Act.put, pu]
       refine pw_value (by rfl) (.bool true) (exec_eql_k .i64 _ _ _ _ rfl (X.1) (1) rfl rfl true (decide_eq_true (by omega))) ?_
       simp only [Act.put, pu]
       refine pw_mv (by rfl) rfl rfl ?_
       simp only [Act.put, pu]
       refine pw_value (by rfl) (.pointer (some ⟨g11, 1, none⟩)) (exec_field 34 _ 1 rfl g11 (0) rfl _ Try.underlying34 _ rfl 1 Try.sizeOf32) ?_
       simp only [Act.put, pu]
       refine pw_loadm (by rfl) 32 _ rfl _ (1) rfl r11.r ((tsC X.2.1 X.2.2.1)) (rv_st X) _ Try.underlying32 rfl size_st ?_
       simp only [Act.put, pu]
       refine pw_loadm (by rfl) 32 _ rfl _ 0 rfl r4.r _ (part_all _) _ Try.underlying32 rfl size_st ?_
       simp only [Act.put, pu]
       refine pw_value (by rfl) (.bool false) (exec_eql_st _ _ _ rfl X.2.1 X.2.2.1 x y rfl rfl false hst) ?_
       simp only [Act.put, pu]
       refine pw_pick (by rfl) true (v := .bool false) rfl rfl rfl ?_
       simp only [Act.put, pu]
       refine pw_mv (by rfl) rfl rfl ?_
       simp only [Act.put, pu]
       refine pw_skip (by rfl) ?_
       simp only [Act.put, pu]
       refine pw_skip (by rfl) ?_
       simp only [Act.put, pu]
       refine pw_skip (by rfl) ?_
       simp only [Act.put, pu]
       refine pw_skip (by rfl) ?_
       simp only [Act.put, pu]
       refine pw_skip (by rfl) ?_
       simp only [Act.put, pu]
       refine pw_pick (by rfl) false (v := .bool false) rfl rfl rfl ?_
       simp only [Act.put, pu]
       refine pw_mv (by rfl) rfl rfl ?_
       simp only [Act.put, pu]
       refine pw_skip (by rfl) ?_
       simp only [Act.put, pu]
       refine pw_pick (by rfl) false (v := .bool false) rfl rfl rfl ?_
       simp only [Act.put, pu]
       refine pw_nil ?_
       (repeat ((fail_if_success with_reducible refine rg ?_); go_step))
       refine wp_region_pw ?_
       refine pw_value (by rfl) (.pointer (some ⟨g11, 0, none⟩)) (exec_field 34 _ 0 rfl g11 (0) rfl _ Try.underlying34 _ rfl 0 Try.sizeOf3) ?_
       simp only [Act.put, pu]
       refine pw_loadk (by rfl) 3 _ rfl _ (0) rfl r11.r (.int .i64 X.1) rfl Try.isAgg3 ?_
       simp only [Act.put, pu]
       refine pw_value (by rfl) (.bool true) (exec_eql_k .i64 _ _ _ _ rfl (X.1) (1) rfl rfl true (decide_eq_true (by omega))) ?_
       simp only [Act.put, pu]
       refine pw_mv (by rfl) rfl rfl ?_
       simp only [Act.put, pu]
       refine pw_value (by rfl) (.pointer (some ⟨g11, 1, none⟩)) (exec_field 34 _ 1 rfl g11 (0) rfl _ Try.underlying34 _ rfl 1 Try.sizeOf32) ?_
       simp only [Act.put, pu]
       refine pw_value (by rfl) (.pointer (some ⟨g11, 1 + 1, none⟩)) (exec_field 32 _ 1 rfl g11 (1) rfl _ Try.underlying32 _ rfl 0 Try.sizeOf3) ?_
       simp only [Act.put, pu]
       refine pw_loadk (by rfl) 3 _ rfl _ (2) rfl r11.r (.int .i64 X.2.2.1) rfl Try.isAgg3 ?_
       simp only [Act.put, pu]
       refine pw_value (by rfl) (.pointer (some ⟨g4, 1, none⟩)) (exec_field 32 _ 1 rfl g4 0 rfl _ Try.underlying32 _ rfl 0 Try.sizeOf3) ?_
       simp only [Act.put, pu]
       refine pw_loadk (by rfl) 3 _ rfl _ (1) rfl r4.r (.int .i64 y) rfl Try.isAgg3 ?_
       simp only [Act.put, pu]
       refine pw_value (by rfl) (.bool true) (exec_eql_k .i64 _ _ _ _ rfl (X.2.2.1) (y) rfl rfl true (decide_eq_true (by omega))) ?_
       simp only [Act.put, pu]
       refine pw_pick (by rfl) true (v := .bool true) rfl rfl rfl ?_
       simp only [Act.put, pu]
       refine pw_mv (by rfl) rfl rfl ?_
       simp only [Act.put, pu]
       refine pw_value (by rfl) (.pointer (some ⟨g11, 1, none⟩)) (exec_field 34 _ 1 rfl g11 (0) rfl _ Try.underlying34 _ rfl 1 Try.sizeOf32) ?_
       simp only [Act.put, pu]
       refine pw_value (by rfl) (.pointer (some ⟨g11, 1, none⟩)) (exec_field 32 _ 0 rfl g11 (1) rfl _ Try.underlying32 _ rfl 0 Try.sizeOf3) ?_
       simp only [Act.put, pu]
       refine pw_loadk (by rfl) 3 _ rfl _ (1) rfl r11.r (.int .i64 X.2.1) rfl Try.isAgg3 ?_
       simp only [Act.put, pu]
       refine pw_value (by rfl) (.pointer (some ⟨g4, 0, none⟩)) (exec_field 32 _ 0 rfl g4 0 rfl _ Try.underlying32 _ rfl 0 Try.sizeOf3) ?_
       simp only [Act.put, pu]
       refine pw_loadk (by rfl) 3 _ rfl _ (0) rfl r4.r (.int .i64 x) rfl Try.isAgg3 ?_
       simp only [Act.put, pu]
       refine pw_value (by rfl) (.int .i64 (x + 1)) (x_addz _ _ _ _ rfl (x) (1) (x + 1) rfl rfl (by omega) (by omega) (by omega)) ?_
       simp only [Act.put, pu]
       refine pw_value (by rfl) (.bool true) (exec_gt_i _ _ _ _ rfl (X.2.1) (x + 1) rfl rfl true (decide_eq_true (by omega))) ?_
       simp only [Act.put, pu]
       refine pw_pick (by rfl) true (v := .bool true) rfl rfl rfl ?_
       simp only [Act.put, pu]
       refine pw_mv (by rfl) rfl rfl ?_
       simp only [Act.put, pu]
       refine pw_mv (by rfl) rfl rfl ?_
       simp only [Act.put, pu]
       refine pw_pick (by rfl) true (v := .bool true) rfl rfl rfl ?_
       simp only [Act.put, pu]
       refine pw_nil ?_
       (repeat ((fail_if_success with_reducible refine rg ?_); go_step))
       refine wp_region_pw ?_
       refine pw_mv (by rfl) rfl rfl ?_
       simp only [Act.put, pu]
       refine pw_mv (by rfl) rfl rfl ?_
       simp only [Act.put, pu]
       refine pw_value (by rfl) (.pointer (some ⟨g11, 1, none⟩)) (exec_field 34 _ 1 rfl g11 (0) rfl _ Try.underlying34 _ rfl 1 Try.sizeOf32) ?_
       simp only [Act.put, pu]
       refine pw_value (by rfl) (.pointer (some ⟨g11, 1, none⟩)) (exec_field 32 _ 0 rfl g11 (1) rfl _ Try.underlying32 _ rfl 0 Try.sizeOf3) ?_
       simp only [Act.put, pu]
       refine pw_loadk (by rfl) 3 _ rfl _ (1) rfl r11.r (.int .i64 X.2.1) rfl Try.isAgg3 ?_
       simp only [Act.put, pu]
       refine pw_value (by rfl) (.int .i64 (X.2.1 % 2)) (x_par _ _ _ rfl (X.2.1) rfl rfl) ?_
       simp only [Act.put, pu]
       refine pw_value (by rfl) (.pointer (some ⟨g4, 0, none⟩)) (exec_field 32 _ 0 rfl g4 0 rfl _ Try.underlying32 _ rfl 0 Try.sizeOf3) ?_
       simp only [Act.put, pu]
       refine pw_loadk (by rfl) 3 _ rfl _ (0) rfl r4.r (.int .i64 x) rfl Try.isAgg3 ?_
       simp only [Act.put, pu]
       refine pw_value (by rfl) (.int .i64 (x % 2)) (x_par _ _ _ rfl (x) rfl rfl) ?_
       simp only [Act.put, pu]
       refine pw_value (by rfl) (.bool true) (exec_neq_k .i64 _ _ _ _ rfl (X.2.1 % 2) (x % 2) rfl rfl true (by rw [decide_eq_false (by omega)]; rfl)) ?_
       simp only [Act.put, pu]
       refine pw_pick (by rfl) true (v := .bool true) rfl rfl rfl ?_
       simp only [Act.put, pu]
       refine pw_as (by rfl) rfl rfl ?_
       simp only [Act.put, pu]
       refine pw_nil ?_
       have hgt : ¬ ((u2 : Nat) : Int) > ((u : Nat) : Int) := by have := HLE.out (.inr fun e => hs1 e.1); omega
       clear HLE
       (repeat ((fail_if_success with_reducible refine rg ?_); go_step))
       refine wp_region_pw ?_
       refine pw_mv (by rfl) rfl rfl ?_
       simp only [Act.put, pu]
       refine pw_loadm (by rfl) 32 _ rfl _ 0 rfl r4.r _ (part_all _) _ Try.underlying32 rfl size_st ?_
       simp only [Act.put, pu]
       refine pw_value (by rfl) (.pointer (some ⟨g5, 0, none⟩)) (exec_index_g 42 _ _ rfl g5 0 rfl 0 2 rfl (by decide) _ Try.underlying42 1 Try.sizeOf9) ?_
       simp only [Act.put, pu]
       refine pw_loadk (by rfl) 9 _ rfl _ (0) rfl r5.r (.string ⟨da.toArray⟩) rfl Try.isAgg9 ?_
       simp only [Act.put, pu]
       refine pw_callB (by rfl) 11 _ _ rfl Try.func11 (by kernel_rfl) #[.pointer (some ⟨g7, 0, none⟩), .agg (tsC x y), .string ⟨da.toArray⟩] rfl _ (hD _ r7) ?_
       intro z17004 k
       simp only [Act.put, pu]
       replace r4 := k.row r4 (by simp <;> omega)
       replace r5 := k.row r5 (by simp <;> omega)
       replace r7 := k.row r7 (by simp <;> omega)
       replace r11 := k.row r11 (by simp <;> omega)
       replace sb := sb.trans (k.below w.heap.size sb.size (by simp <;> omega))
       clear k
       refine pw_mv (by rfl) rfl rfl ?_
       simp only [Act.put, pu]
       refine pw_value (by rfl) (.bool false) (exec_gt_i _ _ _ _ rfl (((u2 : Nat) : Int)) (((u : Nat) : Int)) rfl rfl false (decide_eq_false (by omega))) ?_
       simp only [Act.put, pu]
       refine pw_mv (by rfl) rfl rfl ?_
       simp only [Act.put, pu]
       refine pw_skip (by rfl) ?_
       simp only [Act.put, pu]
       refine pw_skip (by rfl) ?_
       simp only [Act.put, pu]
       refine pw_skip (by rfl) ?_
       simp only [Act.put, pu]
       refine pw_skip (by rfl) ?_
       simp only [Act.put, pu]
       refine pw_skip (by rfl) ?_
       simp only [Act.put, pu]
       refine pw_skip (by rfl) ?_
       simp only [Act.put, pu]
       refine pw_skip (by rfl) ?_
       simp only [Act.put, pu]
       refine pw_skip (by rfl) ?_
       simp only [Act.put, pu]
       refine pw_pick (by rfl) false (v := .bool false) rfl rfl rfl ?_
       simp only [Act.put, pu]
       refine pw_nil ?_
       (repeat ((fail_if_success with_reducible refine rg ?_); go_step))
       refine wp_region_pw ?_
       refine pw_mv (by rfl) rfl rfl ?_
       simp only [Act.put, pu]
       refine pw_value (by rfl) (.int .i64 (((i + 1 : Nat) : Int))) (x_addz _ _ _ _ rfl ((i : Nat)) (1) (((i + 1 : Nat) : Int)) rfl rfl (by omega) (by omega) (by omega)) ?_
       simp only [Act.put, pu]
       refine pw_as (by rfl) rfl rfl ?_
       simp only [Act.put, pu]
       refine pw_nil ?_
       go_wp2
       go_roundg yv
       case measure => omega
       case rel => exact ⟨i + 1, V2, _, by omega, rfl, rfl, r4, r5, r7, hon, sb⟩
set_option maxRecDepth 100000 in
theorem lifted (os : Os) (started : os.Started) (H : Type) (enc : TypeId × Value → H) :
  ReturnsInHanded {} Try.checked os 4 .any (Rows.votesOnceSpec.pre6 enc Try.prog Try.f4 Rows.votesOnceRow.domain false) (Rows.votesOnceSpec.post enc Try.prog Try.f4 false true false false) := by
 refine returnsInHanded_of_change (C := Try.checked) own started (by kernel_rfl) Try.func4
  (ChangeSpec.witness6 (enc := enc) (C := Try.checked) false ⟨#[], #[.slice none 0 0, .agg #[.int .i64 0, .int .i64 0], .agg #[.string ⟨#[]⟩, .string ⟨#[]⟩]], []⟩ 8 (by kernel_rfl) (by kernel_rfl) (by kernel_rfl) (by kernel_rfl)) ?_
 intro W base args ds gs before hval0 hW hcnd _
 have hval : ∀ (j : Nat) t v, Try.f4.params[j]? = some t → args[j]? = some v → Value.okWide Try.prog W .any base t v := hval0
 have hW' := hW
 obtain ⟨p, q, hA0, hV, rfl, hfz, hnd⟩ := hW
 have hA : DataW.TrodAll enc Try.prog W 0 (fun _ => true) true Try.f4.params.toList args.toList ds p := hA0
 rw [Try.params4] at hA hval
 obtain ⟨v0, vs0, d0, ds0, p0, q0, hargs, rfl, rfl, h0, r0⟩ := trodAll_cons hA
 obtain ⟨v1, vs1, d1, ds1, p1, q1, rfl, rfl, rfl, h1, r1⟩ := trodAll_cons r0
 obtain ⟨v2, vs2, d2, ds2, p2, q2, rfl, rfl, rfl, h2, r2⟩ := trodAll_cons r1
 obtain ⟨rfl, rfl, rfl⟩ := trodAll_nil r2
 obtain rfl : args = #[v0, v1, v2] := by cases args; simp_all
 obtain ⟨rfl, rfl⟩ := trodVars_none hV
 have k0 := h0
 have lt0 := lt_of_trod h0
 obtain ⟨ab0, c0, L0, gb0, ob0, bcs0, tb0, rfl, hn0, hz0⟩ := open_rvs (hval 0 22 v0 rfl rfl) h0
 have k1 := h1
 have lt1 := lt_of_trod h1
 obtain ⟨x1, y1, rfl⟩ := open_st (hval 1 32 v1 rfl rfl) h1
 have k2 := h2
 have lt2 := lt_of_trod h2
 obtain ⟨da2, db2, rfl⟩ := open_s2 (hval 2 42 v2 rfl rfl) h2
 clear hA0 hval0
 refine (walk ab0 c0 L0 gb0 ob0 bcs0 tb0 x1 y1 da2 db2 W hn0 hz0).mono fun e W' ⟨he, bel⟩ => ?_
 subst he
 exact ⟨_, rfl, _, _, _, [], _, [], hW', trodAll_mk1 (shut_bool Try.underlying4 _), (trodAll_cons_mk (Below.trod laidOut (by kernel_rfl) (of_decide_eq_true (by kernel_rfl)) k0 bel lt0) (trodAll_cons_mk (Below.trod laidOut (by kernel_rfl) (of_decide_eq_true (by kernel_rfl)) k1 bel lt1) (trodAll_cons_mk (Below.trod laidOut (by kernel_rfl) (of_decide_eq_true (by kernel_rfl)) k2 bel lt2) trodAll_mk0))), rfl, bel.frame _, fun h => by cases h⟩
theorem over : Rows.votesOnceRow.holds Try.pinned (OpenSpec.ofChange Rows.votesOnceSpec) :=
 OpenClaim.holds_of_wide 4 Try.f4 rfl rfl rfl rfl rfl rfl rfl ⟨rfl, rfl, rfl, rfl, rfl⟩ rfl rfl rfl rfl rfl (by kernel_rfl) Try.func4 (by kernel_rfl)
  (of_decide_eq_true (by kernel_rfl)) (by unfold Func.isWrapper; first | (rw [if_pos (by decide +kernel)]; kernel_rfl) | (rw [if_neg (by decide +kernel)]; exact ⟨rfl, rfl⟩))
  (fun os started H enc _ => lifted os started H enc)
end votesOnceP
/-- for any votes, up to 40 of few bytes, a stamp and two digests: a server vouches for at most one digest with one stamp, and a vote stays till a later one comes; no condition. -/
theorem votesOnce_holds : Rows.VotesOnceSaid := votesOnceP.over
end Go.Proofs.Ytdbcikhineghcaa
