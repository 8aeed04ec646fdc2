/- WireTakes: for any bytes, up to 2^11: the message that is taken of them is the document's, or they are none; and no other bytes lead to it; no condition. -/
import Derived.Test.YtojobffihlmfgaaWRI
import Derived.Test.YtojobffihlmfgaaWRA
namespace Go.Proofs.Ytojobffihlmfgaa
open Go.ChangeShapes Go.WideShapes Go.ChangeAt Go.RowKit
open Go.ChangeMaps (open_string shut_string)
set_option linter.unusedVariables false
set_option linter.unusedSectionVars false
set_option linter.unusedSimpArgs false
namespace wireTakesP
theorem tk_no {s : List UInt8} {w : World} (hl : s.length ≤ 8192) (h : tz s = none) :
  Calls Try.prog 7 #[.string ⟨s.toArray⟩] w fun e w' => e = .returned (.tuple #[.agg (msC 0 0 [] 0 0 [] none 0 0 none 0 0), .int .i64 4]) ∧ Below w.heap.size w w' := by
 refine (rtk18_any s w hl).mono ?_
 rintro e w' ⟨h1 | ⟨d, _, _, _, _, h1, _⟩, hb⟩
 ·exact ⟨h1.2, hb⟩
 ·rw [h] at h1; cases h1
theorem tk_yes {s : List UInt8} {d : RD} {w : World} (hl : s.length ≤ 8192) (h : tz s = some d) :
  Calls Try.prog 7 #[.string ⟨s.toArray⟩] w fun e w' => ∃ a1 c1 a2 c2, e = .returned (.tuple #[.agg (msC (d.kd : Nat) (d.op : Nat) d.key (d.sq : Nat) (d.cl : Nat) d.dg a1 (nX d.X) c1 a2 d.ys.length c2), .int .i64 0]) ∧ InR w.heap.size w'.heap.size w' d a1 a2 ∧ Below w.heap.size w w' := by
 refine (rtk18_any s w hl).mono ?_
 rintro e w' ⟨h1 | ⟨d', a1, c1, a2, c2, h1, h2, h3⟩, hb⟩
 ·rw [h] at h1; cases h1.1
 ·rw [h] at h1
  obtain rfl := Option.some.inj h1
  exact ⟨a1, c1, a2, c2, h2, h3, hb⟩
/-- Put of what was taken. -/
theorem put_yes {s : List UInt8} {d : RD} {a1 : Option Addr} {c1 : Nat} {a2 : Option Addr} {c2 : Nat} {w : World} (h : tz s = some d) (hI : InM w d a1 a2) :
  Calls Try.prog 8 #[.agg (msC (d.kd : Nat) (d.op : Nat) d.key (d.sq : Nat) (d.cl : Nat) d.dg a1 (nX d.X) c1 a2 d.ys.length c2)] w fun e w' => e = .returned (.tuple #[.string ⟨s.toArray⟩, .int .i64 0]) ∧ Below w.heap.size w w' := by
 obtain ⟨hl, hz, hW⟩ := tz_is h
 obtain ⟨hs, hok⟩ := rz_is hz
 have hX : d.X = [] ∨ XOk d.X := hok.ys.imp And.left (fun q => q.2.1)
 have hk := hok.key
 have hp := wPut_any (d.kd : Nat) (d.op : Nat) d.key (d.sq : Nat) (d.cl : Nat) d.dg a1 (nX d.X) c1 a2 d.ys.length c2 (NX d.X) (MZ d.X) (Yt d.ys) w (by omega) (by have := nX_le d.X; omega) hI.1 hI.2
 rw [xmB_X hX] at hp
 simp only [Int.toNat_natCast] at hp
 rw [msL_of hok, ← hs] at hp
 have hW' : wmB (d.kd : Nat) (d.op : Nat) d.key (d.sq : Nat) (d.cl : Nat) d.dg (brB (nX d.X) d.ys.length) (dlB (nX d.X) d.ys.length d.X) = true := hW
 have hpb : ptB true s = true := by unfold ptB; rw [decide_eq_true hl]; rfl
 rw [hW', show ptT true s = s by unfold ptT; rw [hpb]; rfl, hpb] at hp
 exact hp
theorem put_no (w : World) :
  Calls Try.prog 8 #[.agg (msC 0 0 [] 0 0 [] none 0 0 none 0 0)] w fun e w' => e = .returned (.tuple #[.string ⟨#[]⟩, .int .i64 1]) ∧ Below w.heap.size w w' := by
 have hp := wPut_any 0 0 [] 0 0 [] none 0 0 none 0 0 (NX []) (MZ []) (Yt []) w (by decide) (by decide) (mtA_nil _ _ _) ⟨0, 0, #[], 0, ⟨.inl rfl, fun i hi => absurd hi (Nat.not_lt_zero i)⟩⟩
 rw [xmB_0, show wmB 0 0 [] 0 0 [] (brB 0 0) (dlB 0 0 []) = false by decide] at hp
 exact hp
theorem same_no (w : World) :
  Calls Try.prog 9 #[.agg (msC 0 0 [] 0 0 [] none 0 0 none 0 0), .agg (msC 0 0 [] 0 0 [] none 0 0 none 0 0)] w fun e w' => e = .returned (.bool true) ∧ Below w.heap.size w w' :=
 rSame_yes 0 0 [] 0 0 [] none 0 0 none 0 0 none 0 none 0 w
  (fun w' hb => msame_yes (N := NX []) (M := MZ []) (by decide) (fun i hi => absurd hi (Nat.not_lt_zero i)) (mtA_nil _ _ _) (mtA_nil _ _ _))
  (fun w' hb => ysame_yes (Y := Yt []) (by decide) ⟨0, 0, #[], 0, ⟨.inl rfl, fun i hi => absurd hi (Nat.not_lt_zero i)⟩⟩ ⟨0, 0, #[], 0, ⟨.inl rfl, fun i hi => absurd hi (Nat.not_lt_zero i)⟩⟩)
set_option maxRecDepth 100000 in
set_option maxHeartbeats 2000000 in
theorem core0 (s : List UInt8) (w : World) (hs : 2048 < s.length) (hs2 : s.length < 9223372036854775808) :
  Calls Try.prog 3 #[.string ⟨s.toArray⟩] w fun e w' => e = .returned (.bool true) ∧ Below w.heap.size w w' := by
 go_enter Try.func3, Try.ntmps3
 (repeat ((fail_if_success with_reducible refine rg ?_); go_step))
 refine wp_region_pw ?_
 refine pw_value (by rfl) (.bool false) (fun _ => rfl) ?_
 simp only [Act.put, pu]
 refine pw_nil ?_
 have sb := Below.refl w.heap.size w
 (repeat ((fail_if_success with_reducible refine rg ?_); go_step))
 refine wp_region_pw ?_
 refine pw_mv (by rfl) rfl rfl ?_
 simp only [Act.put, pu]
 refine pw_value (by rfl) (.int .i64 (s.length : Nat)) (y_lenS _ _ rfl s rfl Try.underlying9) ?_
 simp only [Act.put, pu]
 refine pw_value (by rfl) (.bool true) (x_gt _ _ _ _ rfl (s.length : Nat) 2048 rfl rfl true (decide_eq_true (by omega))) ?_
 simp only [Act.put, pu]
 refine pw_nil ?_
 (repeat ((fail_if_success with_reducible refine rg ?_); go_step))
 refine wp_region_pw ?_
 refine pw_callB (by rfl) 5 _ _ rfl Try.func5 (by kernel_rfl) #[] rfl _ (awake18_any _) ?_
 intro z2000 k
 simp only [Act.put, pu]
 replace sb := sb.trans (k.below w.heap.size sb.size (by simp <;> omega))
 clear k
 refine pw_as (by rfl) rfl rfl ?_
 simp only [Act.put, pu]
 refine pw_nil ?_
 go_wp2
 go_ret
 exact ⟨rfl, sb⟩
set_option maxRecDepth 100000 in
set_option maxHeartbeats 2000000 in
theorem core1 (s : List UInt8) (w : World) (hs : s.length ≤ 2048) (h : tz s = none) :
  Calls Try.prog 3 #[.string ⟨s.toArray⟩] w fun e w' => e = .returned (.bool true) ∧ Below w.heap.size w w' := by
 have hs4 : s.length < 4611686018427387904 := by omega
 have hs8 : s.length ≤ 8192 := by omega
 have HZ : Hid (tz s = none) := h
 clear h
 go_enter Try.func3, Try.ntmps3
 (repeat ((fail_if_success with_reducible refine rg ?_); go_step))
 refine wp_region_pw ?_
 refine pw_value (by rfl) (.bool false) (fun _ => rfl) ?_
 simp only [Act.put, pu]
 refine pw_nil ?_
 have sb := Below.refl w.heap.size w
 (repeat ((fail_if_success with_reducible refine rg ?_); go_step))
 refine wp_region_pw ?_
 refine pw_mv (by rfl) rfl rfl ?_
 simp only [Act.put, pu]
 refine pw_value (by rfl) (.int .i64 (s.length : Nat)) (y_lenS _ _ rfl s rfl Try.underlying9) ?_
 simp only [Act.put, pu]
 refine pw_value (by rfl) (.bool false) (x_gt _ _ _ _ rfl (s.length : Nat) 2048 rfl rfl false (decide_eq_false (by omega))) ?_
 simp only [Act.put, pu]
 refine pw_nil ?_
 (repeat ((fail_if_success with_reducible refine rg ?_); go_step))
 refine wp_region_pw ?_
 refine pw_mv (by rfl) rfl rfl ?_
 simp only [Act.put, pu]
 refine pw_callB (by rfl) 6 _ _ rfl Try.func6 (by kernel_rfl) #[.string ⟨s.toArray⟩] rfl _ (wtk_no s _ hs4 HZ.out) ?_
 intro z3001 k
 simp only [Act.put, pu]
 replace sb := sb.trans (k.below w.heap.size sb.size (by simp <;> omega))
 clear k
 refine pw_mv (by rfl) rfl rfl ?_
 simp only [Act.put, pu]
 refine pw_ext (by rfl) rfl rfl rfl ?_
 simp only [Act.put, pu]
 refine pw_ext (by rfl) rfl rfl rfl ?_
 simp only [Act.put, pu]
 refine pw_new (by rfl) 29 rfl _ zero_ms ?_
 intro g3 z3005 n0 r3 k
 simp only [Act.put, pu]
 have b3 := Nat.le_trans sb.size n0
 clear n0
 replace sb := sb.trans (k.below w.heap.size sb.size (by simp <;> omega))
 clear k
 refine pw_put (by rfl) 29 _ _ rfl _ rfl r3 (msC 0 0 [] 0 0 [] none 0 0 none 0 0) rfl (by exact size_ms) (by rfl) (ms_one _ _ _ _ _ _ _ _ _ _ _ _) ?_
 clear r3
 intro z3006 r3 k
 simp only [Act.put]
 replace sb := sb.trans (k.below w.heap.size sb.size (by simp <;> omega))
 clear k
 refine pw_as (by rfl) rfl rfl ?_
 simp only [Act.put, pu]
 refine pw_nil ?_
 (repeat ((fail_if_success with_reducible refine rg ?_); go_step))
 refine wp_region_pw ?_
 refine pw_mv (by rfl) rfl rfl ?_
 simp only [Act.put, pu]
 refine pw_callB (by rfl) 7 _ _ rfl Try.func7 (by kernel_rfl) #[.string ⟨s.toArray⟩] rfl _ (tk_no hs8 HZ.out) ?_
 intro z4001 k
 simp only [Act.put, pu]
 replace r3 := k.row r3 (by simp <;> omega)
 replace sb := sb.trans (k.below w.heap.size sb.size (by simp <;> omega))
 clear k
 refine pw_mv (by rfl) rfl rfl ?_
 simp only [Act.put, pu]
 refine pw_ext (by rfl) rfl rfl rfl ?_
 simp only [Act.put, pu]
 refine pw_ext (by rfl) rfl rfl rfl ?_
 simp only [Act.put, pu]
 refine pw_new (by rfl) 29 rfl _ zero_ms ?_
 intro g5 z4005 n0 r5 k
 simp only [Act.put, pu]
 have d3x5 := Nat.lt_of_lt_of_le r3.lt n0
 have b5 := Nat.le_trans sb.size n0
 clear n0
 replace r3 := k.row r3 (by simp <;> omega)
 replace sb := sb.trans (k.below w.heap.size sb.size (by simp <;> omega))
 clear k
 refine pw_put (by rfl) 29 _ _ rfl _ rfl r5 (msC 0 0 [] 0 0 [] none 0 0 none 0 0) rfl (by exact size_ms) (by rfl) (ms_one _ _ _ _ _ _ _ _ _ _ _ _) ?_
 clear r5
 intro z4006 r5 k
 simp only [Act.put]
 replace r3 := k.row r3 (by simp <;> omega)
 replace sb := sb.trans (k.below w.heap.size sb.size (by simp <;> omega))
 clear k
 refine pw_as (by rfl) rfl rfl ?_
 simp only [Act.put, pu]
 refine pw_nil ?_
 (repeat ((fail_if_success with_reducible refine rg ?_); go_step))
 refine wp_region_pw ?_
 refine pw_loadm (by rfl) 29 _ rfl _ (0) rfl r3.r (msC 0 0 [] 0 0 [] none 0 0 none 0 0) (part_all _) _ Try.underlying29 rfl size_ms ?_
 simp only [Act.put, pu]
 refine pw_callB (by rfl) 8 _ _ rfl Try.func8 (by kernel_rfl) #[.agg (msC 0 0 [] 0 0 [] none 0 0 none 0 0)] rfl _ (put_no _) ?_
 intro z5001 k
 simp only [Act.put, pu]
 replace r3 := k.row r3 (by simp <;> omega)
 replace r5 := k.row r5 (by simp <;> omega)
 replace sb := sb.trans (k.below w.heap.size sb.size (by simp <;> omega))
 clear k
 refine pw_mv (by rfl) rfl rfl ?_
 simp only [Act.put, pu]
 refine pw_ext (by rfl) rfl rfl rfl ?_
 simp only [Act.put, pu]
 refine pw_ext (by rfl) rfl rfl rfl ?_
 simp only [Act.put, pu]
 refine pw_as (by rfl) rfl rfl ?_
 simp only [Act.put, pu]
 refine pw_as (by rfl) rfl rfl ?_
 simp only [Act.put, pu]
 refine pw_nil ?_
 (repeat ((fail_if_success with_reducible refine rg ?_); go_step))
 refine wp_region_pw ?_
 refine pw_loadm (by rfl) 29 _ rfl _ (0) rfl r3.r (msC 0 0 [] 0 0 [] none 0 0 none 0 0) (part_all _) _ Try.underlying29 rfl size_ms ?_
 simp only [Act.put, pu]
 refine pw_loadm (by rfl) 29 _ rfl _ (0) rfl r5.r (msC 0 0 [] 0 0 [] none 0 0 none 0 0) (part_all _) _ Try.underlying29 rfl size_ms ?_
 simp only [Act.put, pu]
 refine pw_callB (by rfl) 9 _ _ rfl Try.func9 (by kernel_rfl) #[.agg (msC 0 0 [] 0 0 [] none 0 0 none 0 0), .agg (msC 0 0 [] 0 0 [] none 0 0 none 0 0)] rfl _ (same_no _) ?_
 intro z6002 k
 simp only [Act.put, pu]
 replace r3 := k.row r3 (by simp <;> omega)
 replace r5 := k.row r5 (by simp <;> omega)
 replace sb := sb.trans (k.below w.heap.size sb.size (by simp <;> omega))
 clear k
 refine pw_mv (by rfl) rfl rfl ?_
 simp only [Act.put, pu]
 refine pw_mv (by rfl) rfl rfl ?_
 simp only [Act.put, pu]
 refine pw_mv (by rfl) rfl rfl ?_
 simp only [Act.put, pu]
 refine pw_value (by rfl) (.bool true) (x_eqI _ _ _ _ rfl .i64 4 4 rfl rfl true rfl) ?_
 simp only [Act.put, pu]
 refine pw_pick (by rfl) true (v := .bool true) rfl rfl rfl ?_
 simp only [Act.put, pu]
 refine pw_mv (by rfl) rfl rfl ?_
 simp only [Act.put, pu]
 refine pw_mv (by rfl) rfl rfl ?_
 simp only [Act.put, pu]
 refine pw_value (by rfl) (.bool true) (exec_neq_k .i64 _ _ _ _ rfl 4 0 rfl rfl true rfl) ?_
 simp only [Act.put, pu]
 refine pw_mv (by rfl) rfl rfl ?_
 simp only [Act.put, pu]
 refine pw_skip (by rfl) ?_
 simp only [Act.put, pu]
 refine pw_skip (by rfl) ?_
 simp only [Act.put, pu]
 refine pw_skip (by rfl) ?_
 simp only [Act.put, pu]
 refine pw_skip (by rfl) ?_
 simp only [Act.put, pu]
 refine pw_skip (by rfl) ?_
 simp only [Act.put, pu]
 refine pw_skip (by rfl) ?_
 simp only [Act.put, pu]
 refine pw_skip (by rfl) ?_
 simp only [Act.put, pu]
 refine pw_pick (by rfl) true (v := .bool true) rfl rfl rfl ?_
 simp only [Act.put, pu]
 refine pw_pick (by rfl) true (v := .bool true) rfl rfl rfl ?_
 simp only [Act.put, pu]
 refine pw_mv (by rfl) rfl rfl ?_
 simp only [Act.put, pu]
 refine pw_callB (by rfl) 5 _ _ rfl Try.func5 (by kernel_rfl) #[] rfl _ (awake18_any _) ?_
 intro z6022 k
 simp only [Act.put, pu]
 replace r3 := k.row r3 (by simp <;> omega)
 replace r5 := k.row r5 (by simp <;> omega)
 replace sb := sb.trans (k.below w.heap.size sb.size (by simp <;> omega))
 clear k
 refine pw_pick (by rfl) true (v := .bool true) rfl rfl rfl ?_
 simp only [Act.put, pu]
 refine pw_as (by rfl) rfl rfl ?_
 simp only [Act.put, pu]
 refine pw_nil ?_
 go_wp2
 go_ret
 exact ⟨rfl, sb⟩
set_option maxRecDepth 100000 in
set_option maxHeartbeats 2000000 in
theorem core2 (s : List UInt8) (d : RD) (w : World) (hs : s.length ≤ 2048) (h : tz s = some d) (hm : d.ys.length < 9223372036854775808) :
  Calls Try.prog 3 #[.string ⟨s.toArray⟩] w fun e w' => e = .returned (.bool true) ∧ Below w.heap.size w w' := by
 have hs4 : s.length < 4611686018427387904 := by omega
 have hs8 : s.length ≤ 8192 := by omega
 have HZ : Hid (tz s = some d) := h
 clear h
 go_enter Try.func3, Try.ntmps3
 (repeat ((fail_if_success with_reducible refine rg ?_); go_step))
 refine wp_region_pw ?_
 refine pw_value (by rfl) (.bool false) (fun _ => rfl) ?_
 simp only [Act.put, pu]
 refine pw_nil ?_
 have sb := Below.refl w.heap.size w
 (repeat ((fail_if_success with_reducible refine rg ?_); go_step))
 refine wp_region_pw ?_
 refine pw_mv (by rfl) rfl rfl ?_
 simp only [Act.put, pu]
 refine pw_value (by rfl) (.int .i64 (s.length : Nat)) (y_lenS _ _ rfl s rfl Try.underlying9) ?_
 simp only [Act.put, pu]
 refine pw_value (by rfl) (.bool false) (x_gt _ _ _ _ rfl (s.length : Nat) 2048 rfl rfl false (decide_eq_false (by omega))) ?_
 simp only [Act.put, pu]
 refine pw_nil ?_
 (repeat ((fail_if_success with_reducible refine rg ?_); go_step))
 refine wp_region_pw ?_
 refine pw_mv (by rfl) rfl rfl ?_
 simp only [Act.put, pu]
 refine pw_callE (by rfl) 6 _ _ rfl Try.func6 (by kernel_rfl) #[.string ⟨s.toArray⟩] rfl (wtk_yes s d _ hs4 HZ.out) ?_
 rintro _ z3001 ⟨a1, c1, a2, c2, rfl, hI, hb⟩
 refine ⟨_, rfl, ?_⟩
 simp only [Act.put, pu]
 have k := Kept.ofBelow hb
 clear hb
 replace sb := sb.trans (k.below w.heap.size sb.size (by simp <;> omega))
 clear k
 have cb := sbmk z3001
 refine pw_mv (by rfl) rfl rfl ?_
 simp only [Act.put, pu]
 refine pw_ext (by rfl) rfl rfl rfl ?_
 simp only [Act.put, pu]
 refine pw_ext (by rfl) rfl rfl rfl ?_
 simp only [Act.put, pu]
 refine pw_new (by rfl) 29 rfl _ zero_ms ?_
 intro g3 z3005 n0 r3 k
 simp only [Act.put, pu]
 (try have bhIx3 := Nat.le_trans hI.le n0)
 have bcbx3 := Nat.le_trans cb.size n0
 have b3 := Nat.le_trans sb.size n0
 clear n0
 replace hI := hI.on k (by simp <;> omega)
 replace cb := cb.trans (k.below _ cb.size (by simp <;> omega))
 replace sb := sb.trans (k.below w.heap.size sb.size (by simp <;> omega))
 clear k
 refine pw_put (by rfl) 29 _ _ rfl _ rfl r3 (msC (d.kd : Nat) (d.op : Nat) d.key (d.sq : Nat) (d.cl : Nat) d.dg a1 (nX d.X) c1 a2 d.ys.length c2) rfl (by exact size_ms) (by rfl) (ms_one _ _ _ _ _ _ _ _ _ _ _ _) ?_
 clear r3
 intro z3006 r3 k
 simp only [Act.put]
 replace hI := hI.on k (by simp <;> omega)
 replace cb := cb.trans (k.below _ cb.size (by simp <;> omega))
 replace sb := sb.trans (k.below w.heap.size sb.size (by simp <;> omega))
 clear k
 refine pw_as (by rfl) rfl rfl ?_
 simp only [Act.put, pu]
 refine pw_nil ?_
 (repeat ((fail_if_success with_reducible refine rg ?_); go_step))
 refine wp_region_pw ?_
 refine pw_mv (by rfl) rfl rfl ?_
 simp only [Act.put, pu]
 refine pw_callE (by rfl) 7 _ _ rfl Try.func7 (by kernel_rfl) #[.string ⟨s.toArray⟩] rfl (tk_yes hs8 HZ.out) ?_
 rintro _ z4001 ⟨b1, e1, b2, e2, rfl, hJ, hb⟩
 refine ⟨_, rfl, ?_⟩
 simp only [Act.put, pu]
 have k := Kept.ofBelow hb
 clear hb
 replace r3 := k.row r3 (by simp <;> omega)
 replace hI := hI.on k (by simp <;> omega)
 replace cb := cb.trans (k.below _ cb.size (by simp <;> omega))
 replace sb := sb.trans (k.below w.heap.size sb.size (by simp <;> omega))
 clear k
 have cd := sbmk z4001
 refine pw_mv (by rfl) rfl rfl ?_
 simp only [Act.put, pu]
 refine pw_ext (by rfl) rfl rfl rfl ?_
 simp only [Act.put, pu]
 refine pw_ext (by rfl) rfl rfl rfl ?_
 simp only [Act.put, pu]
 refine pw_new (by rfl) 29 rfl _ zero_ms ?_
 intro g5 z4005 n0 r5 k
 simp only [Act.put, pu]
 have d3x5 := Nat.lt_of_lt_of_le r3.lt n0
 (try have bhIx5 := Nat.le_trans hI.le n0)
 have bcbx5 := Nat.le_trans cb.size n0
 (try have bhJx5 := Nat.le_trans hJ.le n0)
 have bcdx5 := Nat.le_trans cd.size n0
 have b5 := Nat.le_trans sb.size n0
 clear n0
 replace r3 := k.row r3 (by simp <;> omega)
 replace hI := hI.on k (by simp <;> omega)
 replace cb := cb.trans (k.below _ cb.size (by simp <;> omega))
 replace hJ := hJ.on k (by simp <;> omega)
 replace cd := cd.trans (k.below _ cd.size (by simp <;> omega))
 replace sb := sb.trans (k.below w.heap.size sb.size (by simp <;> omega))
 clear k
 refine pw_put (by rfl) 29 _ _ rfl _ rfl r5 (msC (d.kd : Nat) (d.op : Nat) d.key (d.sq : Nat) (d.cl : Nat) d.dg b1 (nX d.X) e1 b2 d.ys.length e2) rfl (by exact size_ms) (by rfl) (ms_one _ _ _ _ _ _ _ _ _ _ _ _) ?_
 clear r5
 intro z4006 r5 k
 simp only [Act.put]
 replace r3 := k.row r3 (by simp <;> omega)
 replace hI := hI.on k (by simp <;> omega)
 replace cb := cb.trans (k.below _ cb.size (by simp <;> omega))
 replace hJ := hJ.on k (by simp <;> omega)
 replace cd := cd.trans (k.below _ cd.size (by simp <;> omega))
 replace sb := sb.trans (k.below w.heap.size sb.size (by simp <;> omega))
 clear k
 refine pw_as (by rfl) rfl rfl ?_
 simp only [Act.put, pu]
 refine pw_nil ?_
 (repeat ((fail_if_success with_reducible refine rg ?_); go_step))
 refine wp_region_pw ?_
 refine pw_loadm (by rfl) 29 _ rfl _ (0) rfl r3.r (msC (d.kd : Nat) (d.op : Nat) d.key (d.sq : Nat) (d.cl : Nat) d.dg a1 (nX d.X) c1 a2 d.ys.length c2) (part_all _) _ Try.underlying29 rfl size_ms ?_
 simp only [Act.put, pu]
 refine pw_callB (by rfl) 8 _ _ rfl Try.func8 (by kernel_rfl) #[.agg (msC (d.kd : Nat) (d.op : Nat) d.key (d.sq : Nat) (d.cl : Nat) d.dg a1 (nX d.X) c1 a2 d.ys.length c2)] rfl _ (put_yes HZ.out hI.self) ?_
 intro z5001 k
 simp only [Act.put, pu]
 replace r3 := k.row r3 (by simp <;> omega)
 replace r5 := k.row r5 (by simp <;> omega)
 replace hI := hI.on k (by simp <;> omega)
 replace hJ := hJ.on k (by simp <;> omega)
 replace sb := sb.trans (k.below w.heap.size sb.size (by simp <;> omega))
 clear k
 refine pw_mv (by rfl) rfl rfl ?_
 simp only [Act.put, pu]
 refine pw_ext (by rfl) rfl rfl rfl ?_
 simp only [Act.put, pu]
 refine pw_ext (by rfl) rfl rfl rfl ?_
 simp only [Act.put, pu]
 refine pw_as (by rfl) rfl rfl ?_
 simp only [Act.put, pu]
 refine pw_as (by rfl) rfl rfl ?_
 simp only [Act.put, pu]
 refine pw_nil ?_
 (repeat ((fail_if_success with_reducible refine rg ?_); go_step))
 refine wp_region_pw ?_
 refine pw_loadm (by rfl) 29 _ rfl _ (0) rfl r3.r (msC (d.kd : Nat) (d.op : Nat) d.key (d.sq : Nat) (d.cl : Nat) d.dg a1 (nX d.X) c1 a2 d.ys.length c2) (part_all _) _ Try.underlying29 rfl size_ms ?_
 simp only [Act.put, pu]
 refine pw_loadm (by rfl) 29 _ rfl _ (0) rfl r5.r (msC (d.kd : Nat) (d.op : Nat) d.key (d.sq : Nat) (d.cl : Nat) d.dg b1 (nX d.X) e1 b2 d.ys.length e2) (part_all _) _ Try.underlying29 rfl size_ms ?_
 simp only [Act.put, pu]
 refine pw_callB (by rfl) 9 _ _ rfl Try.func9 (by kernel_rfl) #[.agg (msC (d.kd : Nat) (d.op : Nat) d.key (d.sq : Nat) (d.cl : Nat) d.dg a1 (nX d.X) c1 a2 d.ys.length c2), .agg (msC (d.kd : Nat) (d.op : Nat) d.key (d.sq : Nat) (d.cl : Nat) d.dg b1 (nX d.X) e1 b2 d.ys.length e2)] rfl _ (dsame_any d a1 c1 a2 c2 b1 e1 b2 e2 _ hm hI.self hJ.self) ?_
 intro z6002 k
 simp only [Act.put, pu]
 replace r3 := k.row r3 (by simp <;> omega)
 replace r5 := k.row r5 (by simp <;> omega)
 replace hI := hI.on k (by simp <;> omega)
 replace hJ := hJ.on k (by simp <;> omega)
 replace sb := sb.trans (k.below w.heap.size sb.size (by simp <;> omega))
 clear k
 refine pw_mv (by rfl) rfl rfl ?_
 simp only [Act.put, pu]
 refine pw_mv (by rfl) rfl rfl ?_
 simp only [Act.put, pu]
 refine pw_mv (by rfl) rfl rfl ?_
 simp only [Act.put, pu]
 refine pw_value (by rfl) (.bool true) (x_eqI _ _ _ _ rfl .i64 0 0 rfl rfl true rfl) ?_
 simp only [Act.put, pu]
 refine pw_pick (by rfl) true (v := .bool true) rfl rfl rfl ?_
 simp only [Act.put, pu]
 refine pw_mv (by rfl) rfl rfl ?_
 simp only [Act.put, pu]
 refine pw_mv (by rfl) rfl rfl ?_
 simp only [Act.put, pu]
 refine pw_value (by rfl) (.bool false) (exec_neq_k .i64 _ _ _ _ rfl 0 0 rfl rfl false rfl) ?_
 simp only [Act.put, pu]
 refine pw_mv (by rfl) rfl rfl ?_
 simp only [Act.put, pu]
 refine pw_mv (by rfl) rfl rfl ?_
 simp only [Act.put, pu]
 refine pw_mv (by rfl) rfl rfl ?_
 simp only [Act.put, pu]
 refine pw_value (by rfl) (.bool true) (y_eqS _ _ _ _ rfl s s rfl rfl true (decide_eq_true rfl)) ?_
 simp only [Act.put, pu]
 refine pw_mv (by rfl) rfl rfl ?_
 simp only [Act.put, pu]
 refine pw_mv (by rfl) rfl rfl ?_
 simp only [Act.put, pu]
 refine pw_value (by rfl) (.bool true) (x_eqI _ _ _ _ rfl .i64 0 0 rfl rfl true rfl) ?_
 simp only [Act.put, pu]
 refine pw_pick (by rfl) true (v := .bool true) rfl rfl rfl ?_
 simp only [Act.put, pu]
 refine pw_pick (by rfl) false (v := .bool true) rfl rfl rfl ?_
 simp only [Act.put, pu]
 refine pw_pick (by rfl) true (v := .bool true) rfl rfl rfl ?_
 simp only [Act.put, pu]
 refine pw_mv (by rfl) rfl rfl ?_
 simp only [Act.put, pu]
 refine pw_callB (by rfl) 5 _ _ rfl Try.func5 (by kernel_rfl) #[] rfl _ (awake18_any _) ?_
 intro z6022 k
 simp only [Act.put, pu]
 replace r3 := k.row r3 (by simp <;> omega)
 replace r5 := k.row r5 (by simp <;> omega)
 replace hI := hI.on k (by simp <;> omega)
 replace hJ := hJ.on k (by simp <;> omega)
 replace sb := sb.trans (k.below w.heap.size sb.size (by simp <;> omega))
 clear k
 refine pw_pick (by rfl) true (v := .bool true) rfl rfl rfl ?_
 simp only [Act.put, pu]
 refine pw_as (by rfl) rfl rfl ?_
 simp only [Act.put, pu]
 refine pw_nil ?_
 go_wp2
 go_ret
 exact ⟨rfl, sb⟩
theorem walk (s : ByteArray) (w : World) (hs : s.size ≤ maxLen) :
  Calls Try.prog 3 #[.string s] w fun e w' => e = .returned (.bool true) ∧ Below w.heap.size w w' := by
 obtain ⟨⟨b⟩⟩ := s
 have hbl : b.length < 9223372036854775808 := by
  have h2 : (⟨⟨b⟩⟩ : ByteArray).size ≤ maxLen := hs
  have h3 : (⟨⟨b⟩⟩ : ByteArray).size = b.length := by simp [ByteArray.size]
  unfold maxLen at h2
  omega
 by_cases h : 2048 < b.length
 ·exact core0 b w h hbl
 ·cases hz : tz b with
  | none => exact core1 b w (by omega) hz
  | some d =>
   refine core2 b d w (by omega) hz ?_
   obtain ⟨_, h2, _⟩ := tz_is hz
   rcases (rz_is h2).2.ys with ⟨_, e⟩ | ⟨_, _, e, _⟩
   ·rw [e]; decide
   ·rw [e]
    have := bf_lt d.X 0
    omega
set_option maxRecDepth 100000 in
theorem lifted (os : Os) (started : os.Started) (H : Type) (enc : TypeId × Value → H) :
  ReturnsInHanded {} Try.checked os 3 .any (Rows.wireTakesSpec.pre6 enc Try.prog Try.f3 Rows.wireTakesRow.domain false) (Rows.wireTakesSpec.post enc Try.prog Try.f3 false true false false) := by
 refine returnsInHanded_of_change (C := Try.checked) own started (by kernel_rfl) Try.func3
  (ChangeSpec.witness6 (enc := enc) (C := Try.checked) false ⟨#[], #[.string ⟨#[]⟩], []⟩ 8 (by kernel_rfl) (by kernel_rfl) (by kernel_rfl) (by kernel_rfl)) ?_
 intro W base args ds gs before hval0 hW hcnd _
 have hval : ∀ (j : Nat) t v, Try.f3.params[j]? = some t → args[j]? = some v → Value.okWide Try.prog W .any base t v := hval0
 have hW' := hW
 obtain ⟨p, q, hA0, hV, rfl, hfz, hnd⟩ := hW
 have hA : DataW.TrodAll enc Try.prog W 0 (fun _ => true) true Try.f3.params.toList args.toList ds p := hA0
 rw [Try.params3] at hA hval
 obtain ⟨v0, vs0, d0, ds0, p0, q0, hargs, rfl, rfl, h0, r0⟩ := trodAll_cons hA
 obtain ⟨rfl, rfl, rfl⟩ := trodAll_nil r0
 obtain rfl : args = #[v0] := by cases args; simp_all
 obtain ⟨rfl, rfl⟩ := trodVars_none hV
 have k0 := h0
 have lt0 := lt_of_trod h0
 obtain ⟨s0, rfl, rfl, rfl, w0⟩ := open_string Try.underlying9 (hval 0 9 v0 rfl rfl) h0
 clear hA0 hval0
 refine (walk s0 W w0).mono fun e W' ⟨he, bel⟩ => ?_
 subst he
 exact ⟨_, rfl, _, _, _, [], _, [], hW', trodAll_mk1 (shut_bool Try.underlying4 _), (trodAll_cons_mk (Below.trod laidOut (by kernel_rfl) (of_decide_eq_true (by kernel_rfl)) k0 bel lt0) trodAll_mk0), rfl, bel.frame _, fun h => by cases h⟩
theorem over : Rows.wireTakesRow.holds Try.pinned (OpenSpec.ofChange Rows.wireTakesSpec) :=
 OpenClaim.holds_of_wide 3 Try.f3 rfl rfl rfl rfl rfl rfl rfl ⟨rfl, rfl, rfl, rfl, rfl⟩ rfl rfl rfl rfl rfl (by kernel_rfl) Try.func3 (by kernel_rfl)
  (of_decide_eq_true (by kernel_rfl)) (by unfold Func.isWrapper; first | (rw [if_pos (by decide +kernel)]; kernel_rfl) | (rw [if_neg (by decide +kernel)]; exact ⟨rfl, rfl⟩))
  (fun os started H enc _ => lifted os started H enc)
end Go.Proofs.Ytojobffihlmfgaa.wireTakesP
namespace Go.Proofs.Ytojobffihlmfgaa
/-- For any bytes, up to 2^11: the message that is taken of them is the document's, or they are none; no other bytes lead to it; no condition. -/
theorem wireTakes_holds : Rows.WireTakesSaid := wireTakesP.over
end Go.Proofs.Ytojobffihlmfgaa
