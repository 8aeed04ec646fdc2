/- ChunkTakes: for every number and every list of naturals: of up to 30 of them, in one of the three groups, the value that they tell, or that they are none's, is the document's; no condition. -/
import Derived.Test.YtdemabfpcepnfaaGreatDoorCD
import Derived.Test.YtdemabfpcepnfaaGreatDoorTpLaid
import Derived.Test.YtdemabfpcepnfaaGreatDoorCC
namespace Go.Proofs.YtdemabfpcepnfaaGreatDoor
open Go.ChangeShapes Go.WideShapes Go.ChangeAt Go.RowKit
open Go.ChangeMaps (open_string)
namespace chunkTakesP
set_option linter.unusedVariables false
theorem y_eqB {P : Program} {o : Oper} {ρ : Operand → Value} (t : TypeId) (x y : Operand) (u : TypeId) (ho : o.op = .binOp .eql t x y u) (n m : Bool) (hx : ρ x = .bool n) (hy : ρ y = .bool m) (hu : P.underlying t = some .bool) (b : Bool) (hb : (n == m) = b) (w : World) :
  (execOp ρ o).run P w = .ok (.value (.bool b)) w := by
 subst hb
 unfold execOp
 simp only [ho, hx, hy]
 cases n <;> cases m <;> simp [eqGuard, go_sem, hu]
set_option maxRecDepth 100000 in
set_option maxHeartbeats 2000000 in
theorem core0 (a0 : Int) (n ca : Nat) (ab : Option Addr) (w : World) (h : 30 < n) :
  Calls Tryz.prog 4 #[.int .i64 a0, .slice ab n ca] w fun e w' => e = .returned (.bool true) ∧ Below w.heap.size w w' := by
 have haw := awake11_any
 go_enter Tryz.func4, Tryz.ntmps4
 have sb := sbmk w
 (repeat ((fail_if_success with_reducible refine rg ?_); go_step))
 refine wp_region_pw ?_
 refine pw_value (by rfl) (.bool false) (fun _ => rfl) ?_
 simp only [Act.put, pu]
 refine pw_nil ?_
 (repeat ((fail_if_success with_reducible refine rg ?_); go_step))
 refine wp_region_pw ?_
 refine pw_mv (by rfl) rfl rfl ?_
 simp only [Act.put, pu]
 refine pw_value (by rfl) (.int .i64 n) (exec_len_s 34 _ rfl ab n ca rfl sl_natsX) ?_
 simp only [Act.put, pu]
 refine pw_value (by rfl) (.bool true) (exec_gt_i _ _ _ _ rfl n 30 rfl rfl true (decide_eq_true (by omega))) ?_
 simp only [Act.put, pu]
 refine pw_nil ?_
 (repeat ((fail_if_success with_reducible refine rg ?_); go_step))
 refine wp_region_pw ?_
 refine pw_callB (by rfl) 6 _ _ rfl Tryz.func6 (by kernel_rfl) #[] rfl _ (haw _) ?_
 intro z2000 k
 simp only [Act.put, pu]
 replace sb := sb.trans (k.below w.heap.size sb.size (by simp <;> omega))
 clear k
 refine pw_as (by rfl) rfl rfl ?_
 simp only [Act.put, pu]
 refine pw_nil ?_
 go_wp2
 go_ret
 exact ⟨rfl, sb⟩
set_option maxRecDepth 100000 in
set_option maxHeartbeats 2000000 in
theorem core1 (a0 : Int) (n ca N1 G3 GG PP QQ : Nat) (ab : Option Addr) (LK : Array Value) (V : List UInt8) (T : Bool) (E : Int) (w : World) (hn : ¬ 30 < n)
  (hpa : ∀ w', Calls Tryz.prog 7 #[.int .i64 a0] w' fun e w2 => ∃ g, e = .returned (.agg (paC (some ⟨g, 0, none⟩) N1 N1 G3)) ∧ w'.heap.size ≤ g ∧ Row w2 g LK 81 ∧ Below w'.heap.size w' w2)
  (hnw : ∀ w' x, Row w' x LK 81 → Calls Tryz.prog 8 #[.agg (paC (some ⟨x, 0, none⟩) N1 N1 G3)] w' fun e w2 => ∃ g gr gf, e = .returned (.tuple #[.pointer (some ⟨g, 0, none⟩), .int .i64 0]) ∧ GrpAt w2 g gr gf PP QQ GG ∧ Below w'.heap.size w' w2)
  (htk : ∀ w', Below w.heap.size w w' → ∀ g gr gf, GrpAt w' g gr gf PP QQ GG → Calls Tryz.prog 14 #[.pointer (some ⟨g, 0, none⟩), .slice ab n ca] w' fun e w2 => e = .returned (.tuple #[.string ⟨(V).toArray⟩, .bool T, .int .i64 E]) ∧ Below w'.heap.size w' w2)
  (hrt : ∀ w', Below w.heap.size w w' → ∀ x, Row w' x LK 81 → Calls Tryz.prog 15 #[.agg (paC (some ⟨x, 0, none⟩) N1 N1 G3), .slice ab n ca] w' fun e w2 => e = .returned (.tuple #[.string ⟨(V).toArray⟩, .bool T, .int .i64 E]) ∧ Below w'.heap.size w' w2) :
  Calls Tryz.prog 4 #[.int .i64 a0, .slice ab n ca] w fun e w' => e = .returned (.bool true) ∧ Below w.heap.size w w' := by
 have haw := awake11_any
 go_enter Tryz.func4, Tryz.ntmps4
 have sb := sbmk w
 (repeat ((fail_if_success with_reducible refine rg ?_); go_step))
 refine wp_region_pw ?_
 refine pw_value (by rfl) (.bool false) (fun _ => rfl) ?_
 simp only [Act.put, pu]
 refine pw_nil ?_
 (repeat ((fail_if_success with_reducible refine rg ?_); go_step))
 refine wp_region_pw ?_
 refine pw_mv (by rfl) rfl rfl ?_
 simp only [Act.put, pu]
 refine pw_value (by rfl) (.int .i64 n) (exec_len_s 34 _ rfl ab n ca rfl sl_natsX) ?_
 simp only [Act.put, pu]
 refine pw_value (by rfl) (.bool false) (exec_gt_i _ _ _ _ rfl n 30 rfl rfl false (decide_eq_false (by omega))) ?_
 simp only [Act.put, pu]
 refine pw_nil ?_
 (repeat ((fail_if_success with_reducible refine rg ?_); go_step))
 refine wp_region_pw ?_
 refine pw_mv (by rfl) rfl rfl ?_
 simp only [Act.put, pu]
 refine pw_callE (by rfl) 7 _ _ rfl Tryz.func7 (by kernel_rfl) #[.int .i64 a0] rfl (hpa _) ?_
 rintro _ z3001 ⟨gP, rfl, nP, rP, hb⟩
 refine ⟨_, rfl, ?_⟩
 simp only [Act.put, pu]
 have bP := Nat.le_trans sb.size nP
 clear nP
 have k := Kept.ofBelow hb
 clear hb
 replace sb := sb.trans (k.below w.heap.size sb.size (by simp <;> omega))
 clear k
 refine pw_new (by rfl) 28 rfl _ zero_pa ?_
 intro g5 z3002 n0 r5 k
 simp only [Act.put, pu]
 have dPx5 := Nat.lt_of_lt_of_le rP.lt n0
 have b5 := Nat.le_trans sb.size n0
 clear n0
 replace rP := k.row rP (by simp <;> omega)
 replace sb := sb.trans (k.below w.heap.size sb.size (by simp <;> omega))
 clear k
 refine pw_put (by rfl) 28 _ _ rfl _ rfl r5 (paC (some ⟨gP, 0, none⟩) N1 N1 G3) rfl (by exact size_pa) (by rfl) (pa_one _ _ _ _) ?_
 clear r5
 intro z3003 r5 k
 simp only [Act.put]
 replace rP := k.row rP (by simp <;> omega)
 replace sb := sb.trans (k.below w.heap.size sb.size (by simp <;> omega))
 clear k
 refine pw_nil ?_
 clear hpa
 (repeat ((fail_if_success with_reducible refine rg ?_); go_step))
 refine wp_region_pw ?_
 refine pw_loadm (by rfl) 28 _ rfl _ 0 rfl r5.r _ (part_all _) _ Tryz.underlying28 rfl size_pa ?_
 simp only [Act.put, pu]
 refine pw_callE (by rfl) 8 _ _ rfl Tryz.func8 (by kernel_rfl) #[.agg (paC (some ⟨gP, 0, none⟩) N1 N1 G3)] rfl (hnw _ gP rP) ?_
 rintro _ z4001 ⟨g, gr, gf, rfl, ⟨rG, rR, rF⟩, hb⟩
 refine ⟨_, rfl, ?_⟩
 simp only [Act.put, pu]
 have k := Kept.ofBelow hb
 clear hb
 replace r5 := k.row r5 (by simp <;> omega)
 replace rP := k.row rP (by simp <;> omega)
 replace sb := sb.trans (k.below w.heap.size sb.size (by simp <;> omega))
 clear k
 refine pw_mv (by rfl) rfl rfl ?_
 simp only [Act.put, pu]
 refine pw_ext (by rfl) rfl rfl rfl ?_
 simp only [Act.put, pu]
 refine pw_ext (by rfl) rfl rfl rfl ?_
 simp only [Act.put, pu]
 refine pw_as (by rfl) rfl rfl ?_
 simp only [Act.put, pu]
 refine pw_as (by rfl) rfl rfl ?_
 simp only [Act.put, pu]
 refine pw_nil ?_
 clear hnw
 (repeat ((fail_if_success with_reducible refine rg ?_); go_step))
 refine wp_region_pw ?_
 refine pw_mv (by rfl) rfl rfl ?_
 simp only [Act.put, pu]
 refine pw_mv (by rfl) rfl rfl ?_
 simp only [Act.put, pu]
 refine pw_callB (by rfl) 14 _ _ rfl Tryz.func14 (by kernel_rfl) #[.pointer (some ⟨g, 0, none⟩), .slice ab n ca] rfl _ (htk _ sb g gr gf ⟨rG, rR, rF⟩) ?_
 intro z5002 k
 simp only [Act.put, pu]
 replace r5 := k.row r5 (by simp <;> omega)
 replace rP := k.row rP (by simp <;> omega)
 replace rG := k.row rG (by simp <;> omega)
 replace rR := k.row rR (by simp <;> omega)
 replace rF := k.row rF (by simp <;> omega)
 replace sb := sb.trans (k.below w.heap.size sb.size (by simp <;> omega))
 clear k
 refine pw_mv (by rfl) rfl rfl ?_
 simp only [Act.put, pu]
 refine pw_ext (by rfl) rfl rfl rfl ?_
 simp only [Act.put, pu]
 refine pw_ext (by rfl) rfl rfl rfl ?_
 simp only [Act.put, pu]
 refine pw_ext (by rfl) rfl rfl rfl ?_
 simp only [Act.put, pu]
 refine pw_as (by rfl) rfl rfl ?_
 simp only [Act.put, pu]
 refine pw_as (by rfl) rfl rfl ?_
 simp only [Act.put, pu]
 refine pw_as (by rfl) rfl rfl ?_
 simp only [Act.put, pu]
 refine pw_nil ?_
 clear htk rG rR rF
 (repeat ((fail_if_success with_reducible refine rg ?_); go_step))
 refine wp_region_pw ?_
 refine pw_loadm (by rfl) 28 _ rfl _ 0 rfl r5.r _ (part_all _) _ Tryz.underlying28 rfl size_pa ?_
 simp only [Act.put, pu]
 refine pw_mv (by rfl) rfl rfl ?_
 simp only [Act.put, pu]
 refine pw_callB (by rfl) 15 _ _ rfl Tryz.func15 (by kernel_rfl) #[.agg (paC (some ⟨gP, 0, none⟩) N1 N1 G3), .slice ab n ca] rfl _ (hrt _ sb gP rP) ?_
 intro z6002 k
 simp only [Act.put, pu]
 replace r5 := k.row r5 (by simp <;> omega)
 replace rP := k.row rP (by simp <;> omega)
 replace sb := sb.trans (k.below w.heap.size sb.size (by simp <;> omega))
 clear k
 refine pw_mv (by rfl) rfl rfl ?_
 simp only [Act.put, pu]
 refine pw_ext (by rfl) rfl rfl rfl ?_
 simp only [Act.put, pu]
 refine pw_ext (by rfl) rfl rfl rfl ?_
 simp only [Act.put, pu]
 refine pw_ext (by rfl) rfl rfl rfl ?_
 simp only [Act.put, pu]
 refine pw_as (by rfl) rfl rfl ?_
 simp only [Act.put, pu]
 refine pw_as (by rfl) rfl rfl ?_
 simp only [Act.put, pu]
 refine pw_as (by rfl) rfl rfl ?_
 simp only [Act.put, pu]
 refine pw_nil ?_
 clear hrt r5 rP
 (repeat ((fail_if_success with_reducible refine rg ?_); go_step))
 refine wp_region_pw ?_
 refine pw_mv (by rfl) rfl rfl ?_
 simp only [Act.put, pu]
 refine pw_value (by rfl) (.bool true) (exec_eql_k .i64 _ _ _ _ rfl 0 0 rfl rfl true rfl) ?_
 simp only [Act.put, pu]
 refine pw_mv (by rfl) rfl rfl ?_
 simp only [Act.put, pu]
 refine pw_mv (by rfl) rfl rfl ?_
 simp only [Act.put, pu]
 refine pw_mv (by rfl) rfl rfl ?_
 simp only [Act.put, pu]
 refine pw_value (by rfl) (.bool true) (y_eqS _ _ _ _ rfl V V rfl rfl true (decide_eq_true rfl)) ?_
 simp only [Act.put, pu]
 refine pw_pick (by rfl) true (v := .bool true) rfl rfl rfl ?_
 simp only [Act.put, pu]
 refine pw_mv (by rfl) rfl rfl ?_
 simp only [Act.put, pu]
 refine pw_mv (by rfl) rfl rfl ?_
 simp only [Act.put, pu]
 refine pw_mv (by rfl) rfl rfl ?_
 simp only [Act.put, pu]
 refine pw_value (by rfl) (.bool true) (y_eqB _ _ _ _ rfl T T rfl rfl Tryz.underlying4 true (by cases T <;> rfl)) ?_
 simp only [Act.put, pu]
 refine pw_pick (by rfl) true (v := .bool true) rfl rfl rfl ?_
 simp only [Act.put, pu]
 refine pw_mv (by rfl) rfl rfl ?_
 simp only [Act.put, pu]
 refine pw_mv (by rfl) rfl rfl ?_
 simp only [Act.put, pu]
 refine pw_mv (by rfl) rfl rfl ?_
 simp only [Act.put, pu]
 refine pw_value (by rfl) (.bool true) (exec_eql_k .i64 _ _ _ _ rfl E E rfl rfl true (decide_eq_true rfl)) ?_
 simp only [Act.put, pu]
 refine pw_pick (by rfl) true (v := .bool true) rfl rfl rfl ?_
 simp only [Act.put, pu]
 refine pw_mv (by rfl) rfl rfl ?_
 simp only [Act.put, pu]
 refine pw_callB (by rfl) 6 _ _ rfl Tryz.func6 (by kernel_rfl) #[] rfl _ (haw _) ?_
 intro z7018 k
 simp only [Act.put, pu]
 replace sb := sb.trans (k.below w.heap.size sb.size (by simp <;> omega))
 clear k
 refine pw_pick (by rfl) true (v := .bool true) rfl rfl rfl ?_
 simp only [Act.put, pu]
 refine pw_as (by rfl) rfl rfl ?_
 simp only [Act.put, pu]
 refine pw_nil ?_
 go_wp2
 go_ret
 exact ⟨rfl, sb⟩
theorem walk (a0 : Int) (n ca : Nat) (ab : Option Addr) (f : Nat → Nat) (gb ob : Nat) (bcs : Array Value) (tb : TypeId) (w : World) (hna : NatsAt w ab n f gb ob bcs tb) :
  Calls Tryz.prog 4 #[.int .i64 a0, .slice ab n ca] w fun e w' => e = .returned (.bool true) ∧ Below w.heap.size w w' := by
 by_cases hn : 30 < n
 ·exact core0 a0 n ca ab w hn
 obtain ⟨his, hlt, hG3, h2, hn9, hlk⟩ := pk_gr (ly8 a0 % 3)
 obtain ⟨hsz, hz, hz2, hzQ⟩ := pk_size (ly8 a0 % 3)
 have hpa := params_any a0
 rw [hlk] at hpa
 have hnw : ∀ w' x, Row w' x (lksC (pk (ly8 a0 % 3) 3 3 5) (lN (pk (ly8 a0 % 3) leL otL grL)) twoA) 81 → _ := fun w' x r => gnew_yes _ (pk (ly8 a0 % 3) 3 3 5) (some ⟨x, 0, none⟩) (pk (ly8 a0 % 3) leG otG grG) _ _ x 0 _ _ w' hn9 hG3 (lks_links r hlt) his
 have hsr : ∀ w' x, Row w' x (lksC (pk (ly8 a0 % 3) 3 3 5) (lN (pk (ly8 a0 % 3) leL otL grL)) twoA) 81 → _ := fun w' x r => rSize_any (pk (ly8 a0 % 3) 3 3 5) (pk (ly8 a0 % 3) 3 3 5) (some ⟨x, 0, none⟩) (pk (ly8 a0 % 3) leG otG grG) _ _ x 0 _ _ w' h2 hn9 (lks_links r hlt)
 have hQ := hlt (pk (ly8 a0 % 3) 3 3 5 - 2) (by omega)
 rw [hsz] at hsr
 clear hlk his hlt
 generalize lN (pk (ly8 a0 % 3) leL otL grL) (pk (ly8 a0 % 3) 3 3 5 - 1) = PP at *
 generalize lN (pk (ly8 a0 % 3) leL otL grL) (pk (ly8 a0 % 3) 3 3 5 - 2) = QQ at *
 generalize lksC (pk (ly8 a0 % 3) 3 3 5) (lN (pk (ly8 a0 % 3) leL otL grL)) twoA = LK at *
 generalize pk (ly8 a0 % 3) 3 3 14 = z at *
 generalize pk (ly8 a0 % 3) 3 3 5 = N1 at *
 generalize pk (ly8 a0 % 3) leG otG grG = G3 at *
 exact core1 a0 n ca N1 G3 G3 PP QQ ab LK (tkV z n f) (tkT z n f) (tkE z n f) w hn hpa hnw
  (fun w' hb g gr gf h => ckTake_any (some ⟨g, 0, none⟩) z n ca ab f gb ob bcs tb w' hz hz2 (h.szz hQ hsz) (hna.below hb))
  (fun w' hb x r => rtk_any (some ⟨x, 0, none⟩) N1 N1 G3 z n ca ab f gb ob bcs tb w' hz hz2 (by omega) (fun w2 h2 => hsr w2 x (r.belowAll h2)) (hna.below hb))
set_option maxRecDepth 100000 in
theorem lifted (os : Os) (started : os.Started) (H : Type) (enc : TypeId × Value → H) :
  ReturnsInHanded {} Tryz.checked os 4 .any (fun w args => (Rows.chunkTakesSpec.pre enc Tryz.prog Tryz.f4 [] false w args ∧ laidMetH Tryz.prog lk w) ∧ sizedMet enc Tryz.prog Tryz.f4 (OpenSpec.ofChange Rows.chunkTakesSpec) false w args)
   (Rows.chunkTakesSpec.post enc Tryz.prog Tryz.f4 false true false false) := by
 refine returnsInHanded_of_change_and (C := Tryz.checked) (X := fun w _ => laidMetH Tryz.prog lk w) (fun _ _ _ hh h => h.of_heap hh) own started (by kernel_rfl) Tryz.func4
  (ChangeSpec.witness_shaped (enc := enc) (C := Tryz.checked) (os := os) (X := fun w _ => laidMetH Tryz.prog lk w) false (World.laidAll Tryz.prog os lk) #[.int .i64 0, .slice none 0 0] 8 (World.laidAll_os _ _ _) (lk_shaped os _) (by kernel_rfl) (by kernel_rfl) (by kernel_rfl) (lk_met os _)) ?_
 intro W base args ds gs before hval0 hW _ _ hL _
 have hval : ∀ (j : Nat) t v, Tryz.f4.params[j]? = some t → args[j]? = some v → Value.okWide Tryz.prog W .any base t v := hval0
 have hW' := hW
 obtain ⟨p, q, hA0, hV, rfl, hfz, hnd⟩ := hW
 have hA : DataW.TrodAll enc Tryz.prog W 0 (fun _ => true) true Tryz.f4.params.toList args.toList ds p := hA0
 rw [Tryz.params4] at hA hval
 obtain ⟨v0, vs0, d0, ds0, p0, q0, hargs, rfl, rfl, h0, r0⟩ := trodAll_cons hA
 obtain ⟨v1, vs1, d1, ds1, p1, q1, rfl, rfl, rfl, h1, r1⟩ := trodAll_cons r0
 obtain ⟨rfl, rfl, rfl⟩ := trodAll_nil r1
 obtain rfl : args = #[v0, v1] := by cases args; simp_all
 obtain ⟨rfl, rfl⟩ := trodVars_none hV
 have k0 := h0
 have lt0 := lt_of_trod h0
 obtain ⟨a0, rfl, rfl, rfl, w0⟩ := open_int Tryz.underlying3 (hval 0 3 v0 rfl rfl) h0
 have k1 := h1
 have lt1 := lt_of_trod h1
 obtain ⟨ab1, m1, c1, e1, gb1, ob1, bcs1, tb1, rfl, la1, lb1, hq1⟩ := open_nats (hval 1 34 v1 rfl rfl) h1
 clear hA0 hval0
 refine (walk a0 m1 c1 ab1 e1 gb1 ob1 bcs1 tb1 W hq1).mono fun e W' ⟨he, bel⟩ => ?_
 subst he
 exact ⟨_, rfl, _, _, _, [], _, [], hW', trodAll_mk1 (shut_bool Tryz.underlying4 _), (trodAll_cons_mk (Below.trod laidOut (by kernel_rfl) (of_decide_eq_true (by kernel_rfl)) k0 bel lt0) (trodAll_cons_mk (Below.trod laidOut (by kernel_rfl) (of_decide_eq_true (by kernel_rfl)) k1 bel lt1) trodAll_mk0)), rfl, bel.frame _, fun h => by cases h⟩
theorem over : Rows.chunkTakesRow.holds Tryz.pinned (OpenSpec.ofChange Rows.chunkTakesSpec) :=
 OpenClaim.holds_of_wide 4 Tryz.f4 rfl rfl rfl rfl rfl rfl rfl ⟨rfl, rfl, rfl, rfl, rfl⟩ rfl rfl rfl rfl rfl (by kernel_rfl) Tryz.func4 (by kernel_rfl)
  (of_decide_eq_true (by kernel_rfl)) (by unfold Func.isWrapper; first | (rw [if_pos (by decide +kernel)]; kernel_rfl) | (rw [if_neg (by decide +kernel)]; exact ⟨rfl, rfl⟩))
  (fun os started H enc _ => lifted os started H enc)
theorem card : Claim7.holds Tryz.pinned (.plain (OpenSpec.ofChange Rows.chunkTakesSpec)) Rows.chunkTakesCard :=
 Claim7.holds_tied_plain_at .later [] [.data, .pinned] true (true, "fb71ec877aa5d0a01abb10ab77a2e721b5dff07206276bf18777fa8edd522a24") false
  over (fun _ h => by cases h) (by kernel_rfl) (fun _ h => by cases h) chunkTakes_row_tie rfl ⟨rfl, rfl⟩ (by kernel_rfl) rfl
  (fun f fn hf hfn => by
   obtain rfl : f = 4 := Option.some.inj ((show Tryz.prog.funcNamed "sacristy/sacristylaw11.ChunkTakes" = some 4 by kernel_rfl).symm.trans hf) |>.symm
   obtain rfl : fn = Tryz.f4 := (Option.some.inj (Tryz.func4.symm.trans hfn)).symm
   exact ⟨by kernel_rfl, fun j t ht => by
    rw [Tryz.params4] at ht
    have hm : t ∈ [3, 34] := by simpa using Array.mem_of_getElem? ht
    have hall : ([3, 34].all fun u => !Tryz.prog.wantsStandIn u) = true := by kernel_rfl
    exact (show Tryz.prog.wantsStandIn t = false by simpa using List.all_eq_true.1 hall t hm)⟩)
  (by kernel_rfl)
end chunkTakesP
/-- for every number and every list of naturals: of up to 30 of them, in one of the three groups, the value that they tell, or that they are none's, is the document's; no condition. -/
theorem chunkTakes_holds : Rows.ChunkTakesCardSaid := chunkTakesP.card
end Go.Proofs.YtdemabfpcepnfaaGreatDoor
