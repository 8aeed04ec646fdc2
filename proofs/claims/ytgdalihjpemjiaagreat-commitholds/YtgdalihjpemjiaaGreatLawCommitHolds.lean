/- CommitHolds: for every number, list of naturals and share: in a small group, of a list of at most 9, whether the share holds is as the document says; no condition. -/
import Derived.Test.YtgdalihjpemjiaaGreatCO
import Derived.Test.YtgdalihjpemjiaaGreatCR
import Derived.Test.YtgdalihjpemjiaaGreatGU
import Derived.Test.YtgdalihjpemjiaaGreatSrOpen
set_option maxRecDepth 100000
set_option maxHeartbeats 2000000
namespace Go.Proofs.YtgdalihjpemjiaaGreat
open Go.ChangeShapes Go.WideShapes Go.ChangeAt Go.RowKit
namespace commitHoldsP
set_option linter.unusedVariables false
theorem und_bool : Tryz.prog.underlying 4 = some .bool := by kernel_rfl
theorem core0 (a0 z : Int) (n c N : Nat) (ab : Option Addr) (w : World) (h : 9 < n) :
  Calls Tryz.prog 4 #[.int .i64 a0, .slice ab n c, .agg (shC z N)] w fun e w' => e = .returned (.bool true) ∧ Below w.heap.size w w' := by
 have haw := awake14_any
 go_enter Tryz.func4, Tryz.ntmps4
 iterate 2 go_step
 refine rp ?_
 refine pw_boxr (by rfl) 48 _ rfl (shC z N) rfl ?_
 intro g5 z0 n0 r5 k
 simp only [pv]
 clear n0
 have sb := k_b k
 clear k
 refine p_v (.bool false) (fun _ => rfl) ?_
 simp only [pv]
 refine pw_nil ?_
 iterate 4 go_step
 refine rp ?_
 refine p_m ?_
 simp only [pv]
 refine p_v (.int .i64 n) (exec_len_s 22 _ rfl (ab) (n) (c) rfl sl_natsX) ?_
 simp only [pv]
 refine p_v (.bool true) (exec_gt_i _ _ _ _ rfl n 9 rfl rfl true (decide_eq_true (by omega))) ?_
 simp only [pv]
 refine pw_nil ?_
 iterate 4 go_step
 refine rp ?_
 refine pw_callB (by rfl) 9 _ _ rfl Tryz.func9 (by kernel_rfl) #[] rfl _ (haw _) ?_
 intro z2000 k
 simp only [pv]
 replace sb := kk sb k
 clear k
 refine p_a ?_
 simp only [pv]
 refine pw_nil ?_
 go_wp2
 go_ret
 exact ⟨rfl, sb⟩
theorem core1 (a0 z : Int) (PP QQ GG n c N : Nat) (ab : Option Addr) (B : Bool) (w : World) (hn : n ≤ 9)
  (hsm : ∀ w', Calls Tryz.prog 10 #[.int .i64 a0] w' fun e w2 => ∃ g gr gf, e = .returned (.tuple #[.pointer (some ⟨g, 0, none⟩), .agg (smC (PP : Nat) (QQ : Nat) (GG : Nat)), .bool true]) ∧ GrpAt w2 g gr gf PP QQ GG ∧ Below w'.heap.size w' w2)
  (hho : ∀ g gr gf w', Below w.heap.size w w' → GrpAt w' g gr gf PP QQ GG → Calls Tryz.prog 21 #[.pointer (some ⟨g, 0, none⟩), .slice ab n c, .agg (shC z N)] w' fun e w2 => e = .returned (.bool B) ∧ Below w'.heap.size w' w2)
  (hrh : ∀ w', Below w.heap.size w w' → Calls Tryz.prog 22 #[.agg (smC (PP : Nat) (QQ : Nat) (GG : Nat)), .slice ab n c, .agg (shC z N)] w' fun e w2 => e = .returned (.bool B) ∧ Below w'.heap.size w' w2) :
  Calls Tryz.prog 4 #[.int .i64 a0, .slice ab n c, .agg (shC z N)] w fun e w' => e = .returned (.bool true) ∧ Below w.heap.size w w' := by
 have haw := awake14_any
 go_enter Tryz.func4, Tryz.ntmps4
 iterate 2 go_step
 refine rp ?_
 refine pw_boxr (by rfl) 48 _ rfl (shC z N) rfl ?_
 intro g5 z0 n0 r5 k
 simp only [pv]
 clear n0
 have sb := k_b k
 clear k
 refine p_v (.bool false) (fun _ => rfl) ?_
 simp only [pv]
 refine pw_nil ?_
 iterate 4 go_step
 refine rp ?_
 refine p_m ?_
 simp only [pv]
 refine p_v (.int .i64 n) (exec_len_s 22 _ rfl (ab) (n) (c) rfl sl_natsX) ?_
 simp only [pv]
 refine p_v (.bool false) (exec_gt_i _ _ _ _ rfl n 9 rfl rfl false (decide_eq_false (by omega))) ?_
 simp only [pv]
 refine pw_nil ?_
 iterate 7 go_step
 refine rp ?_
 refine p_m ?_
 simp only [pv]
 refine pw_callE (by rfl) 10 _ _ rfl Tryz.func10 (by kernel_rfl) #[.int .i64 a0] rfl (hsm _) ?_
 rintro _ z3001 ⟨g, gr, gf, rfl, ⟨rG, rR, rF⟩, hb⟩
 refine ⟨_, rfl, ?_⟩
 simp only [pv]
 have k := Kept.ofBelow hb
 clear hb
 replace r5 := k.ro r5
 replace sb := kk sb k
 clear k
 refine p_m ?_
 refine p_e ?_
 refine p_e ?_
 refine p_e ?_
 simp only [pv]
 refine pw_new (by rfl) 27 rfl _ zero_sm ?_
 intro g8 z3006 n0 r8 k
 simp only [pv]
 have d5x8 := l_l r5.lt n0
 have dGx8 := l_l rG.lt n0
 have dRx8 := l_l rR.lt n0
 have dFx8 := l_l rF.lt n0
 have b8 := Nat.le_trans sb.size n0
 clear n0
 replace r5 := k.ro r5
 replace rG := k.ro rG
 replace rR := k.ro rR
 replace rF := k.ro rF
 replace sb := kk sb k
 clear k
 refine p_a ?_
 simp only [pv]
 refine pw_put (by rfl) 27 _ _ rfl _ rfl r8 (smC (PP : Nat) (QQ : Nat) (GG : Nat)) rfl (by exact size_sm) (by rfl) (sm_one _ _ _) ?_
 clear r8
 intro z3008 r8 k
 simp only [Act.put]
 replace r5 := k.ro r5
 replace rG := k.ro rG
 replace rR := k.ro rR
 replace rF := k.ro rF
 replace sb := kk sb k
 clear k
 refine p_a ?_
 simp only [pv]
 refine pw_nil ?_
 clear hsm
 iterate 3 go_step
 refine wp_region_qw (by kernel_rfl) (by kernel_rfl) ?_
 refine q_m ?_
 refine q_m ?_
 refine q_m ?_
 refine q_m ?_
 simp only [pv]
 refine qw_loadm (by rfl) 48 _ rfl _ (0) rfl r5 (shC z N) (part_all _) _ Tryz.underlying48 rfl size_sh ?_
 simp only [pv]
 refine qw_callK (by rfl) 21 _ _ rfl Tryz.func21 (by kernel_rfl) #[.pointer (some ⟨g, 0, none⟩), .slice ab n c, .agg (shC z N)] rfl _ (fun w' hb => hho g gr gf w' (below_on sb (Nat.le_refl _) hb) ⟨rG.belowAll hb, rR.belowAll hb, rF.belowAll hb⟩) ?_
 simp only [pv]
 refine qw_loadm (by rfl) 27 _ rfl _ (0) rfl r8 (smC (PP : Nat) (QQ : Nat) (GG : Nat)) (part_all _) _ Tryz.underlying27 rfl size_sm ?_
 refine q_m ?_
 simp only [pv]
 refine qw_loadm (by rfl) 48 _ rfl _ (0) rfl r5 (shC z N) (part_all _) _ Tryz.underlying48 rfl size_sh ?_
 simp only [pv]
 refine qw_callK (by rfl) 22 _ _ rfl Tryz.func22 (by kernel_rfl) #[.agg (smC (PP : Nat) (QQ : Nat) (GG : Nat)), .slice ab n c, .agg (shC z N)] rfl _ (fun w' hb => hrh w' (below_on sb (Nat.le_refl _) hb)) ?_
 simp only [pv]
 refine q_v (.bool true) (exec_eql_bool _ _ _ _ rfl B rfl rfl und_bool) ?_
 simp only [pv]
 refine qw_pick true (v := .bool true) (by rfl) rfl rfl rfl ?_
 refine q_m ?_
 simp only [pv]
 refine qw_call (by rfl) 9 _ _ rfl Tryz.func9 (by kernel_rfl) #[] rfl _ haw ?_
 simp only [pv]
 refine qw_pick true (v := .bool true) (by rfl) rfl rfl rfl ?_
 refine q_a ?_
 simp only [pv]
 refine qw_nil ?_
 intro w9 hqb
 replace sb := b_o sb hqb
 clear hqb
 go_wp2
 go_ret
 exact ⟨rfl, sb⟩
theorem walk (a0 : Int) (ab : Option Addr) (n c : Nat) (F : Nat → Nat) (gb ob : Nat) (bcs : Array Value) (tb : TypeId) (z : Int) (N : Nat) (w : World) (_ : -9223372036854775808 ≤ a0 ∧ a0 ≤ 9223372036854775807) (hna : NatsAt w ab n F gb ob bcs tb) (hN : N < 2 ^ 256) (_ : -9223372036854775808 ≤ z ∧ z < 9223372036854775808) :
  Calls Tryz.prog 4 #[.int .i64 a0, .slice ab n c, .agg (shC z N)] w fun e w' => e = .returned (.bool true) ∧ Below w.heap.size w w' := by
 by_cases h : 9 < n
 ·exact core0 a0 z n c N ab w h
 obtain ⟨f, hp, hq⟩ := smF a0
 haveI : NeZero (smQ a0) := ⟨by have := f.big; omega⟩
 exact core1 a0 z (smP a0) (smQ a0) (smG a0) n c N ab (cHol (smP a0) (smQ a0) (smG a0) F n z N) w (by omega) (sml14_any a0) (fun g gr gf w' hb hg => chol_any f hg (hna.below hb) z N hN) (fun w' hb => rhol14_any ab n c (smP a0) (smQ a0) (smG a0) F gb ob bcs tb z N w' hN (by omega) f.rP.two hp (by have := f.big; omega) hq (hna.below hb))
theorem lifted (os : Os) (started : os.Started) (H : Type) (enc : TypeId × Value → H) :
  ReturnsInHanded {} Tryz.checked os 4 .any (Rows.commitHoldsSpec.pre6 enc Tryz.prog Tryz.f4 Rows.commitHoldsRow.domain false) (Rows.commitHoldsSpec.post enc Tryz.prog Tryz.f4 false true false false) := by
 refine returnsInHanded_of_change (C := Tryz.checked) own started (by kernel_rfl) Tryz.func4
  (ChangeSpec.witness6 (enc := enc) (C := Tryz.checked) false ⟨#[], #[.int .i64 0, .slice none 0 0, .agg #[.int .i64 0, .int .u64 0, .int .u64 0, .int .u64 0, .int .u64 0]], []⟩ 8 (by kernel_rfl) (by kernel_rfl) (by kernel_rfl) (by kernel_rfl)) ?_
 intro W base args ds gs before hval0 hW hcnd _
 have hval : ∀ (j : Nat) t v, Tryz.f4.params[j]? = some t → args[j]? = some v → Value.okWide Tryz.prog W .any base t v := hval0
 have hW' := hW
 obtain ⟨p, q, hA0, hV, rfl, hfz, hnd⟩ := hW
 have hA : DataW.TrodAll enc Tryz.prog W 0 (fun _ => true) true Tryz.f4.params.toList args.toList ds p := hA0
 rw [Tryz.params4] at hA hval
 obtain ⟨v0, vs0, d0, ds0, p0, q0, hargs, rfl, rfl, h0, r0⟩ := trodAll_cons hA
 obtain ⟨v1, vs1, d1, ds1, p1, q1, rfl, rfl, rfl, h1, r1⟩ := trodAll_cons r0
 obtain ⟨v2, vs2, d2, ds2, p2, q2, rfl, rfl, rfl, h2, r2⟩ := trodAll_cons r1
 obtain ⟨rfl, rfl, rfl⟩ := trodAll_nil r2
 obtain rfl : args = #[v0, v1, v2] := by cases args; simp_all
 obtain ⟨rfl, rfl⟩ := trodVars_none hV
 have k0 := h0
 have lt0 := lt_of_trod h0
 obtain ⟨a0, rfl, rfl, rfl, w0⟩ := open_int Tryz.underlying3 (hval 0 3 v0 rfl rfl) h0
 have k1 := h1
 have lt1 := lt_of_trod h1
 obtain ⟨ab1, n1, c1, F1, gb1, ob1, bcs1, tb1, rfl, _, _, hn1⟩ := open_nats (hval 1 22 v1 rfl rfl) h1
 have k2 := h2
 have lt2 := lt_of_trod h2
 obtain ⟨z2, N2, rfl, hN2, hz2⟩ := open_sh (hval 2 48 v2 rfl rfl) h2
 clear hA0 hval0
 refine (walk a0 ab1 n1 c1 F1 gb1 ob1 bcs1 tb1 z2 N2 W (bounds_i64 w0) hn1 hN2 hz2).mono fun e W' ⟨he, bel⟩ => ?_
 subst he
 exact ⟨_, rfl, _, _, _, [], _, [], hW', trodAll_mk1 (shut_bool Tryz.underlying4 _), (trodAll_cons_mk (Below.trod laidOut (by kernel_rfl) (of_decide_eq_true (by kernel_rfl)) k0 bel lt0) (trodAll_cons_mk (Below.trod laidOut (by kernel_rfl) (of_decide_eq_true (by kernel_rfl)) k1 bel lt1) (trodAll_cons_mk (Below.trod laidOut (by kernel_rfl) (of_decide_eq_true (by kernel_rfl)) k2 bel lt2) trodAll_mk0))), rfl, bel.frame _, fun h => by cases h⟩
theorem over : Rows.commitHoldsRow.holds Tryz.pinned (OpenSpec.ofChange Rows.commitHoldsSpec) :=
 OpenClaim.holds_of_wide 4 Tryz.f4 rfl rfl rfl rfl rfl rfl rfl ⟨rfl, rfl, rfl, rfl, rfl⟩ rfl rfl rfl rfl rfl (by kernel_rfl) Tryz.func4 (by kernel_rfl)
  (of_decide_eq_true (by kernel_rfl)) (by unfold Func.isWrapper; first | (rw [if_pos (by decide +kernel)]; kernel_rfl) | (rw [if_neg (by decide +kernel)]; exact ⟨rfl, rfl⟩))
  (fun os started H enc _ => lifted os started H enc)
end commitHoldsP
/-- for every number, list of naturals and share: in a small group, of a list of at most 9, whether the share holds is as the document says; no condition. -/
theorem commitHolds_holds : Rows.CommitHoldsSaid := commitHoldsP.over
end Go.Proofs.YtgdalihjpemjiaaGreat
