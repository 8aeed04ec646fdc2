/- ShareDeals: for every number, list of naturals and number: in a small group, of a list up to 8, the shares of a polynomial are the document's, or an error, where there are not 1 to 7 servers; no condition. -/
import Derived.Test.YtfhgdgnhcmakhaaGreatSrAwake
import Derived.Test.YtfhgdgnhcmakhaaGreatSrRef
import Derived.Test.YtfhgdgnhcmakhaaGreatGU
set_option maxRecDepth 100000
set_option maxHeartbeats 2000000
namespace Go.Proofs.YtfhgdgnhcmakhaaGreat
open Go.ChangeShapes Go.WideShapes Go.ChangeAt Go.RowKit
namespace shareDealsP
set_option linter.unusedVariables false
set_option linter.unusedSectionVars false
theorem core0 (a0 a2 : Int) (m c : Nat) (ab : Option Addr) (w : World) (h : 8 < m) :
  Calls Tryz.prog 3 #[.int .i64 a0, .slice ab m c, .int .i64 a2] w fun e w' => e = .returned (.bool true) ∧ Below w.heap.size w w' := by
 have haw := awake13_any
 go_enter Tryz.func3, Tryz.ntmps3
 have sb := sbmk w
 repeat ((fail_if_success with_reducible apply rg); go_step)
 refine rp ?_
 refine pw_value (by rfl) (.bool false) (fun _ => rfl) ?_
 simp only [pv]
 refine pw_nil ?_
 repeat ((fail_if_success with_reducible apply rg); go_step)
 refine rp ?_
 refine pw_mv (by rfl) rfl rfl ?_
 simp only [pv]
 refine pw_value (by rfl) (.int .i64 m) (exec_len_s 22 _ rfl (ab) (m) (c) rfl sl_natsX) ?_
 simp only [pv]
 refine pw_value (by rfl) (.bool true) (exec_gt_i _ _ _ _ rfl m 8 rfl rfl true (decide_eq_true (by omega))) ?_
 simp only [pv]
 refine pw_nil ?_
 repeat ((fail_if_success with_reducible apply rg); go_step)
 refine rp ?_
 refine pw_callB (by rfl) 5 _ _ rfl Tryz.func5 (by kernel_rfl) #[] rfl _ (haw _) ?_
 intro z2000 k
 simp only [pv]
 replace sb := kk sb k
 clear k
 refine pw_as (by rfl) rfl rfl ?_
 simp only [pv]
 refine pw_nil ?_
 go_wp2
 go_ret
 exact ⟨rfl, sb⟩
theorem core1 (a0 a2 : Int) (PP QQ GG m c : Nat) [NeZero QQ] (ab : Option Addr) (w : World) (hm : m ≤ 8) (hn : a2 < 1 ∨ 7 < a2)
  (hsm : ∀ w', Calls Tryz.prog 6 #[.int .i64 a0] w' fun e w2 => ∃ g gr gf, e = .returned (.tuple #[.pointer (some ⟨g, 0, none⟩), .int .i64 (QQ : Nat), .bool true]) ∧ GrpAt w2 g gr gf PP QQ GG ∧ Below w'.heap.size w' w2) :
  Calls Tryz.prog 3 #[.int .i64 a0, .slice ab m c, .int .i64 a2] w fun e w' => e = .returned (.bool true) ∧ Below w.heap.size w w' := by
 have haw := awake13_any
 have hde := fun w' g gr gf (hg : GrpAt w' g gr gf PP QQ GG) => deal_no (.slice ab m c) a2 hn hg
 go_enter Tryz.func3, Tryz.ntmps3
 have sb := sbmk w
 repeat ((fail_if_success with_reducible apply rg); go_step)
 refine rp ?_
 refine pw_value (by rfl) (.bool false) (fun _ => rfl) ?_
 simp only [pv]
 refine pw_nil ?_
 repeat ((fail_if_success with_reducible apply rg); go_step)
 refine rp ?_
 refine pw_mv (by rfl) rfl rfl ?_
 simp only [pv]
 refine pw_value (by rfl) (.int .i64 m) (exec_len_s 22 _ rfl (ab) (m) (c) rfl sl_natsX) ?_
 simp only [pv]
 refine pw_value (by rfl) (.bool false) (exec_gt_i _ _ _ _ rfl m 8 rfl rfl false (decide_eq_false (by omega))) ?_
 simp only [pv]
 refine pw_nil ?_
 repeat ((fail_if_success with_reducible apply rg); go_step)
 refine rp ?_
 refine pw_mv (by rfl) rfl rfl ?_
 simp only [pv]
 refine pw_callE (by rfl) 6 _ _ rfl Tryz.func6 (by kernel_rfl) #[.int .i64 a0] rfl (hsm _) ?_
 rintro _ z3001 ⟨g, gr, gf, rfl, hg, hb⟩
 refine ⟨_, rfl, ?_⟩
 simp only [pv]
 have k := Kept.ofBelow hb
 clear hb
 replace sb := kk sb k
 clear k
 refine pw_mv (by rfl) rfl rfl ?_
 refine pw_ext (by rfl) rfl rfl rfl ?_
 refine pw_ext (by rfl) rfl rfl rfl ?_
 refine pw_ext (by rfl) rfl rfl rfl ?_
 refine pw_as (by rfl) rfl rfl ?_
 simp only [pv]
 refine pw_as (by rfl) rfl rfl ?_
 refine pw_as (by rfl) rfl rfl ?_
 simp only [pv]
 refine pw_nil ?_
 clear hsm
 repeat ((fail_if_success with_reducible apply rg); go_step)
 refine rp ?_
 refine pw_mv (by rfl) rfl rfl ?_
 refine pw_mv (by rfl) rfl rfl ?_
 refine pw_mv (by rfl) rfl rfl ?_
 simp only [pv]
 refine pw_callB (by rfl) 7 _ _ rfl Tryz.func7 (by kernel_rfl) #[.pointer (some ⟨g, 0, none⟩), .slice ab m c, .int .i64 a2] rfl _ (hde _ g gr gf hg) ?_
 intro z4003 k
 simp only [pv]
 replace hg := hg.below k.nil
 replace sb := kk sb k
 clear k
 refine pw_mv (by rfl) rfl rfl ?_
 refine pw_ext (by rfl) rfl rfl rfl ?_
 refine pw_ext (by rfl) rfl rfl rfl ?_
 refine pw_as (by rfl) rfl rfl ?_
 refine pw_as (by rfl) rfl rfl ?_
 simp only [pv]
 refine pw_nil ?_
 clear hg hde
 by_cases h1 : a2 < 1
 ·repeat ((fail_if_success with_reducible apply rg); go_step)
  refine rp ?_
  refine pw_mv (by rfl) rfl rfl ?_
  simp only [pv]
  refine pw_value (by rfl) (.bool true) (exec_lt_b _ _ _ _ rfl a2 1 rfl rfl true (decide_eq_true h1)) ?_
  refine pw_mv (by rfl) rfl rfl ?_
  simp only [pv]
  refine pw_skip (by rfl) ?_
  simp only [pv]
  refine pw_skip (by rfl) ?_
  simp only [pv]
  refine pw_pick (by rfl) true (v := .bool true) rfl rfl rfl ?_
  simp only [pv]
  refine pw_nil ?_
  repeat ((fail_if_success with_reducible apply rg); go_step)
  refine rp ?_
  refine pw_mv (by rfl) rfl rfl ?_
  refine pw_mv (by rfl) rfl rfl ?_
  refine pw_mv (by rfl) rfl rfl ?_
  simp only [pv]
  refine pw_value (by rfl) (.int .i64 0) (exec_len_s 27 _ rfl none 0 0 rfl sl_shs) ?_
  simp only [pv]
  refine pw_value (by rfl) (.bool true) (exec_eql_k .i64 _ _ _ _ rfl 0 0 rfl rfl true rfl) ?_
  simp only [pv]
  refine pw_pick (by rfl) true (v := .bool true) rfl rfl rfl ?_
  refine pw_mv (by rfl) rfl rfl ?_
  refine pw_mv (by rfl) rfl rfl ?_
  simp only [pv]
  refine pw_value (by rfl) (.bool true) (exec_eql_k .i64 _ _ _ _ rfl 1 1 rfl rfl true rfl) ?_
  simp only [pv]
  refine pw_pick (by rfl) true (v := .bool true) rfl rfl rfl ?_
  refine pw_mv (by rfl) rfl rfl ?_
  simp only [pv]
  refine pw_callB (by rfl) 5 _ _ rfl Tryz.func5 (by kernel_rfl) #[] rfl _ (haw _) ?_
  intro z6011 k
  simp only [pv]
  replace sb := kk sb k
  clear k
  refine pw_pick (by rfl) true (v := .bool true) rfl rfl rfl ?_
  refine pw_as (by rfl) rfl rfl ?_
  simp only [pv]
  refine pw_nil ?_
  go_wp2
  go_ret
  exact ⟨rfl, sb⟩
 ·have h2 : 7 < a2 := hn.resolve_left h1
  repeat ((fail_if_success with_reducible apply rg); go_step)
  refine rp ?_
  refine pw_mv (by rfl) rfl rfl ?_
  simp only [pv]
  refine pw_value (by rfl) (.bool false) (exec_lt_b _ _ _ _ rfl a2 1 rfl rfl false (decide_eq_false h1)) ?_
  refine pw_mv (by rfl) rfl rfl ?_
  refine pw_mv (by rfl) rfl rfl ?_
  simp only [pv]
  refine pw_value (by rfl) (.bool true) (exec_gt_i _ _ _ _ rfl a2 7 rfl rfl true (decide_eq_true h2)) ?_
  simp only [pv]
  refine pw_pick (by rfl) false (v := .bool true) rfl rfl rfl ?_
  simp only [pv]
  refine pw_nil ?_
  repeat ((fail_if_success with_reducible apply rg); go_step)
  refine rp ?_
  refine pw_mv (by rfl) rfl rfl ?_
  refine pw_mv (by rfl) rfl rfl ?_
  refine pw_mv (by rfl) rfl rfl ?_
  simp only [pv]
  refine pw_value (by rfl) (.int .i64 0) (exec_len_s 27 _ rfl none 0 0 rfl sl_shs) ?_
  simp only [pv]
  refine pw_value (by rfl) (.bool true) (exec_eql_k .i64 _ _ _ _ rfl 0 0 rfl rfl true rfl) ?_
  simp only [pv]
  refine pw_pick (by rfl) true (v := .bool true) rfl rfl rfl ?_
  refine pw_mv (by rfl) rfl rfl ?_
  refine pw_mv (by rfl) rfl rfl ?_
  simp only [pv]
  refine pw_value (by rfl) (.bool true) (exec_eql_k .i64 _ _ _ _ rfl 1 1 rfl rfl true rfl) ?_
  simp only [pv]
  refine pw_pick (by rfl) true (v := .bool true) rfl rfl rfl ?_
  refine pw_mv (by rfl) rfl rfl ?_
  simp only [pv]
  refine pw_callB (by rfl) 5 _ _ rfl Tryz.func5 (by kernel_rfl) #[] rfl _ (haw _) ?_
  intro z6011 k
  simp only [pv]
  replace sb := kk sb k
  clear k
  refine pw_pick (by rfl) true (v := .bool true) rfl rfl rfl ?_
  refine pw_as (by rfl) rfl rfl ?_
  simp only [pv]
  refine pw_nil ?_
  go_wp2
  go_ret
  exact ⟨rfl, sb⟩
theorem core2 (a0 : Int) (n PP QQ GG m c : Nat) [NeZero QQ] (ab : Option Addr) (La : List (Fin QQ)) (w : World) (hm : m ≤ 8) (h1 : 1 ≤ n) (h7 : n ≤ 7) (la : La.length = m) (q : FdQ QQ) (hq : QQ < 4611686018427387904)
  (hal : ∀ w', Below w.heap.size w w' → Calls Tryz.prog 10 #[.slice ab m c, .int .i64 (QQ : Nat)] w' fun e w2 => ∃ v', e = .returned v' ∧ IlAt w2 v' La ∧ Below w'.heap.size w' w2)
  (hpa : ∀ w', Below w.heap.size w w' → PlA w' (.slice ab m c) La)
  (hsm : ∀ w', Calls Tryz.prog 6 #[.int .i64 a0] w' fun e w2 => ∃ g gr gf, e = .returned (.tuple #[.pointer (some ⟨g, 0, none⟩), .int .i64 (QQ : Nat), .bool true]) ∧ GrpAt w2 g gr gf PP QQ GG ∧ Below w'.heap.size w' w2) :
  Calls Tryz.prog 3 #[.int .i64 a0, .slice ab m c, .int .i64 n] w fun e w' => e = .returned (.bool true) ∧ Below w.heap.size w w' := by
 have haw := awake13_any
 have hde := fun w' g gr gf (hb : Below w.heap.size w w') (hg : GrpAt w' g gr gf PP QQ GG) => deal_any (.slice ab m c) La n h1 h7 q hg (hpa w' hb)
 have hrd := fun w' v (h : IlAt w' v La) => rdealS v La n w' h7 (by omega) q hq h
 obtain ⟨YY, hYY⟩ : ∃ YY : Nat → Nat, ∀ k, YY k = (pev (fi (k + 1)) La).val := ⟨_, fun _ => rfl⟩
 simp only [← hYY] at hde hrd
 have hsa := fun w' g1 a2 c2 g2 cur (r1 : Row w' g1 (esC 5 n (fun k => shC ((k + 1 : Nat) : Int) (YY k))) 43) (r2 : ElsAt 5 w' a2 n (fun k => shC ((k + 1 : Nat) : Int) (YY k)) g2 0 cur 43) => rsameS n n c2 (some ⟨g1, 0, none⟩) a2 (fun k => ((k + 1 : Nat) : Int)) YY g1 0 g2 0 _ cur _ _ w' (by omega) (els_row (fun _ => rfl) r1) r2
 clear hpa hYY
 go_enter Tryz.func3, Tryz.ntmps3
 have sb := sbmk w
 repeat ((fail_if_success with_reducible apply rg); go_step)
 refine rp ?_
 refine pw_value (by rfl) (.bool false) (fun _ => rfl) ?_
 simp only [pv]
 refine pw_nil ?_
 repeat ((fail_if_success with_reducible apply rg); go_step)
 refine rp ?_
 refine pw_mv (by rfl) rfl rfl ?_
 simp only [pv]
 refine pw_value (by rfl) (.int .i64 m) (exec_len_s 22 _ rfl (ab) (m) (c) rfl sl_natsX) ?_
 simp only [pv]
 refine pw_value (by rfl) (.bool false) (exec_gt_i _ _ _ _ rfl m 8 rfl rfl false (decide_eq_false (by omega))) ?_
 simp only [pv]
 refine pw_nil ?_
 repeat ((fail_if_success with_reducible apply rg); go_step)
 refine rp ?_
 refine pw_mv (by rfl) rfl rfl ?_
 simp only [pv]
 refine pw_callE (by rfl) 6 _ _ rfl Tryz.func6 (by kernel_rfl) #[.int .i64 a0] rfl (hsm _) ?_
 rintro _ z3001 ⟨g, gr, gf, rfl, hg, hb⟩
 refine ⟨_, rfl, ?_⟩
 simp only [pv]
 have k := Kept.ofBelow hb
 clear hb
 replace sb := kk sb k
 clear k
 refine pw_mv (by rfl) rfl rfl ?_
 refine pw_ext (by rfl) rfl rfl rfl ?_
 refine pw_ext (by rfl) rfl rfl rfl ?_
 refine pw_ext (by rfl) rfl rfl rfl ?_
 refine pw_as (by rfl) rfl rfl ?_
 simp only [pv]
 refine pw_as (by rfl) rfl rfl ?_
 refine pw_as (by rfl) rfl rfl ?_
 simp only [pv]
 refine pw_nil ?_
 clear hsm
 repeat ((fail_if_success with_reducible apply rg); go_step)
 refine rp ?_
 refine pw_mv (by rfl) rfl rfl ?_
 refine pw_mv (by rfl) rfl rfl ?_
 refine pw_mv (by rfl) rfl rfl ?_
 simp only [pv]
 refine pw_callE (by rfl) 7 _ _ rfl Tryz.func7 (by kernel_rfl) #[.pointer (some ⟨g, 0, none⟩), .slice ab m c, .int .i64 n] rfl (hde _ g gr gf sb hg) ?_
 rintro _ z4003 ⟨gL, rfl, nL, rL, hb⟩
 refine ⟨_, rfl, ?_⟩
 simp only [pv]
 have bL := Nat.le_trans sb.size nL
 clear nL
 have k := Kept.ofBelow hb
 clear hb
 replace hg := hg.below k.nil
 replace sb := kk sb k
 clear k
 refine pw_mv (by rfl) rfl rfl ?_
 refine pw_ext (by rfl) rfl rfl rfl ?_
 refine pw_ext (by rfl) rfl rfl rfl ?_
 refine pw_as (by rfl) rfl rfl ?_
 refine pw_as (by rfl) rfl rfl ?_
 simp only [pv]
 refine pw_nil ?_
 clear hg hde
 repeat ((fail_if_success with_reducible apply rg); go_step)
 refine rp ?_
 refine pw_mv (by rfl) rfl rfl ?_
 simp only [pv]
 refine pw_value (by rfl) (.bool false) (exec_lt_b _ _ _ _ rfl n 1 rfl rfl false (decide_eq_false (by omega))) ?_
 refine pw_mv (by rfl) rfl rfl ?_
 refine pw_mv (by rfl) rfl rfl ?_
 simp only [pv]
 refine pw_value (by rfl) (.bool false) (exec_gt_i _ _ _ _ rfl n 7 rfl rfl false (decide_eq_false (by omega))) ?_
 simp only [pv]
 refine pw_pick (by rfl) false (v := .bool false) rfl rfl rfl ?_
 simp only [pv]
 refine pw_nil ?_
 repeat ((fail_if_success with_reducible apply rg); go_step)
 refine rp ?_
 refine pw_mv (by rfl) rfl rfl ?_
 refine pw_mv (by rfl) rfl rfl ?_
 refine pw_mv (by rfl) rfl rfl ?_
 simp only [pv]
 refine pw_value (by rfl) (.bool true) (exec_eql_k .i64 _ _ _ _ rfl 0 0 rfl rfl true rfl) ?_
 simp only [pv]
 refine pw_pick (by rfl) true (v := .bool true) rfl rfl rfl ?_
 refine pw_mv (by rfl) rfl rfl ?_
 refine pw_mv (by rfl) rfl rfl ?_
 refine pw_mv (by rfl) rfl rfl ?_
 refine pw_mv (by rfl) rfl rfl ?_
 simp only [pv]
 refine pw_callE (by rfl) 10 _ _ rfl Tryz.func10 (by kernel_rfl) #[.slice ab m c, .int .i64 (QQ : Nat)] rfl (hal _ sb) ?_
 rintro _ z7009 ⟨vs, rfl, hs, hb⟩
 refine ⟨_, rfl, ?_⟩
 simp only [pv]
 have k := Kept.ofBelow hb
 clear hb
 replace rL := k.ro rL
 replace sb := kk sb k
 clear k
 refine pw_mv (by rfl) rfl rfl ?_
 refine pw_mv (by rfl) rfl rfl ?_
 simp only [pv]
 refine pw_callE (by rfl) 9 _ _ rfl Tryz.func9 (by kernel_rfl) #[vs, .int .i64 n, .int .i64 (QQ : Nat)] rfl (hrd _ vs hs) ?_
 rintro _ z7012 ⟨ap, cp, gp, cur, rfl, hp, hb⟩
 refine ⟨_, rfl, ?_⟩
 simp only [pv]
 have k := Kept.ofBelow hb
 clear hb
 replace rL := k.ro rL
 replace hs := hs.below k.nil
 replace sb := kk sb k
 clear k
 refine pw_callB (by rfl) 8 _ _ rfl Tryz.func8 (by kernel_rfl) #[.slice (some ⟨gL, 0, none⟩) n n, .slice ap n cp] rfl _ (hsa _ gL ap cp gp cur rL hp) ?_
 intro z7013 k
 simp only [pv]
 replace rL := k.ro rL
 replace hs := hs.below k.nil
 replace hp := hp.below k.nil
 replace sb := kk sb k
 clear k
 refine pw_pick (by rfl) true (v := .bool true) rfl rfl rfl ?_
 refine pw_mv (by rfl) rfl rfl ?_
 simp only [pv]
 refine pw_callB (by rfl) 5 _ _ rfl Tryz.func5 (by kernel_rfl) #[] rfl _ (haw _) ?_
 intro z7016 k
 simp only [pv]
 replace rL := k.ro rL
 replace hs := hs.below k.nil
 replace hp := hp.below k.nil
 replace sb := kk sb k
 clear k
 refine pw_pick (by rfl) true (v := .bool true) rfl rfl rfl ?_
 refine pw_as (by rfl) rfl rfl ?_
 simp only [pv]
 refine pw_nil ?_
 go_wp2
 go_ret
 exact ⟨rfl, sb⟩
theorem walk (a0 : Int) (ab : Option Addr) (m c : Nat) (F : Nat → Nat) (gb ob : Nat) (bcs : Array Value) (tb : TypeId) (a2 : Int) (w : World) (_ : -9223372036854775808 ≤ a0 ∧ a0 ≤ 9223372036854775807) (hna : NatsAt w ab m F gb ob bcs tb) (_ : -9223372036854775808 ≤ a2 ∧ a2 ≤ 9223372036854775807) :
  Calls Tryz.prog 3 #[.int .i64 a0, .slice ab m c, .int .i64 a2] w fun e w' => e = .returned (.bool true) ∧ Below w.heap.size w w' := by
 by_cases h : 8 < m
 ·exact core0 a0 a2 m c ab w h
 have q := (sm_fd a0).1
 have hq := (sm_fd a0).2
 haveI : NeZero (smQ a0) := ⟨by have := q.pos; omega⟩
 have hs := sml13_any a0
 generalize smP a0 = PP at *
 generalize smG a0 = GG at *
 generalize smQ a0 = QQ at *
 by_cases hn : a2 < 1 ∨ 7 < a2
 ·exact core1 a0 a2 PP QQ GG m c ab w (by omega) hn hs
 ·obtain ⟨n, rfl⟩ : ∃ n : Nat, a2 = n := ⟨a2.toNat, by omega⟩
  exact core2 a0 n PP QQ GG m c ab (fl m F) w (by omega) (by omega) (by omega) (fl_length _ _) q hq (fun w' hb => rallL ab m c F gb ob bcs tb w' (by omega) q hq (hna.below hb)) (fun w' hb => (hna.below hb).pl (by omega)) hs
theorem lifted (os : Os) (started : os.Started) (H : Type) (enc : TypeId × Value → H) :
  ReturnsInHanded {} Tryz.checked os 3 .any (Rows.shareDealsSpec.pre6 enc Tryz.prog Tryz.f3 Rows.shareDealsRow.domain false) (Rows.shareDealsSpec.post enc Tryz.prog Tryz.f3 false true false false) := by
 refine returnsInHanded_of_change (C := Tryz.checked) own started (by kernel_rfl) Tryz.func3
  (ChangeSpec.witness6 (enc := enc) (C := Tryz.checked) false ⟨#[], #[.int .i64 0, .slice none 0 0, .int .i64 0], []⟩ 8 (by kernel_rfl) (by kernel_rfl) (by kernel_rfl) (by kernel_rfl)) ?_
 intro W base args ds gs before hval0 hW hcnd _
 have hval : ∀ (j : Nat) t v, Tryz.f3.params[j]? = some t → args[j]? = some v → Value.okWide Tryz.prog W .any base t v := hval0
 have hW' := hW
 obtain ⟨p, q, hA0, hV, rfl, hfz, hnd⟩ := hW
 have hA : DataW.TrodAll enc Tryz.prog W 0 (fun _ => true) true Tryz.f3.params.toList args.toList ds p := hA0
 rw [Tryz.params3] at hA hval
 obtain ⟨v0, vs0, d0, ds0, p0, q0, hargs, rfl, rfl, h0, r0⟩ := trodAll_cons hA
 obtain ⟨v1, vs1, d1, ds1, p1, q1, rfl, rfl, rfl, h1, r1⟩ := trodAll_cons r0
 obtain ⟨v2, vs2, d2, ds2, p2, q2, rfl, rfl, rfl, h2, r2⟩ := trodAll_cons r1
 obtain ⟨rfl, rfl, rfl⟩ := trodAll_nil r2
 obtain rfl : args = #[v0, v1, v2] := by cases args; simp_all
 obtain ⟨rfl, rfl⟩ := trodVars_none hV
 have k0 := h0
 have lt0 := lt_of_trod h0
 obtain ⟨a0, rfl, rfl, rfl, w0⟩ := open_int Tryz.underlying3 (hval 0 3 v0 rfl rfl) h0
 have k1 := h1
 have lt1 := lt_of_trod h1
 obtain ⟨ab1, n1, c1, F1, gb1, ob1, bcs1, tb1, rfl, _, _, hn1⟩ := open_nats (hval 1 22 v1 rfl rfl) h1
 have k2 := h2
 have lt2 := lt_of_trod h2
 obtain ⟨a2, rfl, rfl, rfl, w2⟩ := open_int Tryz.underlying3 (hval 2 3 v2 rfl rfl) h2
 clear hA0 hval0
 refine (walk a0 ab1 n1 c1 F1 gb1 ob1 bcs1 tb1 a2 W (bounds_i64 w0) hn1 (bounds_i64 w2)).mono fun e W' ⟨he, bel⟩ => ?_
 subst he
 exact ⟨_, rfl, _, _, _, [], _, [], hW', trodAll_mk1 (shut_bool Tryz.underlying4 _), (trodAll_cons_mk (Below.trod laidOut (by kernel_rfl) (of_decide_eq_true (by kernel_rfl)) k0 bel lt0) (trodAll_cons_mk (Below.trod laidOut (by kernel_rfl) (of_decide_eq_true (by kernel_rfl)) k1 bel lt1) (trodAll_cons_mk (Below.trod laidOut (by kernel_rfl) (of_decide_eq_true (by kernel_rfl)) k2 bel lt2) trodAll_mk0))), rfl, bel.frame _, fun h => by cases h⟩
theorem over : Rows.shareDealsRow.holds Tryz.pinned (OpenSpec.ofChange Rows.shareDealsSpec) :=
 OpenClaim.holds_of_wide 3 Tryz.f3 rfl rfl rfl rfl rfl rfl rfl ⟨rfl, rfl, rfl, rfl, rfl⟩ rfl rfl rfl rfl rfl (by kernel_rfl) Tryz.func3 (by kernel_rfl)
  (of_decide_eq_true (by kernel_rfl)) (by unfold Func.isWrapper; first | (rw [if_pos (by decide +kernel)]; kernel_rfl) | (rw [if_neg (by decide +kernel)]; exact ⟨rfl, rfl⟩))
  (fun os started H enc _ => lifted os started H enc)
end shareDealsP
/-- for every number, list of naturals and number: in a small group, of a list up to 8, the shares of a polynomial are the document's, or an error, where there are not 1 to 7 servers; no condition. -/
theorem shareDeals_holds : Rows.ShareDealsSaid := shareDealsP.over
end Go.Proofs.YtfhgdgnhcmakhaaGreat
