/- PolyDivs: for every number and two lists of naturals: in a small group, of lists up to 8, how often the second polynomial goes into the first, and what is left: times, and what is left, it is the first by the document's sums and products, and less is left than goes; an error where the second is 0; no condition. -/
import Derived.Test.YthnpeebnmommbaaGreatPZ
import Derived.Test.YthnpeebnmommbaaGreatGU
namespace Go.Proofs.YthnpeebnmommbaaGreat
open Go.ChangeShapes Go.WideShapes Go.ChangeAt Go.RowKit
namespace polyDivsP
set_option linter.unusedVariables false
set_option maxRecDepth 100000 in
set_option maxHeartbeats 2000000 in
theorem core0 (a0 : Int) (n c m ce : Nat) (ab ae : Option Addr) (w : World) (h : 8 < n ∨ 8 < m) :
  Calls Tryz.prog 4 #[.int .i64 a0, .slice ab n c, .slice ae m ce] w fun e w' => e = .returned (.bool true) ∧ Below w.heap.size w w' := by
 have haw := awake12_any
 go_enter Tryz.func4, Tryz.ntmps4
 have sb := sbmk w
 (repeat ((fail_if_success with_reducible refine rg ?_); go_step))
 refine wp_region_pw ?_
 refine pw_value (by rfl) (.bool false) (fun _ => rfl) ?_
 simp only [Act.put, pu]
 refine pw_nil ?_
 by_cases h1 : 8 < n
 ·(repeat ((fail_if_success with_reducible refine rg ?_); go_step))
  refine wp_region_pw ?_
  refine pw_mv (by rfl) rfl rfl ?_
  simp only [Act.put, pu]
  refine pw_value (by rfl) (.int .i64 n) (exec_len_s 22 _ rfl (ab) (n) (c) rfl sl_natsX) ?_
  simp only [Act.put, pu]
  refine pw_value (by rfl) (.bool true) (exec_gt_i _ _ _ _ rfl n 8 rfl rfl true (decide_eq_true (by omega))) ?_
  simp only [Act.put, pu]
  refine pw_mv (by rfl) rfl rfl ?_
  simp only [Act.put, pu]
  refine pw_skip (by rfl) ?_
  simp only [Act.put, pu]
  refine pw_skip (by rfl) ?_
  simp only [Act.put, pu]
  refine pw_skip (by rfl) ?_
  simp only [Act.put, pu]
  refine pw_pick (by rfl) true (v := .bool true) rfl rfl rfl ?_
  simp only [Act.put, pu]
  refine pw_nil ?_
  (repeat ((fail_if_success with_reducible refine rg ?_); go_step))
  refine wp_region_pw ?_
  refine pw_callB (by rfl) 6 _ _ rfl Tryz.func6 (by kernel_rfl) #[] rfl _ (haw _) ?_
  intro z2000 k
  simp only [Act.put, pu]
  replace sb := sb.trans (k.below w.heap.size sb.size (by simp <;> omega))
  clear k
  refine pw_as (by rfl) rfl rfl ?_
  simp only [Act.put, pu]
  refine pw_nil ?_
  go_wp2
  go_ret
  exact ⟨rfl, sb⟩
 ·(repeat ((fail_if_success with_reducible refine rg ?_); go_step))
  refine wp_region_pw ?_
  refine pw_mv (by rfl) rfl rfl ?_
  simp only [Act.put, pu]
  refine pw_value (by rfl) (.int .i64 n) (exec_len_s 22 _ rfl (ab) (n) (c) rfl sl_natsX) ?_
  simp only [Act.put, pu]
  refine pw_value (by rfl) (.bool false) (exec_gt_i _ _ _ _ rfl n 8 rfl rfl false (decide_eq_false (by omega))) ?_
  simp only [Act.put, pu]
  refine pw_mv (by rfl) rfl rfl ?_
  simp only [Act.put, pu]
  refine pw_mv (by rfl) rfl rfl ?_
  simp only [Act.put, pu]
  refine pw_value (by rfl) (.int .i64 m) (exec_len_s 22 _ rfl (ae) (m) (ce) rfl sl_natsX) ?_
  simp only [Act.put, pu]
  refine pw_value (by rfl) (.bool true) (exec_gt_i _ _ _ _ rfl m 8 rfl rfl true (decide_eq_true (by omega))) ?_
  simp only [Act.put, pu]
  refine pw_pick (by rfl) false (v := .bool true) rfl rfl rfl ?_
  simp only [Act.put, pu]
  refine pw_nil ?_
  (repeat ((fail_if_success with_reducible refine rg ?_); go_step))
  refine wp_region_pw ?_
  refine pw_callB (by rfl) 6 _ _ rfl Tryz.func6 (by kernel_rfl) #[] rfl _ (haw _) ?_
  intro z2000 k
  simp only [Act.put, pu]
  replace sb := sb.trans (k.below w.heap.size sb.size (by simp <;> omega))
  clear k
  refine pw_as (by rfl) rfl rfl ?_
  simp only [Act.put, pu]
  refine pw_nil ?_
  go_wp2
  go_ret
  exact ⟨rfl, sb⟩
set_option maxRecDepth 100000 in
set_option maxHeartbeats 2000000 in
theorem core1 (a0 : Int) (PP QQ GG n c m ce : Nat) [NeZero QQ] (ab ae : Option Addr) (F E : Nat → Nat) (gb ob ge oe : Nat) (bcs ecs : Array Value) (tb te : TypeId) (w : World) (hn : n ≤ 8) (hm : m ≤ 8) (q : FdQ QQ) (hq : QQ < 4611686018427387904) (hna : NatsAt w ab n F gb ob bcs tb) (hnb : NatsAt w ae m E ge oe ecs te) (hT : (ptrim (fl m E : List (Fin QQ))).length = 0)
  (hsm : ∀ w', Calls Tryz.prog 7 #[.int .i64 a0] w' fun e w2 => ∃ g gr gf, e = .returned (.tuple #[.pointer (some ⟨g, 0, none⟩), .int .i64 (QQ : Nat), .bool true]) ∧ GrpAt w2 g gr gf PP QQ GG ∧ Below w'.heap.size w' w2) :
  Calls Tryz.prog 4 #[.int .i64 a0, .slice ab n c, .slice ae m ce] w fun e w' => e = .returned (.bool true) ∧ Below w.heap.size w w' := by
 have haw := awake12_any
 have la : ((fl n F : List (Fin QQ))).length = n := fl_length _ _
 have lb : ((fl m E : List (Fin QQ))).length = m := fl_length _ _
 have lta := ptrim_le (fl n F : List (Fin QQ))
 have ltb := ptrim_le (fl m E : List (Fin QQ))
 rw [la] at lta
 rw [lb] at ltb
 have hal := fun w' (hb : Below w.heap.size w w') => rallL (Q := QQ) ab n c F gb ob bcs tb w' (by omega) q hq (hna.below hb)
 have hbl := fun w' (hb : Below w.heap.size w w') => rallL (Q := QQ) ae m ce E ge oe ecs te w' (by omega) q hq (hnb.below hb)
 have rta := fun w' (v : Value) (h : IlAt w' v (fl n F : List (Fin QQ))) => rtrimL v (fl n F : List (Fin QQ)) w' (by omega) h
 have rtb := fun w' (v : Value) (h : IlAt w' v (fl m E : List (Fin QQ))) => rtrimL v (fl m E : List (Fin QQ)) w' (by omega) h
 have hdv := fun g gr gf w' (hb : Below w.heap.size w w') (hg : GrpAt w' g gr gf PP QQ GG) => div_noneQ (.slice ab n c) (.slice ae m ce) (fl n F : List (Fin QQ)) (fl m E : List (Fin QQ)) q hg ((hna.below hb).pl (by omega)) ((hnb.below hb).pl (by omega)) (List.eq_nil_of_length_eq_zero hT)
 clear hna hnb
 go_enter Tryz.func4, Tryz.ntmps4
 have sb := sbmk w
 (repeat ((fail_if_success with_reducible refine rg ?_); go_step))
 refine wp_region_pw ?_
 refine pw_value (by rfl) (.bool false) (fun _ => rfl) ?_
 simp only [Act.put, pu]
 refine pw_nil ?_
 (repeat ((fail_if_success with_reducible refine rg ?_); go_step))
 refine wp_region_pw ?_
 refine pw_mv (by rfl) rfl rfl ?_
 simp only [Act.put, pu]
 refine pw_value (by rfl) (.int .i64 n) (exec_len_s 22 _ rfl (ab) (n) (c) rfl sl_natsX) ?_
 simp only [Act.put, pu]
 refine pw_value (by rfl) (.bool false) (exec_gt_i _ _ _ _ rfl n 8 rfl rfl false (decide_eq_false (by omega))) ?_
 simp only [Act.put, pu]
 refine pw_mv (by rfl) rfl rfl ?_
 simp only [Act.put, pu]
 refine pw_mv (by rfl) rfl rfl ?_
 simp only [Act.put, pu]
 refine pw_value (by rfl) (.int .i64 m) (exec_len_s 22 _ rfl (ae) (m) (ce) rfl sl_natsX) ?_
 simp only [Act.put, pu]
 refine pw_value (by rfl) (.bool false) (exec_gt_i _ _ _ _ rfl m 8 rfl rfl false (decide_eq_false (by omega))) ?_
 simp only [Act.put, pu]
 refine pw_pick (by rfl) false (v := .bool false) rfl rfl rfl ?_
 simp only [Act.put, pu]
 refine pw_nil ?_
 (repeat ((fail_if_success with_reducible refine rg ?_); go_step))
 refine wp_region_pw ?_
 refine pw_mv (by rfl) rfl rfl ?_
 simp only [Act.put, pu]
 refine pw_callE (by rfl) 7 _ _ rfl Tryz.func7 (by kernel_rfl) #[.int .i64 a0] rfl (hsm _) ?_
 rintro _ z3001 ⟨g, gr, gf, rfl, hg, hb⟩
 refine ⟨_, rfl, ?_⟩
 simp only [Act.put, pu]
 have k := Kept.ofBelow hb
 clear hb
 replace sb := sb.trans (k.below w.heap.size sb.size (by simp <;> omega))
 clear k
 refine pw_mv (by rfl) rfl rfl ?_
 simp only [Act.put, pu]
 refine pw_ext (by rfl) rfl rfl rfl ?_
 simp only [Act.put, pu]
 refine pw_ext (by rfl) rfl rfl rfl ?_
 simp only [Act.put, pu]
 refine pw_ext (by rfl) rfl rfl rfl ?_
 simp only [Act.put, pu]
 refine pw_as (by rfl) rfl rfl ?_
 simp only [Act.put, pu]
 refine pw_as (by rfl) rfl rfl ?_
 simp only [Act.put, pu]
 refine pw_as (by rfl) rfl rfl ?_
 simp only [Act.put, pu]
 refine pw_nil ?_
 clear hsm
 (repeat ((fail_if_success with_reducible refine rg ?_); go_step))
 refine wp_region_pw ?_
 refine pw_mv (by rfl) rfl rfl ?_
 simp only [Act.put, pu]
 refine pw_mv (by rfl) rfl rfl ?_
 simp only [Act.put, pu]
 refine pw_callE (by rfl) 8 _ _ rfl Tryz.func8 (by kernel_rfl) #[.slice ab n c, .int .i64 (QQ : Nat)] rfl (hal _ sb) ?_
 rintro _ z4002 ⟨v1, rfl, h1, hb⟩
 refine ⟨_, rfl, ?_⟩
 simp only [Act.put, pu]
 have k := Kept.ofBelow hb
 clear hb
 replace hg := hg.below k.nil
 replace sb := sb.trans (k.below w.heap.size sb.size (by simp <;> omega))
 clear k
 refine pw_callE (by rfl) 11 _ _ rfl Tryz.func11 (by kernel_rfl) #[v1] rfl (rta _ v1 h1) ?_
 rintro _ z4003 ⟨vs, rfl, hs, hb⟩
 refine ⟨_, rfl, ?_⟩
 simp only [Act.put, pu]
 have k := Kept.ofBelow hb
 clear hb
 replace hg := hg.below k.nil
 replace h1 := h1.below k.nil
 replace sb := sb.trans (k.below w.heap.size sb.size (by simp <;> omega))
 clear k
 refine pw_mv (by rfl) rfl rfl ?_
 simp only [Act.put, pu]
 refine pw_mv (by rfl) rfl rfl ?_
 simp only [Act.put, pu]
 refine pw_callE (by rfl) 8 _ _ rfl Tryz.func8 (by kernel_rfl) #[.slice ae m ce, .int .i64 (QQ : Nat)] rfl (hbl _ sb) ?_
 rintro _ z4006 ⟨v2, rfl, h2, hb⟩
 refine ⟨_, rfl, ?_⟩
 simp only [Act.put, pu]
 have k := Kept.ofBelow hb
 clear hb
 replace hg := hg.below k.nil
 replace h1 := h1.below k.nil
 replace hs := hs.below k.nil
 replace sb := sb.trans (k.below w.heap.size sb.size (by simp <;> omega))
 clear k
 refine pw_callE (by rfl) 11 _ _ rfl Tryz.func11 (by kernel_rfl) #[v2] rfl (rtb _ v2 h2) ?_
 rintro _ z4007 ⟨vt, rfl, ht, hb⟩
 refine ⟨_, rfl, ?_⟩
 simp only [Act.put, pu]
 have k := Kept.ofBelow hb
 clear hb
 replace hg := hg.below k.nil
 replace h1 := h1.below k.nil
 replace hs := hs.below k.nil
 replace h2 := h2.below k.nil
 replace sb := sb.trans (k.below w.heap.size sb.size (by simp <;> omega))
 clear k
 refine pw_as (by rfl) rfl rfl ?_
 simp only [Act.put, pu]
 refine pw_as (by rfl) rfl rfl ?_
 simp only [Act.put, pu]
 refine pw_nil ?_
 clear h1 h2 hal hbl rta rtb
 obtain ⟨at', ct, rfl⟩ := ht.shape hT
 (repeat ((fail_if_success with_reducible refine rg ?_); go_step))
 refine wp_region_pw ?_
 refine pw_mv (by rfl) rfl rfl ?_
 simp only [Act.put, pu]
 refine pw_mv (by rfl) rfl rfl ?_
 simp only [Act.put, pu]
 refine pw_mv (by rfl) rfl rfl ?_
 simp only [Act.put, pu]
 refine pw_callB (by rfl) 20 _ _ rfl Tryz.func20 (by kernel_rfl) #[.pointer (some ⟨g, 0, none⟩), .slice ab n c, .slice ae m ce] rfl _ (hdv g gr gf _ sb hg) ?_
 intro z5003 k
 simp only [Act.put, pu]
 replace hg := hg.below k.nil
 replace sb := sb.trans (k.below w.heap.size sb.size (by simp <;> omega))
 clear k
 refine pw_mv (by rfl) rfl rfl ?_
 simp only [Act.put, pu]
 refine pw_ext (by rfl) rfl rfl rfl ?_
 simp only [Act.put, pu]
 refine pw_ext (by rfl) rfl rfl rfl ?_
 simp only [Act.put, pu]
 refine pw_ext (by rfl) rfl rfl rfl ?_
 simp only [Act.put, pu]
 refine pw_as (by rfl) rfl rfl ?_
 simp only [Act.put, pu]
 refine pw_as (by rfl) rfl rfl ?_
 simp only [Act.put, pu]
 refine pw_as (by rfl) rfl rfl ?_
 simp only [Act.put, pu]
 refine pw_nil ?_
 (repeat ((fail_if_success with_reducible refine rg ?_); go_step))
 refine wp_region_pw ?_
 refine pw_mv (by rfl) rfl rfl ?_
 simp only [Act.put, pu]
 refine pw_value (by rfl) (.bool false) (exec_not _ _ rfl true rfl) ?_
 simp only [Act.put, pu]
 refine pw_nil ?_
 (repeat ((fail_if_success with_reducible refine rg ?_); go_step))
 refine wp_region_pw ?_
 refine pw_mv (by rfl) rfl rfl ?_
 simp only [Act.put, pu]
 refine pw_value (by rfl) (.int .i64 0) (exec_len_s 31 _ rfl (at') 0 ct rfl sl_intsX) ?_
 simp only [Act.put, pu]
 refine pw_value (by rfl) (.bool true) (exec_eql_k .i64 _ _ _ _ rfl 0 0 rfl rfl true rfl) ?_
 simp only [Act.put, pu]
 refine pw_nil ?_
 (repeat ((fail_if_success with_reducible refine rg ?_); go_step))
 refine wp_region_pw ?_
 refine pw_mv (by rfl) rfl rfl ?_
 simp only [Act.put, pu]
 refine pw_value (by rfl) (.int .i64 0) (exec_len_s 22 _ rfl (none) (0) (0) rfl sl_natsX) ?_
 simp only [Act.put, pu]
 refine pw_value (by rfl) (.bool true) (exec_eql_k .i64 _ _ _ _ rfl 0 0 rfl rfl true rfl) ?_
 simp only [Act.put, pu]
 refine pw_mv (by rfl) rfl rfl ?_
 simp only [Act.put, pu]
 refine pw_mv (by rfl) rfl rfl ?_
 simp only [Act.put, pu]
 refine pw_value (by rfl) (.int .i64 0) (exec_len_s 22 _ rfl (none) (0) (0) rfl sl_natsX) ?_
 simp only [Act.put, pu]
 refine pw_value (by rfl) (.bool true) (exec_eql_k .i64 _ _ _ _ rfl 0 0 rfl rfl true rfl) ?_
 simp only [Act.put, pu]
 refine pw_pick (by rfl) true (v := .bool true) rfl rfl rfl ?_
 simp only [Act.put, pu]
 refine pw_mv (by rfl) rfl rfl ?_
 simp only [Act.put, pu]
 refine pw_mv (by rfl) rfl rfl ?_
 simp only [Act.put, pu]
 refine pw_value (by rfl) (.bool true) (exec_eql_k .i64 _ _ _ _ rfl 1 1 rfl rfl true rfl) ?_
 simp only [Act.put, pu]
 refine pw_pick (by rfl) true (v := .bool true) rfl rfl rfl ?_
 simp only [Act.put, pu]
 refine pw_mv (by rfl) rfl rfl ?_
 simp only [Act.put, pu]
 refine pw_callB (by rfl) 6 _ _ rfl Tryz.func6 (by kernel_rfl) #[] rfl _ (haw _) ?_
 intro z9013 k
 simp only [Act.put, pu]
 replace sb := sb.trans (k.below w.heap.size sb.size (by simp <;> omega))
 clear k
 refine pw_pick (by rfl) true (v := .bool true) rfl rfl rfl ?_
 simp only [Act.put, pu]
 refine pw_as (by rfl) rfl rfl ?_
 simp only [Act.put, pu]
 refine pw_nil ?_
 go_wp2
 go_ret
 exact ⟨rfl, sb⟩
set_option maxRecDepth 100000 in
set_option maxHeartbeats 2000000 in
theorem core2 (a0 : Int) (PP QQ GG n c m ce : Nat) [NeZero QQ] (ab ae : Option Addr) (F E : Nat → Nat) (gb ob ge oe : Nat) (bcs ecs : Array Value) (tb te : TypeId) (w : World) (hn : n ≤ 8) (hm : m ≤ 8) (q : FdQ QQ) (hq : QQ < 4611686018427387904) (hna : NatsAt w ab n F gb ob bcs tb) (hnb : NatsAt w ae m E ge oe ecs te) (T : Nat) (hT : (ptrim (fl m E : List (Fin QQ))).length = T) (hT0 : 0 < T)
  (hsm : ∀ w', Calls Tryz.prog 7 #[.int .i64 a0] w' fun e w2 => ∃ g gr gf, e = .returned (.tuple #[.pointer (some ⟨g, 0, none⟩), .int .i64 (QQ : Nat), .bool true]) ∧ GrpAt w2 g gr gf PP QQ GG ∧ Below w'.heap.size w' w2) :
  Calls Tryz.prog 4 #[.int .i64 a0, .slice ab n c, .slice ae m ce] w fun e w' => e = .returned (.bool true) ∧ Below w.heap.size w w' := by
 have haw := awake12_any
 have la : ((fl n F : List (Fin QQ))).length = n := fl_length _ _
 have lb : ((fl m E : List (Fin QQ))).length = m := fl_length _ _
 have lta := ptrim_le (fl n F : List (Fin QQ))
 have ltb := ptrim_le (fl m E : List (Fin QQ))
 rw [la] at lta
 rw [lb] at ltb
 have hal := fun w' (hb : Below w.heap.size w w') => rallL (Q := QQ) ab n c F gb ob bcs tb w' (by omega) q hq (hna.below hb)
 have hbl := fun w' (hb : Below w.heap.size w w') => rallL (Q := QQ) ae m ce E ge oe ecs te w' (by omega) q hq (hnb.below hb)
 have rta := fun w' (v : Value) (h : IlAt w' v (fl n F : List (Fin QQ))) => rtrimL v (fl n F : List (Fin QQ)) w' (by omega) h
 have rtb := fun w' (v : Value) (h : IlAt w' v (fl m E : List (Fin QQ))) => rtrimL v (fl m E : List (Fin QQ)) w' (by omega) h
 have hdv := fun g gr gf w' (hb : Below w.heap.size w w') (hg : GrpAt w' g gr gf PP QQ GG) => divQ (.slice ab n c) (.slice ae m ce) (fl n F : List (Fin QQ)) (fl m E : List (Fin QQ)) q hg ((hna.below hb).pl (by omega)) ((hnb.below hb).pl (by omega)) (List.length_pos_iff.1 (by omega))
 clear hna hnb
 go_enter Tryz.func4, Tryz.ntmps4
 have sb := sbmk w
 (repeat ((fail_if_success with_reducible refine rg ?_); go_step))
 refine wp_region_pw ?_
 refine pw_value (by rfl) (.bool false) (fun _ => rfl) ?_
 simp only [Act.put, pu]
 refine pw_nil ?_
 (repeat ((fail_if_success with_reducible refine rg ?_); go_step))
 refine wp_region_pw ?_
 refine pw_mv (by rfl) rfl rfl ?_
 simp only [Act.put, pu]
 refine pw_value (by rfl) (.int .i64 n) (exec_len_s 22 _ rfl (ab) (n) (c) rfl sl_natsX) ?_
 simp only [Act.put, pu]
 refine pw_value (by rfl) (.bool false) (exec_gt_i _ _ _ _ rfl n 8 rfl rfl false (decide_eq_false (by omega))) ?_
 simp only [Act.put, pu]
 refine pw_mv (by rfl) rfl rfl ?_
 simp only [Act.put, pu]
 refine pw_mv (by rfl) rfl rfl ?_
 simp only [Act.put, pu]
 refine pw_value (by rfl) (.int .i64 m) (exec_len_s 22 _ rfl (ae) (m) (ce) rfl sl_natsX) ?_
 simp only [Act.put, pu]
 refine pw_value (by rfl) (.bool false) (exec_gt_i _ _ _ _ rfl m 8 rfl rfl false (decide_eq_false (by omega))) ?_
 simp only [Act.put, pu]
 refine pw_pick (by rfl) false (v := .bool false) rfl rfl rfl ?_
 simp only [Act.put, pu]
 refine pw_nil ?_
 (repeat ((fail_if_success with_reducible refine rg ?_); go_step))
 refine wp_region_pw ?_
 refine pw_mv (by rfl) rfl rfl ?_
 simp only [Act.put, pu]
 refine pw_callE (by rfl) 7 _ _ rfl Tryz.func7 (by kernel_rfl) #[.int .i64 a0] rfl (hsm _) ?_
 rintro _ z3001 ⟨g, gr, gf, rfl, hg, hb⟩
 refine ⟨_, rfl, ?_⟩
 simp only [Act.put, pu]
 have k := Kept.ofBelow hb
 clear hb
 replace sb := sb.trans (k.below w.heap.size sb.size (by simp <;> omega))
 clear k
 refine pw_mv (by rfl) rfl rfl ?_
 simp only [Act.put, pu]
 refine pw_ext (by rfl) rfl rfl rfl ?_
 simp only [Act.put, pu]
 refine pw_ext (by rfl) rfl rfl rfl ?_
 simp only [Act.put, pu]
 refine pw_ext (by rfl) rfl rfl rfl ?_
 simp only [Act.put, pu]
 refine pw_as (by rfl) rfl rfl ?_
 simp only [Act.put, pu]
 refine pw_as (by rfl) rfl rfl ?_
 simp only [Act.put, pu]
 refine pw_as (by rfl) rfl rfl ?_
 simp only [Act.put, pu]
 refine pw_nil ?_
 clear hsm
 (repeat ((fail_if_success with_reducible refine rg ?_); go_step))
 refine wp_region_pw ?_
 refine pw_mv (by rfl) rfl rfl ?_
 simp only [Act.put, pu]
 refine pw_mv (by rfl) rfl rfl ?_
 simp only [Act.put, pu]
 refine pw_callE (by rfl) 8 _ _ rfl Tryz.func8 (by kernel_rfl) #[.slice ab n c, .int .i64 (QQ : Nat)] rfl (hal _ sb) ?_
 rintro _ z4002 ⟨v1, rfl, h1, hb⟩
 refine ⟨_, rfl, ?_⟩
 simp only [Act.put, pu]
 have k := Kept.ofBelow hb
 clear hb
 replace hg := hg.below k.nil
 replace sb := sb.trans (k.below w.heap.size sb.size (by simp <;> omega))
 clear k
 refine pw_callE (by rfl) 11 _ _ rfl Tryz.func11 (by kernel_rfl) #[v1] rfl (rta _ v1 h1) ?_
 rintro _ z4003 ⟨vs, rfl, hs, hb⟩
 refine ⟨_, rfl, ?_⟩
 simp only [Act.put, pu]
 have k := Kept.ofBelow hb
 clear hb
 replace hg := hg.below k.nil
 replace h1 := h1.below k.nil
 replace sb := sb.trans (k.below w.heap.size sb.size (by simp <;> omega))
 clear k
 refine pw_mv (by rfl) rfl rfl ?_
 simp only [Act.put, pu]
 refine pw_mv (by rfl) rfl rfl ?_
 simp only [Act.put, pu]
 refine pw_callE (by rfl) 8 _ _ rfl Tryz.func8 (by kernel_rfl) #[.slice ae m ce, .int .i64 (QQ : Nat)] rfl (hbl _ sb) ?_
 rintro _ z4006 ⟨v2, rfl, h2, hb⟩
 refine ⟨_, rfl, ?_⟩
 simp only [Act.put, pu]
 have k := Kept.ofBelow hb
 clear hb
 replace hg := hg.below k.nil
 replace h1 := h1.below k.nil
 replace hs := hs.below k.nil
 replace sb := sb.trans (k.below w.heap.size sb.size (by simp <;> omega))
 clear k
 refine pw_callE (by rfl) 11 _ _ rfl Tryz.func11 (by kernel_rfl) #[v2] rfl (rtb _ v2 h2) ?_
 rintro _ z4007 ⟨vt, rfl, ht, hb⟩
 refine ⟨_, rfl, ?_⟩
 simp only [Act.put, pu]
 have k := Kept.ofBelow hb
 clear hb
 replace hg := hg.below k.nil
 replace h1 := h1.below k.nil
 replace hs := hs.below k.nil
 replace h2 := h2.below k.nil
 replace sb := sb.trans (k.below w.heap.size sb.size (by simp <;> omega))
 clear k
 refine pw_as (by rfl) rfl rfl ?_
 simp only [Act.put, pu]
 refine pw_as (by rfl) rfl rfl ?_
 simp only [Act.put, pu]
 refine pw_nil ?_
 clear h1 h2 hal hbl rta rtb
 obtain ⟨at', ct, rfl⟩ := ht.shape hT
 (repeat ((fail_if_success with_reducible refine rg ?_); go_step))
 refine wp_region_pw ?_
 refine pw_mv (by rfl) rfl rfl ?_
 simp only [Act.put, pu]
 refine pw_mv (by rfl) rfl rfl ?_
 simp only [Act.put, pu]
 refine pw_mv (by rfl) rfl rfl ?_
 simp only [Act.put, pu]
 refine pw_callE (by rfl) 20 _ _ rfl Tryz.func20 (by kernel_rfl) #[.pointer (some ⟨g, 0, none⟩), .slice ab n c, .slice ae m ce] rfl (hdv g gr gf _ sb hg) ?_
 rintro _ z5003 ⟨vq, vr, Lq, Lr, rfl, hq1, hr1, eq1, eq2, hltL, l1, l2, hco, hb⟩
 refine ⟨_, rfl, ?_⟩
 simp only [Act.put, pu]
 have k := Kept.ofBelow hb
 clear hb
 replace hg := hg.below k.nil
 replace hs := hs.below k.nil
 replace ht := ht.below k.nil
 replace sb := sb.trans (k.below w.heap.size sb.size (by simp <;> omega))
 clear k
 refine pw_mv (by rfl) rfl rfl ?_
 simp only [Act.put, pu]
 refine pw_ext (by rfl) rfl rfl rfl ?_
 simp only [Act.put, pu]
 refine pw_ext (by rfl) rfl rfl rfl ?_
 simp only [Act.put, pu]
 refine pw_ext (by rfl) rfl rfl rfl ?_
 simp only [Act.put, pu]
 refine pw_as (by rfl) rfl rfl ?_
 simp only [Act.put, pu]
 refine pw_as (by rfl) rfl rfl ?_
 simp only [Act.put, pu]
 refine pw_as (by rfl) rfl rfl ?_
 simp only [Act.put, pu]
 refine pw_nil ?_
 rw [hT] at hltL
 rw [la] at l1 l2
 have hback : psum (pmul Lq (ptrim (fl m E : List (Fin QQ)))) Lr = (ptrim (fl n F : List (Fin QQ))) := ptrim_ext _ _ fun i => by
  rw [pco_padd]
  exact hco i
 have lm := pmul_length Lq (ptrim (fl m E : List (Fin QQ)))
 rw [hT] at lm
 have rau := fun w' (h : PlAt w' vq Lq) => rallP vq Lq w' (by omega) q hq h
 have rav := fun w' (h : PlAt w' vr Lr) => rallP vr Lr w' (by omega) q hq h
 have rmu := fun w' (v v' : Value) (h : IlAt w' v Lq) (h' : IlAt w' v' (ptrim (fl m E : List (Fin QQ)))) => rmulL v v' _ _ w' (by omega) (by omega) q hq h h'
 have rad := fun w' (v v' : Value) (h : IlAt w' v (pmul Lq (ptrim (fl m E : List (Fin QQ))))) (h' : IlAt w' v' Lr) => raddL v v' _ _ w' (by omega) (by omega) q hq h h'
 rw [hback] at rad
 have rtu := fun w' (v : Value) (h : IlAt w' v Lq) => rtrimL v Lq w' (by omega) h
 have rtv := fun w' (v : Value) (h : IlAt w' v Lr) => rtrimL v Lr w' (by omega) h
 rw [eq1] at rtu
 rw [eq2] at rtv
 have his1 := fun w' (v v' : Value) (h : PlAt w' v Lq) (h' : IlAt w' v' Lq) => is_any v v' _ w' (by omega) hq h h'
 have his2 := fun w' (v v' : Value) (h : PlAt w' v Lr) (h' : IlAt w' v' Lr) => is_any v v' _ w' (by omega) hq h h'
 have hsam := fun w' (v v' : Value) (h : IlAt w' v (ptrim (fl n F : List (Fin QQ)))) (h' : IlAt w' v' (ptrim (fl n F : List (Fin QQ)))) => rsameL v v' _ w' (by omega) h h'
 clear hdv hco hback lm eq1 eq2 l1 l2 lta ltb la lb
 (repeat ((fail_if_success with_reducible refine rg ?_); go_step))
 refine wp_region_pw ?_
 refine pw_mv (by rfl) rfl rfl ?_
 simp only [Act.put, pu]
 refine pw_value (by rfl) (.bool false) (exec_not _ _ rfl true rfl) ?_
 simp only [Act.put, pu]
 refine pw_nil ?_
 (repeat ((fail_if_success with_reducible refine rg ?_); go_step))
 refine wp_region_pw ?_
 refine pw_mv (by rfl) rfl rfl ?_
 simp only [Act.put, pu]
 refine pw_value (by rfl) (.int .i64 (T : Nat)) (exec_len_s 31 _ rfl (at') (T) (ct) rfl sl_intsX) ?_
 simp only [Act.put, pu]
 refine pw_value (by rfl) (.bool false) (exec_eql_k .i64 _ _ _ _ rfl T 0 rfl rfl false (decide_eq_false (by omega))) ?_
 simp only [Act.put, pu]
 refine pw_nil ?_
 (repeat ((fail_if_success with_reducible refine rg ?_); go_step))
 refine wp_region_pw ?_
 refine pw_mv (by rfl) rfl rfl ?_
 simp only [Act.put, pu]
 refine pw_mv (by rfl) rfl rfl ?_
 simp only [Act.put, pu]
 refine pw_callE (by rfl) 8 _ _ rfl Tryz.func8 (by kernel_rfl) #[vq, .int .i64 (QQ : Nat)] rfl (rau _ hq1) ?_
 rintro _ z10002 ⟨vu, rfl, hu, hb⟩
 refine ⟨_, rfl, ?_⟩
 simp only [Act.put, pu]
 have k := Kept.ofBelow hb
 clear hb
 replace hs := hs.below k.nil
 replace ht := ht.below k.nil
 replace hq1 := hq1.below k.nil
 replace hr1 := hr1.below k.nil
 replace sb := sb.trans (k.below w.heap.size sb.size (by simp <;> omega))
 clear k
 refine pw_mv (by rfl) rfl rfl ?_
 simp only [Act.put, pu]
 refine pw_mv (by rfl) rfl rfl ?_
 simp only [Act.put, pu]
 refine pw_callE (by rfl) 8 _ _ rfl Tryz.func8 (by kernel_rfl) #[vr, .int .i64 (QQ : Nat)] rfl (rav _ hr1) ?_
 rintro _ z10005 ⟨vv, rfl, hv, hb⟩
 refine ⟨_, rfl, ?_⟩
 simp only [Act.put, pu]
 have k := Kept.ofBelow hb
 clear hb
 replace hs := hs.below k.nil
 replace ht := ht.below k.nil
 replace hq1 := hq1.below k.nil
 replace hr1 := hr1.below k.nil
 replace hu := hu.below k.nil
 replace sb := sb.trans (k.below w.heap.size sb.size (by simp <;> omega))
 clear k
 refine pw_as (by rfl) rfl rfl ?_
 simp only [Act.put, pu]
 refine pw_as (by rfl) rfl rfl ?_
 simp only [Act.put, pu]
 refine pw_nil ?_
 clear rau rav
 (repeat ((fail_if_success with_reducible refine rg ?_); go_step))
 refine wp_region_pw ?_
 refine pw_mv (by rfl) rfl rfl ?_
 simp only [Act.put, pu]
 refine pw_mv (by rfl) rfl rfl ?_
 simp only [Act.put, pu]
 refine pw_mv (by rfl) rfl rfl ?_
 simp only [Act.put, pu]
 refine pw_callE (by rfl) 19 _ _ rfl Tryz.func19 (by kernel_rfl) #[vu, .slice at' T ct, .int .i64 (QQ : Nat)] rfl (rmu _ vu (.slice at' T ct) hu ht) ?_
 rintro _ z11003 ⟨v5, rfl, h5, hb⟩
 refine ⟨_, rfl, ?_⟩
 simp only [Act.put, pu]
 have k := Kept.ofBelow hb
 clear hb
 replace hs := hs.below k.nil
 replace ht := ht.below k.nil
 replace hq1 := hq1.below k.nil
 replace hr1 := hr1.below k.nil
 replace hu := hu.below k.nil
 replace hv := hv.below k.nil
 replace sb := sb.trans (k.below w.heap.size sb.size (by simp <;> omega))
 clear k
 refine pw_mv (by rfl) rfl rfl ?_
 simp only [Act.put, pu]
 refine pw_mv (by rfl) rfl rfl ?_
 simp only [Act.put, pu]
 refine pw_callE (by rfl) 17 _ _ rfl Tryz.func17 (by kernel_rfl) #[v5, vv, .int .i64 (QQ : Nat)] rfl (rad _ v5 vv h5 hv) ?_
 rintro _ z11006 ⟨vb, rfl, hb1, hb⟩
 refine ⟨_, rfl, ?_⟩
 simp only [Act.put, pu]
 have k := Kept.ofBelow hb
 clear hb
 replace hs := hs.below k.nil
 replace ht := ht.below k.nil
 replace hq1 := hq1.below k.nil
 replace hr1 := hr1.below k.nil
 replace hu := hu.below k.nil
 replace hv := hv.below k.nil
 replace h5 := h5.below k.nil
 replace sb := sb.trans (k.below w.heap.size sb.size (by simp <;> omega))
 clear k
 refine pw_as (by rfl) rfl rfl ?_
 simp only [Act.put, pu]
 refine pw_nil ?_
 clear rmu rad h5
 obtain ⟨av, cv, rfl⟩ := hv.shape rfl
 (repeat ((fail_if_success with_reducible refine rg ?_); go_step))
 refine wp_region_pw ?_
 refine pw_mv (by rfl) rfl rfl ?_
 simp only [Act.put, pu]
 refine pw_value (by rfl) (.bool true) (exec_eql_k .i64 _ _ _ _ rfl 0 0 rfl rfl true rfl) ?_
 simp only [Act.put, pu]
 refine pw_mv (by rfl) rfl rfl ?_
 simp only [Act.put, pu]
 refine pw_mv (by rfl) rfl rfl ?_
 simp only [Act.put, pu]
 refine pw_mv (by rfl) rfl rfl ?_
 simp only [Act.put, pu]
 refine pw_callE (by rfl) 11 _ _ rfl Tryz.func11 (by kernel_rfl) #[vu] rfl (rtu _ vu hu) ?_
 rintro _ z12005 ⟨v6, rfl, h6, hb⟩
 refine ⟨_, rfl, ?_⟩
 simp only [Act.put, pu]
 have k := Kept.ofBelow hb
 clear hb
 replace hs := hs.below k.nil
 replace ht := ht.below k.nil
 replace hq1 := hq1.below k.nil
 replace hr1 := hr1.below k.nil
 replace hu := hu.below k.nil
 replace hv := hv.below k.nil
 replace hb1 := hb1.below k.nil
 replace sb := sb.trans (k.below w.heap.size sb.size (by simp <;> omega))
 clear k
 refine pw_callB (by rfl) 9 _ _ rfl Tryz.func9 (by kernel_rfl) #[vq, v6] rfl _ (his1 _ vq v6 hq1 h6) ?_
 intro z12006 k
 simp only [Act.put, pu]
 replace hs := hs.below k.nil
 replace ht := ht.below k.nil
 replace hq1 := hq1.below k.nil
 replace hr1 := hr1.below k.nil
 replace hu := hu.below k.nil
 replace hv := hv.below k.nil
 replace hb1 := hb1.below k.nil
 replace h6 := h6.below k.nil
 replace sb := sb.trans (k.below w.heap.size sb.size (by simp <;> omega))
 clear k
 refine pw_pick (by rfl) true (v := .bool true) rfl rfl rfl ?_
 simp only [Act.put, pu]
 refine pw_mv (by rfl) rfl rfl ?_
 simp only [Act.put, pu]
 refine pw_mv (by rfl) rfl rfl ?_
 simp only [Act.put, pu]
 refine pw_mv (by rfl) rfl rfl ?_
 simp only [Act.put, pu]
 refine pw_callE (by rfl) 11 _ _ rfl Tryz.func11 (by kernel_rfl) #[.slice av Lr.length cv] rfl (rtv _ _ hv) ?_
 rintro _ z12011 ⟨v7, rfl, h7, hb⟩
 refine ⟨_, rfl, ?_⟩
 simp only [Act.put, pu]
 have k := Kept.ofBelow hb
 clear hb
 replace hs := hs.below k.nil
 replace ht := ht.below k.nil
 replace hq1 := hq1.below k.nil
 replace hr1 := hr1.below k.nil
 replace hu := hu.below k.nil
 replace hv := hv.below k.nil
 replace hb1 := hb1.below k.nil
 replace h6 := h6.below k.nil
 replace sb := sb.trans (k.below w.heap.size sb.size (by simp <;> omega))
 clear k
 refine pw_callB (by rfl) 9 _ _ rfl Tryz.func9 (by kernel_rfl) #[vr, v7] rfl _ (his2 _ vr v7 hr1 h7) ?_
 intro z12012 k
 simp only [Act.put, pu]
 replace hs := hs.below k.nil
 replace ht := ht.below k.nil
 replace hq1 := hq1.below k.nil
 replace hr1 := hr1.below k.nil
 replace hu := hu.below k.nil
 replace hv := hv.below k.nil
 replace hb1 := hb1.below k.nil
 replace h6 := h6.below k.nil
 replace h7 := h7.below k.nil
 replace sb := sb.trans (k.below w.heap.size sb.size (by simp <;> omega))
 clear k
 refine pw_pick (by rfl) true (v := .bool true) rfl rfl rfl ?_
 simp only [Act.put, pu]
 refine pw_mv (by rfl) rfl rfl ?_
 simp only [Act.put, pu]
 refine pw_mv (by rfl) rfl rfl ?_
 simp only [Act.put, pu]
 refine pw_mv (by rfl) rfl rfl ?_
 simp only [Act.put, pu]
 refine pw_callB (by rfl) 21 _ _ rfl Tryz.func21 (by kernel_rfl) #[vb, vs] rfl _ (hsam _ vb vs hb1 hs) ?_
 intro z12017 k
 simp only [Act.put, pu]
 replace hs := hs.below k.nil
 replace ht := ht.below k.nil
 replace hq1 := hq1.below k.nil
 replace hr1 := hr1.below k.nil
 replace hu := hu.below k.nil
 replace hv := hv.below k.nil
 replace hb1 := hb1.below k.nil
 replace h6 := h6.below k.nil
 replace h7 := h7.below k.nil
 replace sb := sb.trans (k.below w.heap.size sb.size (by simp <;> omega))
 clear k
 refine pw_pick (by rfl) true (v := .bool true) rfl rfl rfl ?_
 simp only [Act.put, pu]
 refine pw_mv (by rfl) rfl rfl ?_
 simp only [Act.put, pu]
 refine pw_mv (by rfl) rfl rfl ?_
 simp only [Act.put, pu]
 refine pw_value (by rfl) (.int .i64 (Lr.length : Nat)) (exec_len_s 31 _ rfl (av) (Lr.length) (cv) rfl sl_intsX) ?_
 simp only [Act.put, pu]
 refine pw_mv (by rfl) rfl rfl ?_
 simp only [Act.put, pu]
 refine pw_value (by rfl) (.int .i64 (T : Nat)) (exec_len_s 31 _ rfl (at') (T) (ct) rfl sl_intsX) ?_
 simp only [Act.put, pu]
 refine pw_value (by rfl) (.bool true) (exec_lt_b _ _ _ _ rfl Lr.length T rfl rfl true (decide_eq_true (by omega))) ?_
 simp only [Act.put, pu]
 refine pw_pick (by rfl) true (v := .bool true) rfl rfl rfl ?_
 simp only [Act.put, pu]
 refine pw_mv (by rfl) rfl rfl ?_
 simp only [Act.put, pu]
 refine pw_callB (by rfl) 6 _ _ rfl Tryz.func6 (by kernel_rfl) #[] rfl _ (haw _) ?_
 intro z12027 k
 simp only [Act.put, pu]
 replace hs := hs.below k.nil
 replace ht := ht.below k.nil
 replace hq1 := hq1.below k.nil
 replace hr1 := hr1.below k.nil
 replace hu := hu.below k.nil
 replace hv := hv.below k.nil
 replace hb1 := hb1.below k.nil
 replace h6 := h6.below k.nil
 replace h7 := h7.below k.nil
 replace sb := sb.trans (k.below w.heap.size sb.size (by simp <;> omega))
 clear k
 refine pw_pick (by rfl) true (v := .bool true) rfl rfl rfl ?_
 simp only [Act.put, pu]
 refine pw_as (by rfl) rfl rfl ?_
 simp only [Act.put, pu]
 refine pw_nil ?_
 go_wp2
 go_ret
 exact ⟨rfl, sb⟩
theorem walk (a0 : Int) (ab : Option Addr) (n c : Nat) (F : Nat → Nat) (gb ob : Nat) (bcs : Array Value) (tb : TypeId) (ae : Option Addr) (m ce : Nat) (E : Nat → Nat) (ge oe : Nat) (ecs : Array Value) (te : TypeId) (w : World) (_ : -9223372036854775808 ≤ a0 ∧ a0 ≤ 9223372036854775807) (hna : NatsAt w ab n F gb ob bcs tb) (hnb : NatsAt w ae m E ge oe ecs te) :
  Calls Tryz.prog 4 #[.int .i64 a0, .slice ab n c, .slice ae m ce] w fun e w' => e = .returned (.bool true) ∧ Below w.heap.size w w' := by
 by_cases h : 8 < n ∨ 8 < m
 ·exact core0 a0 n c m ce ab ae w h
 have q := (sm_fd a0).1
 haveI : NeZero (smQ a0) := ⟨by have := q.pos; omega⟩
 by_cases hT : (ptrim (fl m E : List (Fin (smQ a0)))).length = 0
 ·exact core1 a0 (smP a0) (smQ a0) (smG a0) n c m ce ab ae F E gb ob ge oe bcs ecs tb te w (by omega) (by omega) q (sm_fd a0).2 hna hnb hT (sml_any a0)
 ·exact core2 a0 (smP a0) (smQ a0) (smG a0) n c m ce ab ae F E gb ob ge oe bcs ecs tb te w (by omega) (by omega) q (sm_fd a0).2 hna hnb _ rfl (by omega) (sml_any a0)
set_option maxRecDepth 100000 in
theorem lifted (os : Os) (started : os.Started) (H : Type) (enc : TypeId × Value → H) :
  ReturnsInHanded {} Tryz.checked os 4 .any (Rows.polyDivsSpec.pre6 enc Tryz.prog Tryz.f4 Rows.polyDivsRow.domain false) (Rows.polyDivsSpec.post enc Tryz.prog Tryz.f4 false true false false) := by
 refine returnsInHanded_of_change (C := Tryz.checked) own started (by kernel_rfl) Tryz.func4
  (ChangeSpec.witness6 (enc := enc) (C := Tryz.checked) false ⟨#[], #[.int .i64 0, .slice none 0 0, .slice none 0 0], []⟩ 8 (by kernel_rfl) (by kernel_rfl) (by kernel_rfl) (by kernel_rfl)) ?_
 intro W base args ds gs before hval0 hW hcnd _
 have hval : ∀ (j : Nat) t v, Tryz.f4.params[j]? = some t → args[j]? = some v → Value.okWide Tryz.prog W .any base t v := hval0
 have hW' := hW
 obtain ⟨p, q, hA0, hV, rfl, hfz, hnd⟩ := hW
 have hA : DataW.TrodAll enc Tryz.prog W 0 (fun _ => true) true Tryz.f4.params.toList args.toList ds p := hA0
 rw [Tryz.params4] at hA hval
 obtain ⟨v0, vs0, d0, ds0, p0, q0, hargs, rfl, rfl, h0, r0⟩ := trodAll_cons hA
 obtain ⟨v1, vs1, d1, ds1, p1, q1, rfl, rfl, rfl, h1, r1⟩ := trodAll_cons r0
 obtain ⟨v2, vs2, d2, ds2, p2, q2, rfl, rfl, rfl, h2, r2⟩ := trodAll_cons r1
 obtain ⟨rfl, rfl, rfl⟩ := trodAll_nil r2
 obtain rfl : args = #[v0, v1, v2] := by cases args; simp_all
 obtain ⟨rfl, rfl⟩ := trodVars_none hV
 have k0 := h0
 have lt0 := lt_of_trod h0
 obtain ⟨a0, rfl, rfl, rfl, w0⟩ := open_int Tryz.underlying3 (hval 0 3 v0 rfl rfl) h0
 have k1 := h1
 have lt1 := lt_of_trod h1
 obtain ⟨ab1, n1, c1, F1, gb1, ob1, bcs1, tb1, rfl, _, _, hn1⟩ := open_nats (hval 1 22 v1 rfl rfl) h1
 have k2 := h2
 have lt2 := lt_of_trod h2
 obtain ⟨ab2, n2, c2, F2, gb2, ob2, bcs2, tb2, rfl, _, _, hn2⟩ := open_nats (hval 2 22 v2 rfl rfl) h2
 clear hA0 hval0
 refine (walk a0 ab1 n1 c1 F1 gb1 ob1 bcs1 tb1 ab2 n2 c2 F2 gb2 ob2 bcs2 tb2 W (bounds_i64 w0) hn1 hn2).mono fun e W' ⟨he, bel⟩ => ?_
 subst he
 exact ⟨_, rfl, _, _, _, [], _, [], hW', trodAll_mk1 (shut_bool Tryz.underlying4 _), (trodAll_cons_mk (Below.trod laidOut (by kernel_rfl) (of_decide_eq_true (by kernel_rfl)) k0 bel lt0) (trodAll_cons_mk (Below.trod laidOut (by kernel_rfl) (of_decide_eq_true (by kernel_rfl)) k1 bel lt1) (trodAll_cons_mk (Below.trod laidOut (by kernel_rfl) (of_decide_eq_true (by kernel_rfl)) k2 bel lt2) trodAll_mk0))), rfl, bel.frame _, fun h => by cases h⟩
theorem over : Rows.polyDivsRow.holds Tryz.pinned (OpenSpec.ofChange Rows.polyDivsSpec) :=
 OpenClaim.holds_of_wide 4 Tryz.f4 rfl rfl rfl rfl rfl rfl rfl ⟨rfl, rfl, rfl, rfl, rfl⟩ rfl rfl rfl rfl rfl (by kernel_rfl) Tryz.func4 (by kernel_rfl)
  (of_decide_eq_true (by kernel_rfl)) (by unfold Func.isWrapper; first | (rw [if_pos (by decide +kernel)]; kernel_rfl) | (rw [if_neg (by decide +kernel)]; exact ⟨rfl, rfl⟩))
  (fun os started H enc _ => lifted os started H enc)
end polyDivsP
/-- for every number and two lists of naturals: in a small group, of lists up to 8, how often the second polynomial goes into the first, and what is left: times, and what is left, it is the first by the document's sums and products, and less is left than goes; an error where the second is 0; no condition. -/
theorem polyDivs_holds : Rows.PolyDivsSaid := polyDivsP.over
end Go.Proofs.YthnpeebnmommbaaGreat
