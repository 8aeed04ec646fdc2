/- PolyDoes: for every number, two lists of naturals and a natural: in a small group, of lists up to 8, the polynomial trimmed, what it is at the place, and the sum and the product of both are the document's; no condition. -/
import Derived.Test.YthnpeebnmommbaaGreatPZ
import Derived.Test.YthnpeebnmommbaaGreatGU
namespace Go.Proofs.YthnpeebnmommbaaGreat
open Go.ChangeShapes Go.WideShapes Go.ChangeAt Go.RowKit
namespace polyDoesP
set_option linter.unusedVariables false
theorem eq_yesD (X : Nat) : decide (X % 2 ^ 256 = X % 2 ^ 256) = true := decide_eq_true rfl
set_option maxRecDepth 100000 in
set_option maxHeartbeats 2000000 in
theorem core0 (a0 : Int) (n c m ce x : Nat) (ab ae : Option Addr) (w : World) (h : 8 < n ∨ 8 < m) :
  Calls Tryz.prog 3 #[.int .i64 a0, .agg #[.slice ab n c, .slice ae m ce], .agg (natC x)] w fun e w' => e = .returned (.bool true) ∧ Below w.heap.size w w' := by
 have haw := awake12_any
 go_enter Tryz.func3, Tryz.ntmps3
 (repeat ((fail_if_success with_reducible refine rg ?_); go_step))
 refine wp_region_pw ?_
 refine pw_boxr (by rfl) 23 _ rfl (#[.slice ab n c, .slice ae m ce]) rfl ?_
 intro g4 z0 n0 r4 k
 simp only [Act.put, pu]
 have b4 : w.heap.size ≤ g4 := n0
 clear n0
 have sb := k.below w.heap.size (Nat.le_refl _) (by simp)
 clear k
 refine pw_boxr (by rfl) 26 _ rfl (_) rfl ?_
 intro g5 z1 n0 r5 k
 simp only [Act.put, pu]
 have d4x5 := Nat.lt_of_lt_of_le r4.lt n0
 have b5 := Nat.le_trans sb.size n0
 clear n0
 replace r4 := k.row r4 (by simp <;> omega)
 replace sb := sb.trans (k.below w.heap.size sb.size (by simp <;> omega))
 clear k
 refine pw_value (by rfl) (.bool false) (fun _ => rfl) ?_
 simp only [Act.put, pu]
 refine pw_nil ?_
 (repeat ((fail_if_success with_reducible refine rg ?_); go_step))
 refine wp_region_ewb (by kernel_rfl) [] [(0, false), (1, false), (2, false), (3, false), (4, false), (5, false)] ?_ (by kernel_rfl)
 have or4 := r4
 have or5 := r5
 have cb := below_self sb
 have osb := sb
 refine ew_value (by rfl) (.pointer (some ⟨g4, 0, none⟩)) (exec_index 23 _ _ rfl g4 rfl 0 2 rfl (by decide) _ Tryz.underlying23 Tryz.sizeOf22) ?_
 simp only [Act.put, pu]
 refine ew_loadk (by rfl) 22 _ rfl _ (0) rfl (fun _ hb => (or4.belowAll hb).r) (.slice ab n c) rfl Tryz.isAgg22 ?_
 simp only [Act.put, pu]
 refine ew_value (by rfl) (.pointer (some ⟨g4, 1, none⟩)) (exec_index 23 _ _ rfl g4 rfl 1 2 rfl (by decide) _ Tryz.underlying23 Tryz.sizeOf22) ?_
 simp only [Act.put, pu]
 refine ew_loadk (by rfl) 22 _ rfl _ (1) rfl (fun _ hb => (or4.belowAll hb).r) (.slice ae m ce) rfl Tryz.isAgg22 ?_
 simp only [Act.put, pu]
 refine ew_as (by rfl) rfl rfl ?_
 simp only [Act.put, pu]
 refine ew_as (by rfl) rfl rfl ?_
 simp only [Act.put, pu]
 refine ew_nil ?_
 intro wz hqb
 replace r4 := r4.belowAll hqb
 replace r5 := r5.belowAll hqb
 replace sb := below_on sb (Nat.le_refl _) hqb
 clear hqb cb osb or4 or5
 clear r4
 by_cases h1 : 8 < n
 ·(repeat ((fail_if_success with_reducible refine rg ?_); go_step))
  refine wp_region_pw ?_
  refine pw_mv (by rfl) rfl rfl ?_
  simp only [Act.put, pu]
  refine pw_value (by rfl) (.int .i64 n) (exec_len_s 22 _ rfl (ab) (n) (c) rfl sl_natsX) ?_
  simp only [Act.put, pu]
  refine pw_value (by rfl) (.bool true) (exec_gt_i _ _ _ _ rfl n 8 rfl rfl true (decide_eq_true (by omega))) ?_
  simp only [Act.put, pu]
  refine pw_mv (by rfl) rfl rfl ?_
  simp only [Act.put, pu]
  refine pw_skip (by rfl) ?_
  simp only [Act.put, pu]
  refine pw_skip (by rfl) ?_
  simp only [Act.put, pu]
  refine pw_skip (by rfl) ?_
  simp only [Act.put, pu]
  refine pw_pick (by rfl) true (v := .bool true) rfl rfl rfl ?_
  simp only [Act.put, pu]
  refine pw_nil ?_
  (repeat ((fail_if_success with_reducible refine rg ?_); go_step))
  refine wp_region_pw ?_
  refine pw_callB (by rfl) 6 _ _ rfl Tryz.func6 (by kernel_rfl) #[] rfl _ (haw _) ?_
  intro z3000 k
  simp only [Act.put, pu]
  replace sb := sb.trans (k.below w.heap.size sb.size (by simp <;> omega))
  clear k
  refine pw_as (by rfl) rfl rfl ?_
  simp only [Act.put, pu]
  refine pw_nil ?_
  go_wp2
  go_ret
  exact ⟨rfl, sb⟩
 ·(repeat ((fail_if_success with_reducible refine rg ?_); go_step))
  refine wp_region_pw ?_
  refine pw_mv (by rfl) rfl rfl ?_
  simp only [Act.put, pu]
  refine pw_value (by rfl) (.int .i64 n) (exec_len_s 22 _ rfl (ab) (n) (c) rfl sl_natsX) ?_
  simp only [Act.put, pu]
  refine pw_value (by rfl) (.bool false) (exec_gt_i _ _ _ _ rfl n 8 rfl rfl false (decide_eq_false (by omega))) ?_
  simp only [Act.put, pu]
  refine pw_mv (by rfl) rfl rfl ?_
  simp only [Act.put, pu]
  refine pw_mv (by rfl) rfl rfl ?_
  simp only [Act.put, pu]
  refine pw_value (by rfl) (.int .i64 m) (exec_len_s 22 _ rfl (ae) (m) (ce) rfl sl_natsX) ?_
  simp only [Act.put, pu]
  refine pw_value (by rfl) (.bool true) (exec_gt_i _ _ _ _ rfl m 8 rfl rfl true (decide_eq_true (by omega))) ?_
  simp only [Act.put, pu]
  refine pw_pick (by rfl) false (v := .bool true) rfl rfl rfl ?_
  simp only [Act.put, pu]
  refine pw_nil ?_
  (repeat ((fail_if_success with_reducible refine rg ?_); go_step))
  refine wp_region_pw ?_
  refine pw_callB (by rfl) 6 _ _ rfl Tryz.func6 (by kernel_rfl) #[] rfl _ (haw _) ?_
  intro z3000 k
  simp only [Act.put, pu]
  replace sb := sb.trans (k.below w.heap.size sb.size (by simp <;> omega))
  clear k
  refine pw_as (by rfl) rfl rfl ?_
  simp only [Act.put, pu]
  refine pw_nil ?_
  go_wp2
  go_ret
  exact ⟨rfl, sb⟩
set_option maxRecDepth 100000 in
set_option maxHeartbeats 2000000 in
theorem core1 (a0 : Int) (PP QQ GG n c m ce x : Nat) [NeZero QQ] (ab ae : Option Addr) (F E : Nat → Nat) (gb ob ge oe : Nat) (bcs ecs : Array Value) (tb te : TypeId) (w : World) (hn : n ≤ 8) (hm : m ≤ 8) (hx : x < 2 ^ 256) (q : FdQ QQ) (hq : QQ < 4611686018427387904) (hna : NatsAt w ab n F gb ob bcs tb) (hnb : NatsAt w ae m E ge oe ecs te)
  (hsm : ∀ w', Calls Tryz.prog 7 #[.int .i64 a0] w' fun e w2 => ∃ g gr gf, e = .returned (.tuple #[.pointer (some ⟨g, 0, none⟩), .int .i64 (QQ : Nat), .bool true]) ∧ GrpAt w2 g gr gf PP QQ GG ∧ Below w'.heap.size w' w2) :
  Calls Tryz.prog 3 #[.int .i64 a0, .agg #[.slice ab n c, .slice ae m ce], .agg (natC x)] w fun e w' => e = .returned (.bool true) ∧ Below w.heap.size w w' := by
 have haw := awake12_any
 have la : ((fl n F : List (Fin QQ))).length = n := fl_length _ _
 have lb : ((fl m E : List (Fin QQ))).length = m := fl_length _ _
 have lt := ptrim_le (fl n F : List (Fin QQ))
 have l1s := psum_length (fl n F : List (Fin QQ)) (fl m E : List (Fin QQ))
 have l1m := pmul_length (fl n F : List (Fin QQ)) (fl m E : List (Fin QQ))
 rw [la, lb] at l1s l1m
 rw [la] at lt
 have hal := fun w' (hb : Below w.heap.size w w') => rallL (Q := QQ) ab n c F gb ob bcs tb w' (by omega) q hq (hna.below hb)
 have hbl := fun w' (hb : Below w.heap.size w w') => rallL (Q := QQ) ae m ce E ge oe ecs te w' (by omega) q hq (hnb.below hb)
 have htr := fun g gr gf w' (hb : Below w.heap.size w w') (hg : GrpAt w' g gr gf PP QQ GG) => trimQ (.slice ab n c) (fl n F : List (Fin QQ)) q hg ((hna.below hb).pl (by omega))
 have hev := fun g gr gf w' (hb : Below w.heap.size w w') (hg : GrpAt w' g gr gf PP QQ GG) => evalQ (.slice ab n c) (fl n F : List (Fin QQ)) x hx q hg ((hna.below hb).pl (by omega))
 have hadd := fun g gr gf w' (hb : Below w.heap.size w w') (hg : GrpAt w' g gr gf PP QQ GG) => addQ (.slice ab n c) (.slice ae m ce) (fl n F : List (Fin QQ)) (fl m E : List (Fin QQ)) q hg ((hna.below hb).pl (by omega)) ((hnb.below hb).pl (by omega))
 have hmul := fun g gr gf w' (hb : Below w.heap.size w w') (hg : GrpAt w' g gr gf PP QQ GG) => mulQ (.slice ab n c) (.slice ae m ce) (fl n F : List (Fin QQ)) (fl m E : List (Fin QQ)) q hg ((hna.below hb).pl (by omega)) ((hnb.below hb).pl (by omega))
 have rtr := fun w' (v : Value) (h : IlAt w' v (fl n F : List (Fin QQ))) => rtrimL v (fl n F : List (Fin QQ)) w' (by omega) h
 have rev := fun w' (v : Value) (h : IlAt w' v (fl n F : List (Fin QQ))) => revL v (fl n F : List (Fin QQ)) (x % QQ) w' (by omega) q hq h
 have rad := fun w' (v v' : Value) (h : IlAt w' v (fl n F : List (Fin QQ))) (h' : IlAt w' v' (fl m E : List (Fin QQ))) => raddL v v' _ _ w' (by omega) (by omega) q hq h h'
 have rmu := fun w' (v v' : Value) (h : IlAt w' v (fl n F : List (Fin QQ))) (h' : IlAt w' v' (fl m E : List (Fin QQ))) => rmulL v v' _ _ w' (by omega) (by omega) q hq h h'
 have his1 := fun w' (v v' : Value) (h : PlAt w' v (ptrim (fl n F : List (Fin QQ)))) (h' : IlAt w' v' (ptrim (fl n F : List (Fin QQ)))) => is_any v v' _ w' (by omega) hq h h'
 have his2 := fun w' (v v' : Value) (h : PlAt w' v (psum (fl n F : List (Fin QQ)) (fl m E : List (Fin QQ)))) (h' : IlAt w' v' (psum (fl n F : List (Fin QQ)) (fl m E : List (Fin QQ)))) => is_any v v' _ w' (by omega) hq h h'
 have his3 := fun w' (v v' : Value) (h : PlAt w' v (pmul (fl n F : List (Fin QQ)) (fl m E : List (Fin QQ)))) (h' : IlAt w' v' (pmul (fl n F : List (Fin QQ)) (fl m E : List (Fin QQ)))) => is_any v v' _ w' (by omega) hq h h'
 have hby := fun w' => rby_any x QQ w' hx q.pos hq
 rw [fi_mod] at rev
 have hVl := (pev (fi x) (fl n F : List (Fin QQ))).isLt
 generalize (pev (fi x) (fl n F : List (Fin QQ))).val = VV at *
 have hof := fun w' => of12_any VV w' (by omega)
 clear la lb lt l1s l1m hna hnb hx
 go_enter Tryz.func3, Tryz.ntmps3
 (repeat ((fail_if_success with_reducible refine rg ?_); go_step))
 refine wp_region_pw ?_
 refine pw_boxr (by rfl) 23 _ rfl (#[.slice ab n c, .slice ae m ce]) rfl ?_
 intro g4 z0 n0 r4 k
 simp only [Act.put, pu]
 have b4 : w.heap.size ≤ g4 := n0
 clear n0
 have sb := k.below w.heap.size (Nat.le_refl _) (by simp)
 clear k
 refine pw_boxr (by rfl) 26 _ rfl (_) rfl ?_
 intro g5 z1 n0 r5 k
 simp only [Act.put, pu]
 have d4x5 := Nat.lt_of_lt_of_le r4.lt n0
 have b5 := Nat.le_trans sb.size n0
 clear n0
 replace r4 := k.row r4 (by simp <;> omega)
 replace sb := sb.trans (k.below w.heap.size sb.size (by simp <;> omega))
 clear k
 refine pw_value (by rfl) (.bool false) (fun _ => rfl) ?_
 simp only [Act.put, pu]
 refine pw_nil ?_
 (repeat ((fail_if_success with_reducible refine rg ?_); go_step))
 refine wp_region_ewb (by kernel_rfl) [] [(0, false), (1, false), (2, false), (3, false), (4, false), (5, false)] ?_ (by kernel_rfl)
 have or4 := r4
 have or5 := r5
 have cb := below_self sb
 have osb := sb
 refine ew_value (by rfl) (.pointer (some ⟨g4, 0, none⟩)) (exec_index 23 _ _ rfl g4 rfl 0 2 rfl (by decide) _ Tryz.underlying23 Tryz.sizeOf22) ?_
 simp only [Act.put, pu]
 refine ew_loadk (by rfl) 22 _ rfl _ (0) rfl (fun _ hb => (or4.belowAll hb).r) (.slice ab n c) rfl Tryz.isAgg22 ?_
 simp only [Act.put, pu]
 refine ew_value (by rfl) (.pointer (some ⟨g4, 1, none⟩)) (exec_index 23 _ _ rfl g4 rfl 1 2 rfl (by decide) _ Tryz.underlying23 Tryz.sizeOf22) ?_
 simp only [Act.put, pu]
 refine ew_loadk (by rfl) 22 _ rfl _ (1) rfl (fun _ hb => (or4.belowAll hb).r) (.slice ae m ce) rfl Tryz.isAgg22 ?_
 simp only [Act.put, pu]
 refine ew_as (by rfl) rfl rfl ?_
 simp only [Act.put, pu]
 refine ew_as (by rfl) rfl rfl ?_
 simp only [Act.put, pu]
 refine ew_nil ?_
 intro wz hqb
 replace r4 := r4.belowAll hqb
 replace r5 := r5.belowAll hqb
 replace sb := below_on sb (Nat.le_refl _) hqb
 clear hqb cb osb or4 or5
 clear r4
 (repeat ((fail_if_success with_reducible refine rg ?_); go_step))
 refine wp_region_pw ?_
 refine pw_mv (by rfl) rfl rfl ?_
 simp only [Act.put, pu]
 refine pw_value (by rfl) (.int .i64 n) (exec_len_s 22 _ rfl (ab) (n) (c) rfl sl_natsX) ?_
 simp only [Act.put, pu]
 refine pw_value (by rfl) (.bool false) (exec_gt_i _ _ _ _ rfl n 8 rfl rfl false (decide_eq_false (by omega))) ?_
 simp only [Act.put, pu]
 refine pw_mv (by rfl) rfl rfl ?_
 simp only [Act.put, pu]
 refine pw_mv (by rfl) rfl rfl ?_
 simp only [Act.put, pu]
 refine pw_value (by rfl) (.int .i64 m) (exec_len_s 22 _ rfl (ae) (m) (ce) rfl sl_natsX) ?_
 simp only [Act.put, pu]
 refine pw_value (by rfl) (.bool false) (exec_gt_i _ _ _ _ rfl m 8 rfl rfl false (decide_eq_false (by omega))) ?_
 simp only [Act.put, pu]
 refine pw_pick (by rfl) false (v := .bool false) rfl rfl rfl ?_
 simp only [Act.put, pu]
 refine pw_nil ?_
 (repeat ((fail_if_success with_reducible refine rg ?_); go_step))
 refine wp_region_pw ?_
 refine pw_mv (by rfl) rfl rfl ?_
 simp only [Act.put, pu]
 refine pw_callE (by rfl) 7 _ _ rfl Tryz.func7 (by kernel_rfl) #[.int .i64 a0] rfl (hsm _) ?_
 rintro _ z4001 ⟨g, gr, gf, rfl, hg, hb⟩
 refine ⟨_, rfl, ?_⟩
 simp only [Act.put, pu]
 have k := Kept.ofBelow hb
 clear hb
 replace r5 := k.row r5 (by simp <;> omega)
 replace sb := sb.trans (k.below w.heap.size sb.size (by simp <;> omega))
 clear k
 refine pw_mv (by rfl) rfl rfl ?_
 simp only [Act.put, pu]
 refine pw_ext (by rfl) rfl rfl rfl ?_
 simp only [Act.put, pu]
 refine pw_ext (by rfl) rfl rfl rfl ?_
 simp only [Act.put, pu]
 refine pw_ext (by rfl) rfl rfl rfl ?_
 simp only [Act.put, pu]
 refine pw_as (by rfl) rfl rfl ?_
 simp only [Act.put, pu]
 refine pw_as (by rfl) rfl rfl ?_
 simp only [Act.put, pu]
 refine pw_as (by rfl) rfl rfl ?_
 simp only [Act.put, pu]
 refine pw_nil ?_
 clear hsm
 (repeat ((fail_if_success with_reducible refine rg ?_); go_step))
 refine wp_region_pw ?_
 refine pw_mv (by rfl) rfl rfl ?_
 simp only [Act.put, pu]
 refine pw_mv (by rfl) rfl rfl ?_
 simp only [Act.put, pu]
 refine pw_callE (by rfl) 8 _ _ rfl Tryz.func8 (by kernel_rfl) #[.slice ab n c, .int .i64 (QQ : Nat)] rfl (hal _ sb) ?_
 rintro _ z5002 ⟨vs, rfl, hs, hb⟩
 refine ⟨_, rfl, ?_⟩
 simp only [Act.put, pu]
 have k := Kept.ofBelow hb
 clear hb
 replace r5 := k.row r5 (by simp <;> omega)
 replace hg := hg.below k.nil
 replace sb := sb.trans (k.below w.heap.size sb.size (by simp <;> omega))
 clear k
 refine pw_mv (by rfl) rfl rfl ?_
 simp only [Act.put, pu]
 refine pw_mv (by rfl) rfl rfl ?_
 simp only [Act.put, pu]
 refine pw_callE (by rfl) 8 _ _ rfl Tryz.func8 (by kernel_rfl) #[.slice ae m ce, .int .i64 (QQ : Nat)] rfl (hbl _ sb) ?_
 rintro _ z5005 ⟨vt, rfl, ht, hb⟩
 refine ⟨_, rfl, ?_⟩
 simp only [Act.put, pu]
 have k := Kept.ofBelow hb
 clear hb
 replace r5 := k.row r5 (by simp <;> omega)
 replace hg := hg.below k.nil
 replace hs := hs.below k.nil
 replace sb := sb.trans (k.below w.heap.size sb.size (by simp <;> omega))
 clear k
 refine pw_as (by rfl) rfl rfl ?_
 simp only [Act.put, pu]
 refine pw_as (by rfl) rfl rfl ?_
 simp only [Act.put, pu]
 refine pw_nil ?_
 clear hal hbl
 (repeat ((fail_if_success with_reducible refine rg ?_); go_step))
 refine wp_region_ewb (by kernel_rfl) [] [(0, false), (1, false), (2, false), (3, false), (5, false), (4, true), (6, true), (7, true), (8, false), (9, false), (10, false), (11, false), (12, false), (13, false), (14, false), (15, false), (16, false), (17, false), (18, false), (19, false), (20, false), (21, false), (22, false), (23, false), (24, false), (25, false), (26, false), (28, false), (29, false), (30, false), (27, true), (31, true), (32, true), (33, false), (34, false), (35, false), (36, false), (37, false), (39, false), (40, false), (41, false), (38, true), (42, true), (43, true), (44, false), (45, false), (46, false), (47, false), (48, false)] ?_ (by kernel_rfl)
 have or5 := r5
 have cb := below_self sb
 have osb := sb
 have ohg := hg
 have ohs := hs
 have oht := ht
 refine ew_mv (by rfl) rfl rfl ?_
 simp only [Act.put, pu]
 refine ew_mv (by rfl) rfl rfl ?_
 simp only [Act.put, pu]
 refine ew_mv (by rfl) rfl rfl ?_
 simp only [Act.put, pu]
 refine ew_mv (by rfl) rfl rfl ?_
 simp only [Act.put, pu]
 refine ew_mv (by rfl) rfl rfl ?_
 simp only [Act.put, pu]
 refine ew_callE (by rfl) 10 _ _ rfl Tryz.func10 (by kernel_rfl) #[.pointer (some ⟨g, 0, none⟩), .slice ab n c] rfl ?_
 intro wa4 hqb
 replace r5 := r5.belowAll hqb
 replace hg := hg.below hqb
 replace hs := hs.below hqb
 replace ht := ht.below hqb
 replace sb := below_on sb (Nat.le_refl _) hqb
 replace cb := below_on cb (Nat.le_refl _) hqb
 clear hqb
 refine (htr g gr gf _ sb hg).mono ?_
 rintro _ wb4 ⟨v1, rfl, h1, hb⟩
 refine ⟨_, rfl, fun _ => below_on cb (Nat.le_refl _) hb, ?_⟩
 simp only [Act.put, pu]
 replace r5 := r5.belowAll hb
 replace hg := hg.below hb
 replace hs := hs.below hb
 replace ht := ht.below hb
 replace sb := below_on sb (Nat.le_refl _) hb
 replace cb := below_on cb (Nat.le_refl _) hb
 clear hb
 refine ew_callE (by rfl) 11 _ _ rfl Tryz.func11 (by kernel_rfl) #[vs] rfl ?_
 intro wa6 hqb
 replace r5 := r5.belowAll hqb
 replace hg := hg.below hqb
 replace hs := hs.below hqb
 replace ht := ht.below hqb
 replace h1 := h1.below hqb
 replace sb := below_on sb (Nat.le_refl _) hqb
 replace cb := below_on cb (Nat.le_refl _) hqb
 clear hqb
 refine (rtr _ vs hs).mono ?_
 rintro _ wb6 ⟨v2, rfl, h2, hb⟩
 refine ⟨_, rfl, fun _ => below_on cb (Nat.le_refl _) hb, ?_⟩
 simp only [Act.put, pu]
 replace r5 := r5.belowAll hb
 replace hg := hg.below hb
 replace hs := hs.below hb
 replace ht := ht.below hb
 replace h1 := h1.below hb
 replace sb := below_on sb (Nat.le_refl _) hb
 replace cb := below_on cb (Nat.le_refl _) hb
 clear hb
 refine ew_callE (by rfl) 9 _ _ rfl Tryz.func9 (by kernel_rfl) #[v1, v2] rfl ?_
 intro wa7 hqb
 replace r5 := r5.belowAll hqb
 replace hg := hg.below hqb
 replace hs := hs.below hqb
 replace ht := ht.below hqb
 replace h1 := h1.below hqb
 replace h2 := h2.below hqb
 replace sb := below_on sb (Nat.le_refl _) hqb
 replace cb := below_on cb (Nat.le_refl _) hqb
 clear hqb
 refine (his1 _ v1 v2 h1 h2).mono ?_
 rintro _ wb7 ⟨rfl, hb⟩
 refine ⟨_, rfl, fun _ => below_on cb (Nat.le_refl _) hb, ?_⟩
 simp only [Act.put, pu]
 replace r5 := r5.belowAll hb
 replace hg := hg.below hb
 replace hs := hs.below hb
 replace ht := ht.below hb
 replace h1 := h1.below hb
 replace h2 := h2.below hb
 replace sb := below_on sb (Nat.le_refl _) hb
 replace cb := below_on cb (Nat.le_refl _) hb
 clear hb
 refine ew_pick (by rfl) true (v := .bool true) rfl rfl rfl ?_
 simp only [Act.put, pu]
 refine ew_mv (by rfl) rfl rfl ?_
 simp only [Act.put, pu]
 refine ew_mv (by rfl) rfl rfl ?_
 simp only [Act.put, pu]
 refine ew_mv (by rfl) rfl rfl ?_
 simp only [Act.put, pu]
 refine ew_loadm (by rfl) 26 _ rfl _ 0 rfl (fun _ hb => (or5.belowAll hb).r) _ (part_all _) _ Tryz.underlying26 rfl size_nat ?_
 simp only [Act.put, pu]
 refine ew_call (by rfl) 12 _ _ rfl Tryz.func12 (by kernel_rfl) #[.pointer (some ⟨g, 0, none⟩), .slice ab n c, .agg (natC x)] rfl _ (fun w' hb => hev g gr gf w' (below_on osb (Nat.le_refl _) hb) (ohg.below hb)) ?_
 simp only [Act.put, pu]
 refine ew_mv (by rfl) rfl rfl ?_
 simp only [Act.put, pu]
 refine ew_loadm (by rfl) 26 _ rfl _ 0 rfl (fun _ hb => (or5.belowAll hb).r) _ (part_all _) _ Tryz.underlying26 rfl size_nat ?_
 simp only [Act.put, pu]
 refine ew_mv (by rfl) rfl rfl ?_
 simp only [Act.put, pu]
 refine ew_call (by rfl) 15 _ _ rfl Tryz.func15 (by kernel_rfl) #[.agg (natC x), .int .i64 (QQ : Nat)] rfl _ (fun w _ => hby w) ?_
 simp only [Act.put, pu]
 refine ew_mv (by rfl) rfl rfl ?_
 simp only [Act.put, pu]
 refine ew_call (by rfl) 14 _ _ rfl Tryz.func14 (by kernel_rfl) #[vs, .int .i64 (x % QQ : Nat), .int .i64 (QQ : Nat)] rfl _ (fun w' hb => rev w' vs (ohs.below hb)) ?_
 simp only [Act.put, pu]
 refine ew_call (by rfl) 13 _ _ rfl Tryz.func13 (by kernel_rfl) #[.int .i64 (VV : Nat)] rfl _ (fun w _ => hof w) ?_
 simp only [Act.put, pu]
 refine ew_value (by rfl) (.bool true) (fun w' => (exec_eql_nat _ _ _ rfl VV VV rfl rfl w').trans (by rw [eq_yesD])) ?_
 simp only [Act.put, pu]
 refine ew_pick (by rfl) true (v := .bool true) rfl rfl rfl ?_
 simp only [Act.put, pu]
 refine ew_mv (by rfl) rfl rfl ?_
 simp only [Act.put, pu]
 refine ew_mv (by rfl) rfl rfl ?_
 simp only [Act.put, pu]
 refine ew_mv (by rfl) rfl rfl ?_
 simp only [Act.put, pu]
 refine ew_mv (by rfl) rfl rfl ?_
 simp only [Act.put, pu]
 refine ew_mv (by rfl) rfl rfl ?_
 simp only [Act.put, pu]
 refine ew_mv (by rfl) rfl rfl ?_
 simp only [Act.put, pu]
 refine ew_mv (by rfl) rfl rfl ?_
 simp only [Act.put, pu]
 refine ew_callE (by rfl) 16 _ _ rfl Tryz.func16 (by kernel_rfl) #[.pointer (some ⟨g, 0, none⟩), .slice ab n c, .slice ae m ce] rfl ?_
 intro wa27 hqb
 replace r5 := r5.belowAll hqb
 replace hg := hg.below hqb
 replace hs := hs.below hqb
 replace ht := ht.below hqb
 replace h1 := h1.below hqb
 replace h2 := h2.below hqb
 replace sb := below_on sb (Nat.le_refl _) hqb
 replace cb := below_on cb (Nat.le_refl _) hqb
 clear hqb
 refine (hadd g gr gf _ sb hg).mono ?_
 rintro _ wb27 ⟨v3, rfl, h3, hb⟩
 refine ⟨_, rfl, fun _ => below_on cb (Nat.le_refl _) hb, ?_⟩
 simp only [Act.put, pu]
 replace r5 := r5.belowAll hb
 replace hg := hg.below hb
 replace hs := hs.below hb
 replace ht := ht.below hb
 replace h1 := h1.below hb
 replace h2 := h2.below hb
 replace sb := below_on sb (Nat.le_refl _) hb
 replace cb := below_on cb (Nat.le_refl _) hb
 clear hb
 refine ew_callE (by rfl) 17 _ _ rfl Tryz.func17 (by kernel_rfl) #[vs, vt, .int .i64 (QQ : Nat)] rfl ?_
 intro wa31 hqb
 replace r5 := r5.belowAll hqb
 replace hg := hg.below hqb
 replace hs := hs.below hqb
 replace ht := ht.below hqb
 replace h1 := h1.below hqb
 replace h2 := h2.below hqb
 replace h3 := h3.below hqb
 replace sb := below_on sb (Nat.le_refl _) hqb
 replace cb := below_on cb (Nat.le_refl _) hqb
 clear hqb
 refine (rad _ vs vt hs ht).mono ?_
 rintro _ wb31 ⟨v4, rfl, h4, hb⟩
 refine ⟨_, rfl, fun _ => below_on cb (Nat.le_refl _) hb, ?_⟩
 simp only [Act.put, pu]
 replace r5 := r5.belowAll hb
 replace hg := hg.below hb
 replace hs := hs.below hb
 replace ht := ht.below hb
 replace h1 := h1.below hb
 replace h2 := h2.below hb
 replace h3 := h3.below hb
 replace sb := below_on sb (Nat.le_refl _) hb
 replace cb := below_on cb (Nat.le_refl _) hb
 clear hb
 refine ew_callE (by rfl) 9 _ _ rfl Tryz.func9 (by kernel_rfl) #[v3, v4] rfl ?_
 intro wa32 hqb
 replace r5 := r5.belowAll hqb
 replace hg := hg.below hqb
 replace hs := hs.below hqb
 replace ht := ht.below hqb
 replace h1 := h1.below hqb
 replace h2 := h2.below hqb
 replace h3 := h3.below hqb
 replace h4 := h4.below hqb
 replace sb := below_on sb (Nat.le_refl _) hqb
 replace cb := below_on cb (Nat.le_refl _) hqb
 clear hqb
 refine (his2 _ v3 v4 h3 h4).mono ?_
 rintro _ wb32 ⟨rfl, hb⟩
 refine ⟨_, rfl, fun _ => below_on cb (Nat.le_refl _) hb, ?_⟩
 simp only [Act.put, pu]
 replace r5 := r5.belowAll hb
 replace hg := hg.below hb
 replace hs := hs.below hb
 replace ht := ht.below hb
 replace h1 := h1.below hb
 replace h2 := h2.below hb
 replace h3 := h3.below hb
 replace h4 := h4.below hb
 replace sb := below_on sb (Nat.le_refl _) hb
 replace cb := below_on cb (Nat.le_refl _) hb
 clear hb
 refine ew_pick (by rfl) true (v := .bool true) rfl rfl rfl ?_
 simp only [Act.put, pu]
 refine ew_mv (by rfl) rfl rfl ?_
 simp only [Act.put, pu]
 refine ew_mv (by rfl) rfl rfl ?_
 simp only [Act.put, pu]
 refine ew_mv (by rfl) rfl rfl ?_
 simp only [Act.put, pu]
 refine ew_mv (by rfl) rfl rfl ?_
 simp only [Act.put, pu]
 refine ew_mv (by rfl) rfl rfl ?_
 simp only [Act.put, pu]
 refine ew_mv (by rfl) rfl rfl ?_
 simp only [Act.put, pu]
 refine ew_mv (by rfl) rfl rfl ?_
 simp only [Act.put, pu]
 refine ew_callE (by rfl) 18 _ _ rfl Tryz.func18 (by kernel_rfl) #[.pointer (some ⟨g, 0, none⟩), .slice ab n c, .slice ae m ce] rfl ?_
 intro wa38 hqb
 replace r5 := r5.belowAll hqb
 replace hg := hg.below hqb
 replace hs := hs.below hqb
 replace ht := ht.below hqb
 replace h1 := h1.below hqb
 replace h2 := h2.below hqb
 replace h3 := h3.below hqb
 replace h4 := h4.below hqb
 replace sb := below_on sb (Nat.le_refl _) hqb
 replace cb := below_on cb (Nat.le_refl _) hqb
 clear hqb
 refine (hmul g gr gf _ sb hg).mono ?_
 rintro _ wb38 ⟨v5, rfl, h5, hb⟩
 refine ⟨_, rfl, fun _ => below_on cb (Nat.le_refl _) hb, ?_⟩
 simp only [Act.put, pu]
 replace r5 := r5.belowAll hb
 replace hg := hg.below hb
 replace hs := hs.below hb
 replace ht := ht.below hb
 replace h1 := h1.below hb
 replace h2 := h2.below hb
 replace h3 := h3.below hb
 replace h4 := h4.below hb
 replace sb := below_on sb (Nat.le_refl _) hb
 replace cb := below_on cb (Nat.le_refl _) hb
 clear hb
 refine ew_callE (by rfl) 19 _ _ rfl Tryz.func19 (by kernel_rfl) #[vs, vt, .int .i64 (QQ : Nat)] rfl ?_
 intro wa42 hqb
 replace r5 := r5.belowAll hqb
 replace hg := hg.below hqb
 replace hs := hs.below hqb
 replace ht := ht.below hqb
 replace h1 := h1.below hqb
 replace h2 := h2.below hqb
 replace h3 := h3.below hqb
 replace h4 := h4.below hqb
 replace h5 := h5.below hqb
 replace sb := below_on sb (Nat.le_refl _) hqb
 replace cb := below_on cb (Nat.le_refl _) hqb
 clear hqb
 refine (rmu _ vs vt hs ht).mono ?_
 rintro _ wb42 ⟨v6, rfl, h6, hb⟩
 refine ⟨_, rfl, fun _ => below_on cb (Nat.le_refl _) hb, ?_⟩
 simp only [Act.put, pu]
 replace r5 := r5.belowAll hb
 replace hg := hg.below hb
 replace hs := hs.below hb
 replace ht := ht.below hb
 replace h1 := h1.below hb
 replace h2 := h2.below hb
 replace h3 := h3.below hb
 replace h4 := h4.below hb
 replace h5 := h5.below hb
 replace sb := below_on sb (Nat.le_refl _) hb
 replace cb := below_on cb (Nat.le_refl _) hb
 clear hb
 refine ew_callE (by rfl) 9 _ _ rfl Tryz.func9 (by kernel_rfl) #[v5, v6] rfl ?_
 intro wa43 hqb
 replace r5 := r5.belowAll hqb
 replace hg := hg.below hqb
 replace hs := hs.below hqb
 replace ht := ht.below hqb
 replace h1 := h1.below hqb
 replace h2 := h2.below hqb
 replace h3 := h3.below hqb
 replace h4 := h4.below hqb
 replace h5 := h5.below hqb
 replace h6 := h6.below hqb
 replace sb := below_on sb (Nat.le_refl _) hqb
 replace cb := below_on cb (Nat.le_refl _) hqb
 clear hqb
 refine (his3 _ v5 v6 h5 h6).mono ?_
 rintro _ wb43 ⟨rfl, hb⟩
 refine ⟨_, rfl, fun _ => below_on cb (Nat.le_refl _) hb, ?_⟩
 simp only [Act.put, pu]
 replace r5 := r5.belowAll hb
 replace hg := hg.below hb
 replace hs := hs.below hb
 replace ht := ht.below hb
 replace h1 := h1.below hb
 replace h2 := h2.below hb
 replace h3 := h3.below hb
 replace h4 := h4.below hb
 replace h5 := h5.below hb
 replace h6 := h6.below hb
 replace sb := below_on sb (Nat.le_refl _) hb
 replace cb := below_on cb (Nat.le_refl _) hb
 clear hb
 refine ew_pick (by rfl) true (v := .bool true) rfl rfl rfl ?_
 simp only [Act.put, pu]
 refine ew_mv (by rfl) rfl rfl ?_
 simp only [Act.put, pu]
 refine ew_call (by rfl) 6 _ _ rfl Tryz.func6 (by kernel_rfl) #[] rfl _ (fun w _ => haw w) ?_
 simp only [Act.put, pu]
 refine ew_pick (by rfl) true (v := .bool true) rfl rfl rfl ?_
 simp only [Act.put, pu]
 refine ew_as (by rfl) rfl rfl ?_
 simp only [Act.put, pu]
 refine ew_nil ?_
 intro wz hqb
 replace r5 := r5.belowAll hqb
 replace hg := hg.below hqb
 replace hs := hs.below hqb
 replace ht := ht.below hqb
 replace h1 := h1.below hqb
 replace h2 := h2.below hqb
 replace h3 := h3.below hqb
 replace h4 := h4.below hqb
 replace h5 := h5.below hqb
 replace h6 := h6.below hqb
 replace sb := below_on sb (Nat.le_refl _) hqb
 clear hqb cb osb ohg ohs oht or5
 go_wp2
 go_ret
 exact ⟨rfl, sb⟩
theorem walk (a0 : Int) (ab : Option Addr) (n c : Nat) (F : Nat → Nat) (gb ob : Nat) (bcs : Array Value) (tb : TypeId) (ae : Option Addr) (m ce : Nat) (E : Nat → Nat) (ge oe : Nat) (ecs : Array Value) (te : TypeId) (x : Nat) (w : World) (_ : -9223372036854775808 ≤ a0 ∧ a0 ≤ 9223372036854775807) (hna : NatsAt w ab n F gb ob bcs tb) (hnb : NatsAt w ae m E ge oe ecs te) (hx : x < 2 ^ 256) :
  Calls Tryz.prog 3 #[.int .i64 a0, .agg #[.slice ab n c, .slice ae m ce], .agg (natC x)] w fun e w' => e = .returned (.bool true) ∧ Below w.heap.size w w' := by
 by_cases h : 8 < n ∨ 8 < m
 ·exact core0 a0 n c m ce x ab ae w h
 have q := (sm_fd a0).1
 haveI : NeZero (smQ a0) := ⟨by have := q.pos; omega⟩
 exact core1 a0 (smP a0) (smQ a0) (smG a0) n c m ce x ab ae F E gb ob ge oe bcs ecs tb te w (by omega) (by omega) hx q (sm_fd a0).2 hna hnb (sml_any a0)
set_option maxRecDepth 100000 in
theorem lifted (os : Os) (started : os.Started) (H : Type) (enc : TypeId × Value → H) :
  ReturnsInHanded {} Tryz.checked os 3 .any (Rows.polyDoesSpec.pre6 enc Tryz.prog Tryz.f3 Rows.polyDoesRow.domain false) (Rows.polyDoesSpec.post enc Tryz.prog Tryz.f3 false true false false) := by
 refine returnsInHanded_of_change (C := Tryz.checked) own started (by kernel_rfl) Tryz.func3
  (ChangeSpec.witness6 (enc := enc) (C := Tryz.checked) false ⟨#[], #[.int .i64 0, .agg #[.slice none 0 0, .slice none 0 0], .agg #[.int .u64 0, .int .u64 0, .int .u64 0, .int .u64 0]], []⟩ 8 (by kernel_rfl) (by kernel_rfl) (by kernel_rfl) (by kernel_rfl)) ?_
 intro W base args ds gs before hval0 hW hcnd _
 have hval : ∀ (j : Nat) t v, Tryz.f3.params[j]? = some t → args[j]? = some v → Value.okWide Tryz.prog W .any base t v := hval0
 have hW' := hW
 obtain ⟨p, q, hA0, hV, rfl, hfz, hnd⟩ := hW
 have hA : DataW.TrodAll enc Tryz.prog W 0 (fun _ => true) true Tryz.f3.params.toList args.toList ds p := hA0
 rw [Tryz.params3] at hA hval
 obtain ⟨v0, vs0, d0, ds0, p0, q0, hargs, rfl, rfl, h0, r0⟩ := trodAll_cons hA
 obtain ⟨v1, vs1, d1, ds1, p1, q1, rfl, rfl, rfl, h1, r1⟩ := trodAll_cons r0
 obtain ⟨v2, vs2, d2, ds2, p2, q2, rfl, rfl, rfl, h2, r2⟩ := trodAll_cons r1
 obtain ⟨rfl, rfl, rfl⟩ := trodAll_nil r2
 obtain rfl : args = #[v0, v1, v2] := by cases args; simp_all
 obtain ⟨rfl, rfl⟩ := trodVars_none hV
 have k0 := h0
 have lt0 := lt_of_trod h0
 obtain ⟨a0, rfl, rfl, rfl, w0⟩ := open_int Tryz.underlying3 (hval 0 3 v0 rfl rfl) h0
 have k1 := h1
 have lt1 := lt_of_trod h1
 obtain ⟨ab1, n1, c1, F1, gb1, ob1, bcs1, tb1, ae1, m1, ce1, E1, ge1, oe1, ecs1, te1, rfl, hn1, hm1⟩ := open_two (hval 1 23 v1 rfl rfl) h1
 have k2 := h2
 have lt2 := lt_of_trod h2
 obtain ⟨N2, hN2, rfl⟩ := open_nat (hval 2 26 v2 rfl rfl) h2
 clear hA0 hval0
 refine (walk a0 ab1 n1 c1 F1 gb1 ob1 bcs1 tb1 ae1 m1 ce1 E1 ge1 oe1 ecs1 te1 N2 W (bounds_i64 w0) hn1 hm1 hN2).mono fun e W' ⟨he, bel⟩ => ?_
 subst he
 exact ⟨_, rfl, _, _, _, [], _, [], hW', trodAll_mk1 (shut_bool Tryz.underlying4 _), (trodAll_cons_mk (Below.trod laidOut (by kernel_rfl) (of_decide_eq_true (by kernel_rfl)) k0 bel lt0) (trodAll_cons_mk (Below.trod laidOut (by kernel_rfl) (of_decide_eq_true (by kernel_rfl)) k1 bel lt1) (trodAll_cons_mk (Below.trod laidOut (by kernel_rfl) (of_decide_eq_true (by kernel_rfl)) k2 bel lt2) trodAll_mk0))), rfl, bel.frame _, fun h => by cases h⟩
theorem over : Rows.polyDoesRow.holds Tryz.pinned (OpenSpec.ofChange Rows.polyDoesSpec) :=
 OpenClaim.holds_of_wide 3 Tryz.f3 rfl rfl rfl rfl rfl rfl rfl ⟨rfl, rfl, rfl, rfl, rfl⟩ rfl rfl rfl rfl rfl (by kernel_rfl) Tryz.func3 (by kernel_rfl)
  (of_decide_eq_true (by kernel_rfl)) (by unfold Func.isWrapper; first | (rw [if_pos (by decide +kernel)]; kernel_rfl) | (rw [if_neg (by decide +kernel)]; exact ⟨rfl, rfl⟩))
  (fun os started H enc _ => lifted os started H enc)
end polyDoesP
/-- for every number, two lists of naturals and a natural: in a small group, of lists up to 8, the polynomial trimmed, what it is at the place, and the sum and the product of both are the document's; no condition. -/
theorem polyDoes_holds : Rows.PolyDoesSaid := polyDoesP.over
end Go.Proofs.YthnpeebnmommbaaGreat
