/- PolyBack: for every number, two lists of naturals and a number: in one of the three groups, of lists up to 6, what goes through the values of a polynomial at enough places is that polynomial, and values of sums and products are sums and products of values; no condition. -/
import Derived.Test.YthnpeebnmommbaaPyAwake
import Derived.Test.YthnpeebnmommbaaGU
import Derived.Test.YthnpeebnmommbaaTA
namespace Go.Proofs.Ythnpeebnmommbaa
open Go.ChangeShapes Go.WideShapes Go.ChangeAt Go.RowKit
namespace polyBackP
set_option linter.unusedVariables false
/-- The lowest two bits. -/
def ly2 (x : Int) : Nat := (x % 4).toNat
theorem ly2_lt (x : Int) : ly2 x < 4 := by unfold ly2; omega
theorem and_ly2 (x : Int) : bits .and .i64 x 3 = ((ly2 x : Nat) : Int) := by
 show IntKind.i64.wrap ((BitVec.ofInt 64 x &&& BitVec.ofInt 64 3).toNat : Int) = _
 have h15 : (BitVec.ofInt 64 3).toNat = 2 ^ 2 - 1 := by decide
 rw [BitVec.toNat_and, h15, Nat.and_two_pow_sub_one_eq_mod, BitVec.toNat_ofInt]
 have e : (x % ((2 ^ 64 : Nat) : Int)).toNat % 2 ^ 2 = ly2 x := by
  unfold ly2
  omega
 rw [e, IntKind.wrap_i64]
 have := ly2_lt x
 omega
theorem pk_big (m : Nat) : 1000 < lN (pk m leL otL grL) (pk m 3 3 5 - 2) := by
 unfold pk
 split
 ·decide +kernel
 ·split <;> decide +kernel
theorem own_nats {w : World} {base : Nat} {v : Value} {n : Nat} {f : Nat → Nat} (h : OwnN w base v n f) (hf : ∀ i, i < n → f i < 2 ^ 256) : ∃ ab c gb cur, v = .slice ab n c ∧ NatsAt w ab n f gb 0 cur 32 := by
 obtain ⟨ab, c, rfl⟩ := own_shape h
 obtain ⟨_, gb, cur, h2⟩ := ownN_nats h hf
 exact ⟨ab, c, gb, cur, rfl, h2⟩
theorem eq_yes12 (X : Nat) : decide (X % 2 ^ 256 = X % 2 ^ 256) = true := decide_eq_true rfl
theorem pev_one {Q : Nat} [NeZero Q] (x u : Fin Q) : pev x [u] = u := by
 show u + x * 0 = u
 grind
set_option maxRecDepth 100000 in
set_option maxHeartbeats 2000000 in
theorem core0 (a0 a2 : Int) (n c m ce : Nat) (ab ae : Option Addr) (w : World) (h : 6 < n ∨ 6 < m) :
  Calls Try.prog 3 #[.int .i64 a0, .agg #[.slice ab n c, .slice ae m ce], .int .i64 a2] w fun e w' => e = .returned (.bool true) ∧ Below w.heap.size w w' := by
 have haw := awake12_any
 go_enter Try.func3, Try.ntmps3
 (repeat ((fail_if_success with_reducible refine rg ?_); go_step))
 refine wp_region_pw ?_
 refine pw_boxr (by rfl) 23 _ rfl (#[.slice ab n c, .slice ae m ce]) rfl ?_
 intro g4 z0 n0 r4 k
 simp only [Act.put, pu]
 have b4 : w.heap.size ≤ g4 := n0
 clear n0
 have sb := k.below w.heap.size (Nat.le_refl _) (by simp)
 clear k
 refine pw_value (by rfl) (.bool false) (fun _ => rfl) ?_
 simp only [Act.put, pu]
 refine pw_nil ?_
 (repeat ((fail_if_success with_reducible refine rg ?_); go_step))
 refine wp_region_ewb (by kernel_rfl) [] [(0, false), (1, false), (2, false), (3, false), (4, false), (5, false)] ?_ (by kernel_rfl)
 have or4 := r4
 have cb := below_self sb
 have osb := sb
 refine ew_value (by rfl) (.pointer (some ⟨g4, 0, none⟩)) (exec_index 23 _ _ rfl g4 rfl 0 2 rfl (by decide) _ Try.underlying23 Try.sizeOf22) ?_
 simp only [Act.put, pu]
 refine ew_loadk (by rfl) 22 _ rfl _ (0) rfl (fun _ hb => (or4.belowAll hb).r) (.slice ab n c) rfl Try.isAgg22 ?_
 simp only [Act.put, pu]
 refine ew_value (by rfl) (.pointer (some ⟨g4, 1, none⟩)) (exec_index 23 _ _ rfl g4 rfl 1 2 rfl (by decide) _ Try.underlying23 Try.sizeOf22) ?_
 simp only [Act.put, pu]
 refine ew_loadk (by rfl) 22 _ rfl _ (1) rfl (fun _ hb => (or4.belowAll hb).r) (.slice ae m ce) rfl Try.isAgg22 ?_
 simp only [Act.put, pu]
 refine ew_as (by rfl) rfl rfl ?_
 simp only [Act.put, pu]
 refine ew_as (by rfl) rfl rfl ?_
 simp only [Act.put, pu]
 refine ew_nil ?_
 intro wz hqb
 replace r4 := r4.belowAll hqb
 replace sb := below_on sb (Nat.le_refl _) hqb
 clear hqb cb osb or4
 clear r4
 by_cases h1 : 6 < n
 ·(repeat ((fail_if_success with_reducible refine rg ?_); go_step))
  refine wp_region_pw ?_
  refine pw_mv (by rfl) rfl rfl ?_
  simp only [Act.put, pu]
  refine pw_value (by rfl) (.int .i64 n) (exec_len_s 22 _ rfl (ab) (n) (c) rfl sl_natsX) ?_
  simp only [Act.put, pu]
  refine pw_value (by rfl) (.bool true) (exec_gt_i _ _ _ _ rfl n 6 rfl rfl true (decide_eq_true (by omega))) ?_
  simp only [Act.put, pu]
  refine pw_mv (by rfl) rfl rfl ?_
  simp only [Act.put, pu]
  refine pw_skip (by rfl) ?_
  simp only [Act.put, pu]
  refine pw_skip (by rfl) ?_
  simp only [Act.put, pu]
  refine pw_skip (by rfl) ?_
  simp only [Act.put, pu]
  refine pw_pick (by rfl) true (v := .bool true) rfl rfl rfl ?_
  simp only [Act.put, pu]
  refine pw_nil ?_
  (repeat ((fail_if_success with_reducible refine rg ?_); go_step))
  refine wp_region_pw ?_
  refine pw_callB (by rfl) 5 _ _ rfl Try.func5 (by kernel_rfl) #[] rfl _ (haw _) ?_
  intro z3000 k
  simp only [Act.put, pu]
  replace sb := sb.trans (k.below w.heap.size sb.size (by simp <;> omega))
  clear k
  refine pw_as (by rfl) rfl rfl ?_
  simp only [Act.put, pu]
  refine pw_nil ?_
  go_wp2
  go_ret
  exact ⟨rfl, sb⟩
 ·(repeat ((fail_if_success with_reducible refine rg ?_); go_step))
  refine wp_region_pw ?_
  refine pw_mv (by rfl) rfl rfl ?_
  simp only [Act.put, pu]
  refine pw_value (by rfl) (.int .i64 n) (exec_len_s 22 _ rfl (ab) (n) (c) rfl sl_natsX) ?_
  simp only [Act.put, pu]
  refine pw_value (by rfl) (.bool false) (exec_gt_i _ _ _ _ rfl n 6 rfl rfl false (decide_eq_false (by omega))) ?_
  simp only [Act.put, pu]
  refine pw_mv (by rfl) rfl rfl ?_
  simp only [Act.put, pu]
  refine pw_mv (by rfl) rfl rfl ?_
  simp only [Act.put, pu]
  refine pw_value (by rfl) (.int .i64 m) (exec_len_s 22 _ rfl (ae) (m) (ce) rfl sl_natsX) ?_
  simp only [Act.put, pu]
  refine pw_value (by rfl) (.bool true) (exec_gt_i _ _ _ _ rfl m 6 rfl rfl true (decide_eq_true (by omega))) ?_
  simp only [Act.put, pu]
  refine pw_pick (by rfl) false (v := .bool true) rfl rfl rfl ?_
  simp only [Act.put, pu]
  refine pw_nil ?_
  (repeat ((fail_if_success with_reducible refine rg ?_); go_step))
  refine wp_region_pw ?_
  refine pw_callB (by rfl) 5 _ _ rfl Try.func5 (by kernel_rfl) #[] rfl _ (haw _) ?_
  intro z3000 k
  simp only [Act.put, pu]
  replace sb := sb.trans (k.below w.heap.size sb.size (by simp <;> omega))
  clear k
  refine pw_as (by rfl) rfl rfl ?_
  simp only [Act.put, pu]
  refine pw_nil ?_
  go_wp2
  go_ret
  exact ⟨rfl, sb⟩
set_option maxRecDepth 100000 in
set_option maxHeartbeats 2000000 in
theorem core1 (a0 a2 : Int) (m0 mm q2 GG PP QQ n0 n1 n2 G0 G1 G2 : Nat) (L0 L1 L2 : Array Value) (n c m ce : Nat) (ab ae : Option Addr) (F E : Nat → Nat) (gb ob ge oe : Nat) (bcs ecs : Array Value) (tb te : TypeId) (w : World) [NeZero QQ] (hm0 : bits .and .i64 a0 255 = (m0 : Int)) (hmm : m0 % 3 = mm) (hq2 : bits .and .i64 a2 3 = (q2 : Int)) (hq4 : q2 < 4) (hn : n ≤ 6) (hm : m ≤ 6) (q : FdQ QQ) (hQ : 1000 < QQ)
  (hna : NatsAt w ab n F gb ob bcs tb) (hnb : NatsAt w ae m E ge oe ecs te)
  (hA0 : ∀ w', Calls Try.prog 7 #[] w' fun e w2 => ∃ g, e = .returned (.agg (paC (some ⟨g, 0, none⟩) n0 n0 G0)) ∧ w'.heap.size ≤ g ∧ Row w2 g L0 62 ∧ Below w'.heap.size w' w2)
  (hA1 : ∀ w', Calls Try.prog 8 #[] w' fun e w2 => ∃ g, e = .returned (.agg (paC (some ⟨g, 0, none⟩) n1 n1 G1)) ∧ w'.heap.size ≤ g ∧ Row w2 g L1 62 ∧ Below w'.heap.size w' w2)
  (hA2 : ∀ w', Calls Try.prog 9 #[] w' fun e w2 => ∃ g, e = .returned (.agg (paC (some ⟨g, 0, none⟩) n2 n2 G2)) ∧ w'.heap.size ≤ g ∧ Row w2 g L2 62 ∧ Below w'.heap.size w' w2)
  (hnw : ∀ w' x, Row w' x (pk mm L0 L1 L2) 62 → Calls Try.prog 6 #[.agg (paC (some ⟨x, 0, none⟩) (pk mm n0 n1 n2) (pk mm n0 n1 n2) (pk mm G0 G1 G2))] w' fun e w2 => ∃ g gr gf, e = .returned (.tuple #[.pointer (some ⟨g, 0, none⟩), .int .i64 0]) ∧ GrpAt w2 g gr gf PP QQ GG ∧ Below w'.heap.size w' w2) :
  Calls Try.prog 3 #[.int .i64 a0, .agg #[.slice ab n c, .slice ae m ce], .int .i64 a2] w fun e w' => e = .returned (.bool true) ∧ Below w.heap.size w w' := by
 have haw := awake12_any
 obtain ⟨ip, hip, hzp, hszp⟩ := info_pa'
 have hp1 : ¬ 3 * ip.size > 2 ^ 24 := by rw [hszp]; decide
 have hp2 : ¬ 3 * ip.size = 0 := by rw [hszp]; decide
 have hlp := fun x y z n m l X Y Z => lit_pas x y z n m l X Y Z ip.size hszp
 have hMM : Hid (m0 % 3 = mm) := hmm
 have hm3 : mm < 3 := by rw [← hmm]; exact Nat.mod_lt _ (by decide)
 obtain ⟨ie, hie, hz, hsz, _⟩ := info_nat'
 have hs1 : ¬ 1 * ie.size > 2 ^ 24 := by rw [hsz]; decide
 have hs2 : ¬ 1 * ie.size = 0 := by rw [hsz]; decide
 have hl1 := fun A => lit_one A ie.size hsz
 obtain ⟨T, hT⟩ : ∃ T, n + q2 = T := ⟨_, rfl⟩
 have HV : Hid (∀ x : Fin QQ, x.val < 2 ^ 256) := fun x => Nat.lt_trans x.isLt q.m
 have o12 := fun (k : Nat) w' (h : k < 100) => of12_any k w' (by omega)
 have hev := fun g gr gf (k : Nat) w' (hb : Below w.heap.size w w') (hg : GrpAt w' g gr gf PP QQ GG) (hk : k < 100) => evalQ (.slice ab n c) (fl n F : List (Fin QQ)) k (by omega) q hg ((hna.below hb).pl (by omega))
 have hfv := fun g gr gf (k : Nat) w' (hb : Below w.heap.size w w') (hg : GrpAt w' g gr gf PP QQ GG) (hk : k < 100) => evalQ (.slice ae m ce) (fl m E : List (Fin QQ)) k (by omega) q hg ((hnb.below hb).pl (by omega))
 have hthr : ∀ g gr gf w', GrpAt w' g gr gf PP QQ GG → ∀ ax cx gx curx ay cy gy cury, NatsAt w' ax T (fun j => 3 * j + 1) gx 0 curx 32 → NatsAt w' ay T (fun j => (pev (fi (3 * j + 1)) (fl n F : List (Fin QQ))).val) gy 0 cury 32 → Calls Try.prog 12 #[.pointer (some ⟨g, 0, none⟩), .slice ax T cx, .slice ay T cy] w' fun e w2 => ∃ vf, e = .returned (.tuple #[vf, .int .i64 0]) ∧ PlAt w2 vf (ptrim (fl n F : List (Fin QQ))) ∧ Below w'.heap.size w' w2 := fun g gr gf w' hg ax cx gx curx ay cy gy cury hx hy => by
  have hd : ∀ i j, i < T → j < T → i ≠ j → (fi (3 * i + 1) : Fin QQ) ≠ fi (3 * j + 1) := fun i j hi hj hne e => by
   have := fi_inj e (by omega) (by omega)
   omega
  refine (thr_any g gr gf PP QQ GG T cx cy ax ay (fun j => 3 * j + 1) (fun j => (pev (fi (3 * j + 1)) (fl n F : List (Fin QQ))).val) gx 0 gy 0 curx cury _ _ w' q (by omega) hx hy hg).mono ?_
  rintro e w2 ⟨vf, z, rfl, h | h, hb⟩
  ·obtain ⟨rfl, _, h3⟩ := h
   rw [tTh_is q.pr ivF (ivF_is q) _ _ T hd, ← pthr_unique q.pr ivF (ivF_is q) (fun i => (fi (3 * i + 1) : Fin QQ)) (fun i => (fi ((fun j => (pev (fi (3 * j + 1)) (fl n F : List (Fin QQ))).val) i) : Fin QQ)) T hd (fl n F : List (Fin QQ)) (by rw [fl_length]; omega) (fun j hj => (fi_of _).symm)] at h3
   exact ⟨vf, rfl, h3, hb⟩
  ·obtain ⟨_, _, k, hk, h3⟩ := h
   exact absurd h3 (tGo_nz q.pr _ _ k fun j hj => hd j k (by omega) hk (by omega))
 have htr := fun g gr gf w' (hb : Below w.heap.size w w') (hg : GrpAt w' g gr gf PP QQ GG) => trimQ (.slice ab n c) (fl n F : List (Fin QQ)) q hg ((hna.below hb).pl (by omega))
 have hsm : ∀ w' v1 v2, PlAt w' v1 (ptrim (fl n F : List (Fin QQ))) → PlAt w' v2 (ptrim (fl n F : List (Fin QQ))) → Calls Try.prog 15 #[v1, v2] w' fun e w2 => e = .returned (.bool true) ∧ Below w'.heap.size w' w2 := fun w' v1 v2 h1 h2 => by
  obtain ⟨ax, cx, gx, ox, xcs, tx, rfl, hx⟩ := h2
  exact same_pl v1 _ _ cx ax _ gx ox xcs tx w' rfl (by have := ptrim_le (fl n F : List (Fin QQ)); rw [fl_length] at this; omega) h1 hx (fun _ _ => rfl)
 have hadd := fun g gr gf w' (hb : Below w.heap.size w w') (hg : GrpAt w' g gr gf PP QQ GG) => addQ (.slice ab n c) (.slice ae m ce) (fl n F : List (Fin QQ)) (fl m E : List (Fin QQ)) q hg ((hna.below hb).pl (by omega)) ((hnb.below hb).pl (by omega))
 have hmul := fun g gr gf w' (hb : Below w.heap.size w w') (hg : GrpAt w' g gr gf PP QQ GG) => mulQ (.slice ab n c) (.slice ae m ce) (fl n F : List (Fin QQ)) (fl m E : List (Fin QQ)) q hg ((hna.below hb).pl (by omega)) ((hnb.below hb).pl (by omega))
 have hevp := fun g gr gf (k : Nat) w' (hg : GrpAt w' g gr gf PP QQ GG) (v : Value) (Lx : List (Fin QQ)) (hv : PlAt w' v Lx) (hl : Lx.length ≤ 1000) (hk : k < 100) => evalQ v Lx k (by omega) q hg (hv.arg hl)
 obtain ⟨U, hU⟩ : ∃ U, (pev (fi 77) (fl n F : List (Fin QQ))).val = U := ⟨_, rfl⟩
 obtain ⟨V, hV⟩ : ∃ V, (pev (fi 77) (fl m E : List (Fin QQ))).val = V := ⟨_, rfl⟩
 have hUl : U < 2 ^ 256 := hU ▸ HV.out _
 have hVl : V < 2 ^ 256 := hV ▸ HV.out _
 have hS1 : (pev (fi 77) (psum (fl n F : List (Fin QQ)) (fl m E : List (Fin QQ)))).val = (pev (fi 77) (psum [(fi U : Fin QQ)] [fi V])).val := by
  rw [pev_psum, pev_psum, pev_one, pev_one, ← hU, ← hV, fi_of, fi_of]
 have hS2 : (pev (fi 77) (pmul (fl n F : List (Fin QQ)) (fl m E : List (Fin QQ)))).val = (pev (fi 77) (pmul [(fi U : Fin QQ)] [fi V])).val := by
  rw [pev_pmul, pev_pmul, pev_one, pev_one, ← hU, ← hV, fi_of, fi_of]
 have la : ((fl n F : List (Fin QQ))).length = n := fl_length _ _
 have lb : ((fl m E : List (Fin QQ))).length = m := fl_length _ _
 have hl1s := psum_length (fl n F : List (Fin QQ)) (fl m E : List (Fin QQ))
 have hl1m := pmul_length (fl n F : List (Fin QQ)) (fl m E : List (Fin QQ))
 have hl2s := psum_length [(fi U : Fin QQ)] [fi V]
 have hl2m := pmul_length [(fi U : Fin QQ)] [fi V]
 rw [la, lb] at hl1s hl1m
 simp only [List.length_cons, List.length_nil] at hl2s hl2m
 have heA := fun g gr gf w' hg v hv => hevp g gr gf 77 w' hg v (psum (fl n F : List (Fin QQ)) (fl m E : List (Fin QQ))) hv (by omega) (by decide)
 have heS := fun g gr gf w' hg v hv => hevp g gr gf 77 w' hg v (psum [(fi U : Fin QQ)] [fi V]) hv (by omega) (by decide)
 have heM := fun g gr gf w' hg v hv => hevp g gr gf 77 w' hg v (pmul (fl n F : List (Fin QQ)) (fl m E : List (Fin QQ))) hv (by omega) (by decide)
 have heT := fun g gr gf w' hg v hv => hevp g gr gf 77 w' hg v (pmul [(fi U : Fin QQ)] [fi V]) hv (by omega) (by decide)
 rw [hS1] at heA
 rw [hS2] at heM
 have ha1 := fun g gr gf w' (hg : GrpAt w' g gr gf PP QQ GG) gA gB (rA : Row w' gA (natC U) 32) (rB : Row w' gB (natC V) 32) => addQ (.slice (some ⟨gA, 0, none⟩) 1 1) (.slice (some ⟨gB, 0, none⟩) 1 1) [(fi U : Fin QQ)] [fi V] q hg (lit1_pl rA hUl) (lit1_pl rB hVl)
 have hm1 := fun g gr gf w' (hg : GrpAt w' g gr gf PP QQ GG) gA gB (rA : Row w' gA (natC U) 32) (rB : Row w' gB (natC V) 32) => mulQ (.slice (some ⟨gA, 0, none⟩) 1 1) (.slice (some ⟨gB, 0, none⟩) 1 1) [(fi U : Fin QQ)] [fi V] q hg (lit1_pl rA hUl) (lit1_pl rB hVl)
 have hev7 := fun g gr gf w' hb hg => hev g gr gf 77 w' hb hg (by decide)
 have hfv7 := fun g gr gf w' hb hg => hfv g gr gf 77 w' hb hg (by decide)
 rw [hU] at hev7
 rw [hV] at hfv7
 clear hevp hfv hS1 hS2 hl1s hl1m hl2s hl2m la lb hU hV hsz hszp hna hnb
 generalize (pev (fi 77) (psum [(fi U : Fin QQ)] [fi V])).val = W1 at *
 generalize (pev (fi 77) (pmul [(fi U : Fin QQ)] [fi V])).val = W2 at *
 go_enter Try.func3, Try.ntmps3
 (repeat ((fail_if_success with_reducible refine rg ?_); go_step))
 refine wp_region_pw ?_
 refine pw_boxr (by rfl) 23 _ rfl (#[.slice ab n c, .slice ae m ce]) rfl ?_
 intro g4 z0 n0 r4 k
 simp only [Act.put, pu]
 have b4 : w.heap.size ≤ g4 := n0
 clear n0
 have sb := k.below w.heap.size (Nat.le_refl _) (by simp)
 clear k
 refine pw_value (by rfl) (.bool false) (fun _ => rfl) ?_
 simp only [Act.put, pu]
 refine pw_nil ?_
 (repeat ((fail_if_success with_reducible refine rg ?_); go_step))
 refine wp_region_ewb (by kernel_rfl) [] [(0, false), (1, false), (2, false), (3, false), (4, false), (5, false)] ?_ (by kernel_rfl)
 have or4 := r4
 have cb := below_self sb
 have osb := sb
 refine ew_value (by rfl) (.pointer (some ⟨g4, 0, none⟩)) (exec_index 23 _ _ rfl g4 rfl 0 2 rfl (by decide) _ Try.underlying23 Try.sizeOf22) ?_
 simp only [Act.put, pu]
 refine ew_loadk (by rfl) 22 _ rfl _ (0) rfl (fun _ hb => (or4.belowAll hb).r) (.slice ab n c) rfl Try.isAgg22 ?_
 simp only [Act.put, pu]
 refine ew_value (by rfl) (.pointer (some ⟨g4, 1, none⟩)) (exec_index 23 _ _ rfl g4 rfl 1 2 rfl (by decide) _ Try.underlying23 Try.sizeOf22) ?_
 simp only [Act.put, pu]
 refine ew_loadk (by rfl) 22 _ rfl _ (1) rfl (fun _ hb => (or4.belowAll hb).r) (.slice ae m ce) rfl Try.isAgg22 ?_
 simp only [Act.put, pu]
 refine ew_as (by rfl) rfl rfl ?_
 simp only [Act.put, pu]
 refine ew_as (by rfl) rfl rfl ?_
 simp only [Act.put, pu]
 refine ew_nil ?_
 intro wz hqb
 replace r4 := r4.belowAll hqb
 replace sb := below_on sb (Nat.le_refl _) hqb
 clear hqb cb osb or4
 clear r4
 (repeat ((fail_if_success with_reducible refine rg ?_); go_step))
 refine wp_region_pw ?_
 refine pw_mv (by rfl) rfl rfl ?_
 simp only [Act.put, pu]
 refine pw_value (by rfl) (.int .i64 n) (exec_len_s 22 _ rfl (ab) (n) (c) rfl sl_natsX) ?_
 simp only [Act.put, pu]
 refine pw_value (by rfl) (.bool false) (exec_gt_i _ _ _ _ rfl n 6 rfl rfl false (decide_eq_false (by omega))) ?_
 simp only [Act.put, pu]
 refine pw_mv (by rfl) rfl rfl ?_
 simp only [Act.put, pu]
 refine pw_mv (by rfl) rfl rfl ?_
 simp only [Act.put, pu]
 refine pw_value (by rfl) (.int .i64 m) (exec_len_s 22 _ rfl (ae) (m) (ce) rfl sl_natsX) ?_
 simp only [Act.put, pu]
 refine pw_value (by rfl) (.bool false) (exec_gt_i _ _ _ _ rfl m 6 rfl rfl false (decide_eq_false (by omega))) ?_
 simp only [Act.put, pu]
 refine pw_pick (by rfl) false (v := .bool false) rfl rfl rfl ?_
 simp only [Act.put, pu]
 refine pw_nil ?_
 (repeat ((fail_if_success with_reducible refine rg ?_); go_step))
 refine wp_region_pw ?_
 refine pw_callE (by rfl) 7 _ _ rfl Try.func7 (by kernel_rfl) #[] rfl (hA0 _) ?_
 rintro _ z4000 ⟨gU, rfl, nU, rU, hb⟩
 refine ⟨_, rfl, ?_⟩
 simp only [Act.put, pu]
 have bU := Nat.le_trans sb.size nU
 clear nU
 have k := Kept.ofBelow hb
 clear hb
 replace sb := sb.trans (k.below w.heap.size sb.size (by simp <;> omega))
 clear k
 refine pw_callE (by rfl) 8 _ _ rfl Try.func8 (by kernel_rfl) #[] rfl (hA1 _) ?_
 rintro _ z4001 ⟨gV, rfl, nV, rV, hb⟩
 refine ⟨_, rfl, ?_⟩
 simp only [Act.put, pu]
 have dUxV := Nat.lt_of_lt_of_le rU.lt nV
 have bV := Nat.le_trans sb.size nV
 clear nV
 have k := Kept.ofBelow hb
 clear hb
 replace rU := k.row rU (by simp <;> omega)
 replace sb := sb.trans (k.below w.heap.size sb.size (by simp <;> omega))
 clear k
 refine pw_callE (by rfl) 9 _ _ rfl Try.func9 (by kernel_rfl) #[] rfl (hA2 _) ?_
 rintro _ z4002 ⟨gW, rfl, nW, rW, hb⟩
 refine ⟨_, rfl, ?_⟩
 simp only [Act.put, pu]
 have dUxW := Nat.lt_of_lt_of_le rU.lt nW
 have dVxW := Nat.lt_of_lt_of_le rV.lt nW
 have bW := Nat.le_trans sb.size nW
 clear nW
 have k := Kept.ofBelow hb
 clear hb
 replace rU := k.row rU (by simp <;> omega)
 replace rV := k.row rV (by simp <;> omega)
 replace sb := sb.trans (k.below w.heap.size sb.size (by simp <;> omega))
 clear k
 refine pw_litr (by rfl) 36 34 3 _ rfl (pasC (some ⟨gU, 0, none⟩) (some ⟨gV, 0, none⟩) (some ⟨gW, 0, none⟩) n0 n1 n2 G0 G1 G2) ip _ Try.underlying36 hip hzp hp1 hp2 [(0, .agg (paC (some ⟨gU, 0, none⟩) n0 n0 G0)), (1, .agg (paC (some ⟨gV, 0, none⟩) n1 n1 G1)), (2, .agg (paC (some ⟨gW, 0, none⟩) n2 n2 G2))] rfl (hlp _ _ _ _ _ _ _ _ _) ?_
 intro gT z4003 n0 rT k
 simp only [Act.put, pu]
 have dUxT := Nat.lt_of_lt_of_le rU.lt n0
 have dVxT := Nat.lt_of_lt_of_le rV.lt n0
 have dWxT := Nat.lt_of_lt_of_le rW.lt n0
 have bT := Nat.le_trans sb.size n0
 clear n0
 replace rU := k.row rU (by simp <;> omega)
 replace rV := k.row rV (by simp <;> omega)
 replace rW := k.row rW (by simp <;> omega)
 replace sb := sb.trans (k.below w.heap.size sb.size (by simp <;> omega))
 clear k
 refine pw_mv (by rfl) rfl rfl ?_
 simp only [Act.put, pu]
 refine pw_value (by rfl) (.int .i64 (m0 : Nat)) (fun w' => (exec_bits_i .and _ _ _ _ (.inl rfl) rfl a0 255 rfl rfl w').trans (by rw [hm0])) ?_
 simp only [Act.put, pu]
 refine pw_value (by rfl) (.int .i64 (mm : Nat)) (fun w' => (exec_rem_i _ _ _ _ rfl m0 3 rfl rfl (by decide) w').trans (by rw [hMM.out])) ?_
 simp only [Act.put, pu]
 refine pw_value (by rfl) (.pointer (some ⟨gT, 0 + mm * 5, none⟩)) (exec_index_s 36 _ _ rfl gT 0 3 3 rfl mm rfl hm3 _ Try.underlying36 5 Try.sizeOf34) ?_
 simp only [Act.put, pu]
 refine pw_loadm (by rfl) 34 _ rfl _ (0 + mm * 5) rfl rT.r (paC (some ⟨pk mm gU gV gW, 0, none⟩) (pk mm n0 n1 n2) (pk mm n0 n1 n2) (pk mm G0 G1 G2)) (pas_part gU gV gW n0 n1 n2 G0 G1 G2 mm hm3) _ Try.underlying34 rfl size_pa ?_
 simp only [Act.put, pu]
 refine pw_callE (by rfl) 6 _ _ rfl Try.func6 (by kernel_rfl) #[.agg (paC (some ⟨pk mm gU gV gW, 0, none⟩) (pk mm n0 n1 n2) (pk mm n0 n1 n2) (pk mm G0 G1 G2))] rfl (hnw _ _ (pk_row mm rU rV rW)) ?_
 rintro _ z4009 ⟨g, gr, gf, rfl, ⟨rG, rR, rF⟩, hb⟩
 refine ⟨_, rfl, ?_⟩
 simp only [Act.put, pu]
 have k := Kept.ofBelow hb
 clear hb
 replace rU := k.row rU (by simp <;> omega)
 replace rV := k.row rV (by simp <;> omega)
 replace rW := k.row rW (by simp <;> omega)
 replace rT := k.row rT (by simp <;> omega)
 replace sb := sb.trans (k.below w.heap.size sb.size (by simp <;> omega))
 clear k
 refine pw_mv (by rfl) rfl rfl ?_
 simp only [Act.put, pu]
 refine pw_ext (by rfl) rfl rfl rfl ?_
 simp only [Act.put, pu]
 refine pw_ext (by rfl) rfl rfl rfl ?_
 simp only [Act.put, pu]
 refine pw_as (by rfl) rfl rfl ?_
 simp only [Act.put, pu]
 refine pw_as (by rfl) rfl rfl ?_
 simp only [Act.put, pu]
 refine pw_nil ?_
 clear rU rV rW rT hA0 hA1 hA2 hnw hlp hip hzp hp1 hp2 bU bV bW bT
 (repeat ((fail_if_success with_reducible refine rg ?_); go_step))
 refine wp_region_pw ?_
 refine pw_mv (by rfl) rfl rfl ?_
 simp only [Act.put, pu]
 refine pw_value (by rfl) (.bool false) (exec_neq_k .i64 _ _ _ _ rfl 0 0 rfl rfl false rfl) ?_
 simp only [Act.put, pu]
 refine pw_nil ?_
 (repeat ((fail_if_success with_reducible refine rg ?_); go_step))
 refine wp_region_pw ?_
 refine pw_value (by rfl) (.slice none 0 0) ((fun _ => rfl)) ?_
 simp only [Act.put, pu]
 refine pw_value (by rfl) (.slice none 0 0) ((fun _ => rfl)) ?_
 simp only [Act.put, pu]
 refine pw_nil ?_
 (repeat ((fail_if_success with_reducible refine rg ?_); go_step))
 refine wp_region_pw ?_
 refine pw_value (by rfl) (.int .i64 0) (fun _ => rfl) ?_
 simp only [Act.put, pu]
 refine pw_nil ?_
 go_wp2_with fail
 go_loopg [11, 12, 13, 14] T (fun y s11 s12 s13 s14 wr => ∃ i : Nat, i + y = T ∧ s13 = .int .i64 i ∧ OwnN wr w.heap.size s11 i (fun j => 3 * j + 1) ∧ OwnN wr w.heap.size s12 i (fun j => (pev (fi (3 * j + 1)) (fl n F : List (Fin QQ))).val) ∧ s11.ownBlock ≠ some g ∧ s11.ownBlock ≠ some gr ∧ s11.ownBlock ≠ some gf ∧ s12.ownBlock ≠ some g ∧ s12.ownBlock ≠ some gr ∧ s12.ownBlock ≠ some gf ∧ (∀ b, s12.ownBlock = some b → s11.ownBlock ≠ some b) ∧ GrpAt wr g gr gf PP QQ GG ∧ Below w.heap.size w wr)
 case atStart => exact ⟨0, by omega, rfl, ownN_nil _ _ _, ownN_nil _ _ _, nofun, nofun, nofun, nofun, nofun, nofun, nofun, ⟨rG, rR, rF⟩, sb⟩
 case round =>
  clear rG rR rF sb
  obtain ⟨i, hi, rfl, hX, hY, ehXxG, ehXxR, ehXxF, ehYxG, ehYxR, ehYxF, zhXxhY, ⟨rG, rR, rF⟩, sb⟩ := hrel
  have zhYxhX := own_sym zhXxhY
  cases gk with
  | zero =>
   obtain rfl : i = T := by omega
   clear hi
   obtain ⟨ax, cx, gx, curx, rfl, hx⟩ := own_nats hX (fun j hj => by omega)
   obtain ⟨ay, cy, gy, cury, rfl, hy⟩ := own_nats hY (fun j hj => HV.out _)
   clear hX hY ehXxG ehXxR ehXxF ehYxG ehYxR ehYxF zhXxhY zhYxhX hev
   (repeat ((fail_if_success with_reducible refine rg ?_); go_step))
   refine wp_region_pw ?_
   refine pw_mv (by rfl) rfl rfl ?_
   simp only [Act.put, pu]
   refine pw_mv (by rfl) rfl rfl ?_
   simp only [Act.put, pu]
   refine pw_value (by rfl) (.int .i64 n) (exec_len_s 22 _ rfl (ab) (n) (c) rfl sl_natsX) ?_
   simp only [Act.put, pu]
   refine pw_mv (by rfl) rfl rfl ?_
   simp only [Act.put, pu]
   refine pw_value (by rfl) (.int .i64 (q2 : Nat)) (fun w' => (exec_bits_i .and _ _ _ _ (.inl rfl) rfl a2 3 rfl rfl w').trans (by rw [hq2])) ?_
   simp only [Act.put, pu]
   refine pw_value (by rfl) (.int .i64 ((i : Nat) : Int)) (fun w' => (exec_add_in _ _ _ _ rfl n q2 rfl rfl (by omega) w').trans (by rw [hT])) ?_
   simp only [Act.put, pu]
   refine pw_value (by rfl) (.bool false) (exec_lt_b _ _ _ _ rfl i i rfl rfl false (decide_eq_false (Int.lt_irrefl _))) ?_
   simp only [Act.put, pu]
   refine pw_nil ?_
   (repeat ((fail_if_success with_reducible refine rg ?_); go_step))
   refine wp_region_pw ?_
   refine pw_mv (by rfl) rfl rfl ?_
   simp only [Act.put, pu]
   refine pw_mv (by rfl) rfl rfl ?_
   simp only [Act.put, pu]
   refine pw_mv (by rfl) rfl rfl ?_
   simp only [Act.put, pu]
   refine pw_callE (by rfl) 12 _ _ rfl Try.func12 (by kernel_rfl) #[.pointer (some ⟨g, 0, none⟩), .slice ax i cx, .slice ay i cy] rfl (hthr g gr gf _ (⟨rG, rR, rF⟩ : GrpAt _ g gr gf PP QQ GG) ax cx gx curx ay cy gy cury hx hy) ?_
   rintro _ z14003 ⟨vf, rfl, hf, hb⟩
   refine ⟨_, rfl, ?_⟩
   simp only [Act.put, pu]
   have k := Kept.ofBelow hb
   clear hb
   replace rG := k.row rG (by simp <;> omega)
   replace rR := k.row rR (by simp <;> omega)
   replace rF := k.row rF (by simp <;> omega)
   replace hx := hx.below k.nil
   replace hy := hy.below k.nil
   replace sb := sb.trans (k.below w.heap.size sb.size (by simp <;> omega))
   clear k
   refine pw_mv (by rfl) rfl rfl ?_
   simp only [Act.put, pu]
   refine pw_ext (by rfl) rfl rfl rfl ?_
   simp only [Act.put, pu]
   refine pw_ext (by rfl) rfl rfl rfl ?_
   simp only [Act.put, pu]
   refine pw_as (by rfl) rfl rfl ?_
   simp only [Act.put, pu]
   refine pw_as (by rfl) rfl rfl ?_
   simp only [Act.put, pu]
   refine pw_nil ?_
   clear hthr hx hy
   (repeat ((fail_if_success with_reducible refine rg ?_); go_step))
   have cb := below_self sb
   refine wp_region_pw ?_
   refine pw_callB (by rfl) 10 _ _ rfl Try.func10 (by kernel_rfl) #[.int .i64 77] rfl _ (o12 77 _ (by decide)) ?_
   intro z15000 k
   simp only [Act.put, pu]
   replace cb := cb.trans (k.below _ cb.size (by simp <;> omega))
   replace rG := k.row rG (by simp <;> omega)
   replace rR := k.row rR (by simp <;> omega)
   replace rF := k.row rF (by simp <;> omega)
   replace sb := sb.trans (k.below w.heap.size sb.size (by simp <;> omega))
   clear k
   refine pw_new (by rfl) 32 rfl _ zero_nat ?_
   intro g17 z15001 n0 r17 k
   simp only [Act.put, pu]
   have bcbx17 := Nat.le_trans cb.size n0
   have dGx17 := Nat.lt_of_lt_of_le rG.lt n0
   have dRx17 := Nat.lt_of_lt_of_le rR.lt n0
   have dFx17 := Nat.lt_of_lt_of_le rF.lt n0
   have b17 := Nat.le_trans sb.size n0
   clear n0
   replace cb := cb.trans (k.below _ cb.size (by simp <;> omega))
   replace rG := k.row rG (by simp <;> omega)
   replace rR := k.row rR (by simp <;> omega)
   replace rF := k.row rF (by simp <;> omega)
   replace sb := sb.trans (k.below w.heap.size sb.size (by simp <;> omega))
   clear k
   refine pw_put (by rfl) 32 _ _ rfl _ rfl r17 (natC 77) rfl (by exact size_nat) (by simp only [natC_size]) (natC_one _) ?_
   clear r17
   intro z15002 r17 k
   simp only [Act.put]
   replace cb := cb.trans (k.below _ cb.size (by simp <;> omega))
   replace rG := k.row rG (by simp <;> omega)
   replace rR := k.row rR (by simp <;> omega)
   replace rF := k.row rF (by simp <;> omega)
   replace sb := sb.trans (k.below w.heap.size sb.size (by simp <;> omega))
   clear k
   refine pw_nil ?_
   replace hf := hf.below cb
   clear cb
   (repeat ((fail_if_success with_reducible refine rg ?_); go_step))
   apply wp_region_mix (by kernel_rfl) [] [_, _, _, _, _, _, _, _, _, _, _, _] trivial List.nodup_nil
   ·intro p
    refine mx_move rfl rfl ?_
    simp only [Act.put, pu]
    refine mx_move rfl rfl ?_
    simp only [Act.put, pu]
    refine mx_load 32 _ rfl _ rfl r17 (by simp <;> omega) 4 _ Try.underlying32 size_nat ?_
    simp only [Act.put, pu]
    refine mx_callK 11 _ _ rfl Try.func11 (by kernel_rfl) #[.pointer (some ⟨g, 0, none⟩), .slice ab n c, .agg (natC 77)] rfl _ (fun w' hk => hev7 g gr gf w' (sb.trans (hk.below w.heap.size sb.size (by simp <;> omega))) ((⟨rG, rR, rF⟩ : GrpAt _ g gr gf PP QQ GG).below (hk.below _ (Nat.le_refl _) (by simp)))) ?_
    simp only [Act.put, pu]
    refine mx_move rfl rfl ?_
    simp only [Act.put, pu]
    refine mx_move rfl rfl ?_
    simp only [Act.put, pu]
    refine mx_load 32 _ rfl _ rfl r17 (by simp <;> omega) 4 _ Try.underlying32 size_nat ?_
    simp only [Act.put, pu]
    refine mx_callK 11 _ _ rfl Try.func11 (by kernel_rfl) #[.pointer (some ⟨g, 0, none⟩), .slice ae m ce, .agg (natC 77)] rfl _ (fun w' hk => hfv7 g gr gf w' (sb.trans (hk.below w.heap.size sb.size (by simp <;> omega))) ((⟨rG, rR, rF⟩ : GrpAt _ g gr gf PP QQ GG).below (hk.below _ (Nat.le_refl _) (by simp)))) ?_
    simp only [Act.put, pu]
    refine mx_new 32 rfl _ zero_nat ?_
    simp only [Act.put, pu]
    refine mx_new 32 rfl _ zero_nat ?_
    simp only [Act.put, pu]
    refine mx_put 17 32 _ _ rfl rfl rfl (natC U) rfl (by exact size_nat) (by simp only [natC_size]) (natC_one _) ?_
    simp only [Act.put]
    refine mx_put 19 32 _ _ rfl rfl rfl (natC V) rfl (by exact size_nat) (by simp only [natC_size]) (natC_one _) ?_
    simp only [Act.put]
    refine mx_end ?_
    intro w2 hkw hrw hnew hdis
    have n18 := hnew 8 rfl
    have n19 := hnew 9 rfl
    have zr18 : Row w2 (p 8) (natC U) 32 := hrw 17 (32, natC U) rfl
    have zr19 : Row w2 (p 9) (natC V) 32 := hrw 19 (32, natC V) rfl
    have dGx18 := Nat.lt_of_lt_of_le rG.lt n18
    have dGx19 := Nat.lt_of_lt_of_le rG.lt n19
    have dRx18 := Nat.lt_of_lt_of_le rR.lt n18
    have dRx19 := Nat.lt_of_lt_of_le rR.lt n19
    have dFx18 := Nat.lt_of_lt_of_le rF.lt n18
    have dFx19 := Nat.lt_of_lt_of_le rF.lt n19
    have d17x18 := Nat.lt_of_lt_of_le r17.lt n18
    have d17x19 := Nat.lt_of_lt_of_le r17.lt n19
    have d18x19 := hdis 8 9 (by omega) rfl rfl
    replace rG := hkw.row rG (by simp <;> omega)
    replace rR := hkw.row rR (by simp <;> omega)
    replace rF := hkw.row rF (by simp <;> omega)
    replace r17 := hkw.row r17 (by simp <;> omega)
    replace hf := hf.below hkw.nil
    have b18 := Nat.le_trans sb.size n18
    have b19 := Nat.le_trans sb.size n19
    replace sb := sb.trans (hkw.below w.heap.size sb.size (by simp <;> omega))
    clear hkw hrw hnew hdis n18 n19
    generalize p 8 = g18 at *
    generalize p 9 = g19 at *
    have r18 := zr18
    clear zr18
    have r19 := zr19
    clear zr19
    (repeat ((fail_if_success with_reducible refine rg ?_); go_step))
    refine wp_region_pw ?_
    refine pw_mv (by rfl) rfl rfl ?_
    simp only [Act.put, pu]
    refine pw_loadm (by rfl) 32 _ rfl _ 0 rfl r18.r _ (part_all _) _ Try.underlying32 rfl size_nat ?_
    simp only [Act.put, pu]
    refine pw_litr (by rfl) 22 32 1 _ rfl (natC (U)) ie _ Try.underlying22 hie hz hs1 hs2 [(0, .agg (natC (U)))] rfl (hl1 _) ?_
    intro gA z17002 n0 rA k
    simp only [Act.put, pu]
    have dGxA := Nat.lt_of_lt_of_le rG.lt n0
    have dRxA := Nat.lt_of_lt_of_le rR.lt n0
    have dFxA := Nat.lt_of_lt_of_le rF.lt n0
    have d17xA := Nat.lt_of_lt_of_le r17.lt n0
    have d18xA := Nat.lt_of_lt_of_le r18.lt n0
    have d19xA := Nat.lt_of_lt_of_le r19.lt n0
    have bA := Nat.le_trans sb.size n0
    clear n0
    replace rG := k.row rG (by simp <;> omega)
    replace rR := k.row rR (by simp <;> omega)
    replace rF := k.row rF (by simp <;> omega)
    replace r17 := k.row r17 (by simp <;> omega)
    replace r18 := k.row r18 (by simp <;> omega)
    replace r19 := k.row r19 (by simp <;> omega)
    replace hf := hf.below k.nil
    replace sb := sb.trans (k.below w.heap.size sb.size (by simp <;> omega))
    clear k
    refine pw_loadm (by rfl) 32 _ rfl _ 0 rfl r19.r _ (part_all _) _ Try.underlying32 rfl size_nat ?_
    simp only [Act.put, pu]
    refine pw_litr (by rfl) 22 32 1 _ rfl (natC (V)) ie _ Try.underlying22 hie hz hs1 hs2 [(0, .agg (natC (V)))] rfl (hl1 _) ?_
    intro gB z17004 n0 rB k
    simp only [Act.put, pu]
    have dGxB := Nat.lt_of_lt_of_le rG.lt n0
    have dRxB := Nat.lt_of_lt_of_le rR.lt n0
    have dFxB := Nat.lt_of_lt_of_le rF.lt n0
    have d17xB := Nat.lt_of_lt_of_le r17.lt n0
    have d18xB := Nat.lt_of_lt_of_le r18.lt n0
    have d19xB := Nat.lt_of_lt_of_le r19.lt n0
    have dAxB := Nat.lt_of_lt_of_le rA.lt n0
    have bB := Nat.le_trans sb.size n0
    clear n0
    replace rG := k.row rG (by simp <;> omega)
    replace rR := k.row rR (by simp <;> omega)
    replace rF := k.row rF (by simp <;> omega)
    replace r17 := k.row r17 (by simp <;> omega)
    replace r18 := k.row r18 (by simp <;> omega)
    replace r19 := k.row r19 (by simp <;> omega)
    replace hf := hf.below k.nil
    replace rA := k.row rA (by simp <;> omega)
    replace sb := sb.trans (k.below w.heap.size sb.size (by simp <;> omega))
    clear k
    refine pw_callE (by rfl) 13 _ _ rfl Try.func13 (by kernel_rfl) #[.pointer (some ⟨g, 0, none⟩), .slice (some ⟨gA, 0, none⟩) 1 1, .slice (some ⟨gB, 0, none⟩) 1 1] rfl (ha1 g gr gf _ (⟨rG, rR, rF⟩ : GrpAt _ g gr gf PP QQ GG) gA gB rA rB) ?_
    rintro _ z17005 ⟨vs, rfl, hs, hb⟩
    refine ⟨_, rfl, ?_⟩
    simp only [Act.put, pu]
    have k := Kept.ofBelow hb
    clear hb
    replace rG := k.row rG (by simp <;> omega)
    replace rR := k.row rR (by simp <;> omega)
    replace rF := k.row rF (by simp <;> omega)
    replace r17 := k.row r17 (by simp <;> omega)
    replace r18 := k.row r18 (by simp <;> omega)
    replace r19 := k.row r19 (by simp <;> omega)
    replace hf := hf.below k.nil
    replace rA := k.row rA (by simp <;> omega)
    replace rB := k.row rB (by simp <;> omega)
    replace sb := sb.trans (k.below w.heap.size sb.size (by simp <;> omega))
    clear k
    refine pw_as (by rfl) rfl rfl ?_
    simp only [Act.put, pu]
    refine pw_nil ?_
    clear rA rB ha1 bA bB
    (repeat ((fail_if_success with_reducible refine rg ?_); go_step))
    refine wp_region_pw ?_
    refine pw_mv (by rfl) rfl rfl ?_
    simp only [Act.put, pu]
    refine pw_loadm (by rfl) 32 _ rfl _ 0 rfl r18.r _ (part_all _) _ Try.underlying32 rfl size_nat ?_
    simp only [Act.put, pu]
    refine pw_litr (by rfl) 22 32 1 _ rfl (natC (U)) ie _ Try.underlying22 hie hz hs1 hs2 [(0, .agg (natC (U)))] rfl (hl1 _) ?_
    intro gA z18002 n0 rA k
    simp only [Act.put, pu]
    have dGxA := Nat.lt_of_lt_of_le rG.lt n0
    have dRxA := Nat.lt_of_lt_of_le rR.lt n0
    have dFxA := Nat.lt_of_lt_of_le rF.lt n0
    have d17xA := Nat.lt_of_lt_of_le r17.lt n0
    have d18xA := Nat.lt_of_lt_of_le r18.lt n0
    have d19xA := Nat.lt_of_lt_of_le r19.lt n0
    have bA := Nat.le_trans sb.size n0
    clear n0
    replace rG := k.row rG (by simp <;> omega)
    replace rR := k.row rR (by simp <;> omega)
    replace rF := k.row rF (by simp <;> omega)
    replace r17 := k.row r17 (by simp <;> omega)
    replace r18 := k.row r18 (by simp <;> omega)
    replace r19 := k.row r19 (by simp <;> omega)
    replace hf := hf.below k.nil
    replace hs := hs.below k.nil
    replace sb := sb.trans (k.below w.heap.size sb.size (by simp <;> omega))
    clear k
    refine pw_loadm (by rfl) 32 _ rfl _ 0 rfl r19.r _ (part_all _) _ Try.underlying32 rfl size_nat ?_
    simp only [Act.put, pu]
    refine pw_litr (by rfl) 22 32 1 _ rfl (natC (V)) ie _ Try.underlying22 hie hz hs1 hs2 [(0, .agg (natC (V)))] rfl (hl1 _) ?_
    intro gB z18004 n0 rB k
    simp only [Act.put, pu]
    have dGxB := Nat.lt_of_lt_of_le rG.lt n0
    have dRxB := Nat.lt_of_lt_of_le rR.lt n0
    have dFxB := Nat.lt_of_lt_of_le rF.lt n0
    have d17xB := Nat.lt_of_lt_of_le r17.lt n0
    have d18xB := Nat.lt_of_lt_of_le r18.lt n0
    have d19xB := Nat.lt_of_lt_of_le r19.lt n0
    have dAxB := Nat.lt_of_lt_of_le rA.lt n0
    have bB := Nat.le_trans sb.size n0
    clear n0
    replace rG := k.row rG (by simp <;> omega)
    replace rR := k.row rR (by simp <;> omega)
    replace rF := k.row rF (by simp <;> omega)
    replace r17 := k.row r17 (by simp <;> omega)
    replace r18 := k.row r18 (by simp <;> omega)
    replace r19 := k.row r19 (by simp <;> omega)
    replace hf := hf.below k.nil
    replace hs := hs.below k.nil
    replace rA := k.row rA (by simp <;> omega)
    replace sb := sb.trans (k.below w.heap.size sb.size (by simp <;> omega))
    clear k
    refine pw_callE (by rfl) 14 _ _ rfl Try.func14 (by kernel_rfl) #[.pointer (some ⟨g, 0, none⟩), .slice (some ⟨gA, 0, none⟩) 1 1, .slice (some ⟨gB, 0, none⟩) 1 1] rfl (hm1 g gr gf _ (⟨rG, rR, rF⟩ : GrpAt _ g gr gf PP QQ GG) gA gB rA rB) ?_
    rintro _ z18005 ⟨vm, rfl, ht, hb⟩
    refine ⟨_, rfl, ?_⟩
    simp only [Act.put, pu]
    have k := Kept.ofBelow hb
    clear hb
    replace rG := k.row rG (by simp <;> omega)
    replace rR := k.row rR (by simp <;> omega)
    replace rF := k.row rF (by simp <;> omega)
    replace r17 := k.row r17 (by simp <;> omega)
    replace r18 := k.row r18 (by simp <;> omega)
    replace r19 := k.row r19 (by simp <;> omega)
    replace hf := hf.below k.nil
    replace hs := hs.below k.nil
    replace rA := k.row rA (by simp <;> omega)
    replace rB := k.row rB (by simp <;> omega)
    replace sb := sb.trans (k.below w.heap.size sb.size (by simp <;> omega))
    clear k
    refine pw_as (by rfl) rfl rfl ?_
    simp only [Act.put, pu]
    refine pw_nil ?_
    clear rA rB hm1 bA bB r18 r19
    (repeat ((fail_if_success with_reducible refine rg ?_); go_step))
    refine wp_region_ewb (by kernel_rfl) [] [(0, false), (1, false), (2, false), (3, false), (4, false), (5, false), (6, true), (7, true), (8, false), (9, false), (10, false), (11, false), (12, false), (13, false), (15, false), (17, false), (18, false), (19, false), (14, true), (16, true), (20, true), (21, false), (22, false), (23, false), (24, false), (25, false), (26, false), (27, false), (29, false), (31, false), (32, false), (33, false), (28, true), (30, true), (34, true), (35, false), (36, false), (37, false), (38, false), (39, false), (40, false)] ?_ (by kernel_rfl)
    have orG := rG
    have orR := rR
    have orF := rF
    have or17 := r17
    have cb := below_self sb
    have osb := sb
    have ohf := hf
    have ohs := hs
    have oht := ht
    refine ew_mv (by rfl) rfl rfl ?_
    simp only [Act.put, pu]
    refine ew_value (by rfl) (.bool true) (exec_eql_k .i64 _ _ _ _ rfl 0 0 rfl rfl true rfl) ?_
    simp only [Act.put, pu]
    refine ew_mv (by rfl) rfl rfl ?_
    simp only [Act.put, pu]
    refine ew_mv (by rfl) rfl rfl ?_
    simp only [Act.put, pu]
    refine ew_mv (by rfl) rfl rfl ?_
    simp only [Act.put, pu]
    refine ew_mv (by rfl) rfl rfl ?_
    simp only [Act.put, pu]
    refine ew_callE (by rfl) 16 _ _ rfl Try.func16 (by kernel_rfl) #[.pointer (some ⟨g, 0, none⟩), .slice ab n c] rfl ?_
    intro wa6 hqb
    replace rG := rG.belowAll hqb
    replace rR := rR.belowAll hqb
    replace rF := rF.belowAll hqb
    replace r17 := r17.belowAll hqb
    replace hf := hf.below hqb
    replace hs := hs.below hqb
    replace ht := ht.below hqb
    replace sb := below_on sb (Nat.le_refl _) hqb
    replace cb := below_on cb (Nat.le_refl _) hqb
    clear hqb
    refine (htr g gr gf _ sb (⟨rG, rR, rF⟩ : GrpAt _ g gr gf PP QQ GG)).mono ?_
    rintro _ wb6 ⟨vt, rfl, hv, hb⟩
    refine ⟨_, rfl, fun _ => below_on cb (Nat.le_refl _) hb, ?_⟩
    simp only [Act.put, pu]
    replace rG := rG.belowAll hb
    replace rR := rR.belowAll hb
    replace rF := rF.belowAll hb
    replace r17 := r17.belowAll hb
    replace hf := hf.below hb
    replace hs := hs.below hb
    replace ht := ht.below hb
    replace sb := below_on sb (Nat.le_refl _) hb
    replace cb := below_on cb (Nat.le_refl _) hb
    clear hb
    refine ew_callE (by rfl) 15 _ _ rfl Try.func15 (by kernel_rfl) #[vf, vt] rfl ?_
    intro wa7 hqb
    replace rG := rG.belowAll hqb
    replace rR := rR.belowAll hqb
    replace rF := rF.belowAll hqb
    replace r17 := r17.belowAll hqb
    replace hf := hf.below hqb
    replace hs := hs.below hqb
    replace ht := ht.below hqb
    replace hv := hv.below hqb
    replace sb := below_on sb (Nat.le_refl _) hqb
    replace cb := below_on cb (Nat.le_refl _) hqb
    clear hqb
    refine (hsm _ vf vt hf hv).mono ?_
    rintro _ wb7 ⟨rfl, hb⟩
    refine ⟨_, rfl, fun _ => below_on cb (Nat.le_refl _) hb, ?_⟩
    simp only [Act.put, pu]
    replace rG := rG.belowAll hb
    replace rR := rR.belowAll hb
    replace rF := rF.belowAll hb
    replace r17 := r17.belowAll hb
    replace hf := hf.below hb
    replace hs := hs.below hb
    replace ht := ht.below hb
    replace hv := hv.below hb
    replace sb := below_on sb (Nat.le_refl _) hb
    replace cb := below_on cb (Nat.le_refl _) hb
    clear hb
    refine ew_pick (by rfl) true (v := .bool true) rfl rfl rfl ?_
    simp only [Act.put, pu]
    refine ew_mv (by rfl) rfl rfl ?_
    simp only [Act.put, pu]
    refine ew_mv (by rfl) rfl rfl ?_
    simp only [Act.put, pu]
    refine ew_mv (by rfl) rfl rfl ?_
    simp only [Act.put, pu]
    refine ew_mv (by rfl) rfl rfl ?_
    simp only [Act.put, pu]
    refine ew_mv (by rfl) rfl rfl ?_
    simp only [Act.put, pu]
    refine ew_loadm (by rfl) 32 _ rfl _ 0 rfl (fun _ hb => (or17.belowAll hb).r) _ (part_all _) _ Try.underlying32 rfl size_nat ?_
    simp only [Act.put, pu]
    refine ew_mv (by rfl) rfl rfl ?_
    simp only [Act.put, pu]
    refine ew_mv (by rfl) rfl rfl ?_
    simp only [Act.put, pu]
    refine ew_loadm (by rfl) 32 _ rfl _ 0 rfl (fun _ hb => (or17.belowAll hb).r) _ (part_all _) _ Try.underlying32 rfl size_nat ?_
    simp only [Act.put, pu]
    refine ew_callE (by rfl) 13 _ _ rfl Try.func13 (by kernel_rfl) #[.pointer (some ⟨g, 0, none⟩), .slice ab n c, .slice ae m ce] rfl ?_
    intro wa14 hqb
    replace rG := rG.belowAll hqb
    replace rR := rR.belowAll hqb
    replace rF := rF.belowAll hqb
    replace r17 := r17.belowAll hqb
    replace hf := hf.below hqb
    replace hs := hs.below hqb
    replace ht := ht.below hqb
    replace hv := hv.below hqb
    replace sb := below_on sb (Nat.le_refl _) hqb
    replace cb := below_on cb (Nat.le_refl _) hqb
    clear hqb
    refine (hadd g gr gf _ sb (⟨rG, rR, rF⟩ : GrpAt _ g gr gf PP QQ GG)).mono ?_
    rintro _ wb14 ⟨va, rfl, hva, hb⟩
    refine ⟨_, rfl, fun _ => below_on cb (Nat.le_refl _) hb, ?_⟩
    simp only [Act.put, pu]
    replace rG := rG.belowAll hb
    replace rR := rR.belowAll hb
    replace rF := rF.belowAll hb
    replace r17 := r17.belowAll hb
    replace hf := hf.below hb
    replace hs := hs.below hb
    replace ht := ht.below hb
    replace hv := hv.below hb
    replace sb := below_on sb (Nat.le_refl _) hb
    replace cb := below_on cb (Nat.le_refl _) hb
    clear hb
    refine ew_callE (by rfl) 11 _ _ rfl Try.func11 (by kernel_rfl) #[.pointer (some ⟨g, 0, none⟩), va, .agg (natC 77)] rfl ?_
    intro wa16 hqb
    replace rG := rG.belowAll hqb
    replace rR := rR.belowAll hqb
    replace rF := rF.belowAll hqb
    replace r17 := r17.belowAll hqb
    replace hf := hf.below hqb
    replace hs := hs.below hqb
    replace ht := ht.below hqb
    replace hv := hv.below hqb
    replace hva := hva.below hqb
    replace sb := below_on sb (Nat.le_refl _) hqb
    replace cb := below_on cb (Nat.le_refl _) hqb
    clear hqb
    refine (heA g gr gf _ (⟨rG, rR, rF⟩ : GrpAt _ g gr gf PP QQ GG) va hva).mono ?_
    rintro _ wb16 ⟨rfl, hb⟩
    refine ⟨_, rfl, fun _ => below_on cb (Nat.le_refl _) hb, ?_⟩
    simp only [Act.put, pu]
    replace rG := rG.belowAll hb
    replace rR := rR.belowAll hb
    replace rF := rF.belowAll hb
    replace r17 := r17.belowAll hb
    replace hf := hf.below hb
    replace hs := hs.below hb
    replace ht := ht.below hb
    replace hv := hv.below hb
    replace hva := hva.below hb
    replace sb := below_on sb (Nat.le_refl _) hb
    replace cb := below_on cb (Nat.le_refl _) hb
    clear hb
    refine ew_callE (by rfl) 11 _ _ rfl Try.func11 (by kernel_rfl) #[.pointer (some ⟨g, 0, none⟩), vs, .agg (natC 77)] rfl ?_
    intro wa20 hqb
    replace rG := rG.belowAll hqb
    replace rR := rR.belowAll hqb
    replace rF := rF.belowAll hqb
    replace r17 := r17.belowAll hqb
    replace hf := hf.below hqb
    replace hs := hs.below hqb
    replace ht := ht.below hqb
    replace hv := hv.below hqb
    replace hva := hva.below hqb
    replace sb := below_on sb (Nat.le_refl _) hqb
    replace cb := below_on cb (Nat.le_refl _) hqb
    clear hqb
    refine (heS g gr gf _ (⟨rG, rR, rF⟩ : GrpAt _ g gr gf PP QQ GG) vs hs).mono ?_
    rintro _ wb20 ⟨rfl, hb⟩
    refine ⟨_, rfl, fun _ => below_on cb (Nat.le_refl _) hb, ?_⟩
    simp only [Act.put, pu]
    replace rG := rG.belowAll hb
    replace rR := rR.belowAll hb
    replace rF := rF.belowAll hb
    replace r17 := r17.belowAll hb
    replace hf := hf.below hb
    replace hs := hs.below hb
    replace ht := ht.below hb
    replace hv := hv.below hb
    replace hva := hva.below hb
    replace sb := below_on sb (Nat.le_refl _) hb
    replace cb := below_on cb (Nat.le_refl _) hb
    clear hb
    refine ew_value (by rfl) (.bool true) (fun w' => (exec_eql_nat _ _ _ rfl W1 W1 rfl rfl w').trans (by rw [eq_yes12])) ?_
    simp only [Act.put, pu]
    refine ew_pick (by rfl) true (v := .bool true) rfl rfl rfl ?_
    simp only [Act.put, pu]
    refine ew_mv (by rfl) rfl rfl ?_
    simp only [Act.put, pu]
    refine ew_mv (by rfl) rfl rfl ?_
    simp only [Act.put, pu]
    refine ew_mv (by rfl) rfl rfl ?_
    simp only [Act.put, pu]
    refine ew_mv (by rfl) rfl rfl ?_
    simp only [Act.put, pu]
    refine ew_mv (by rfl) rfl rfl ?_
    simp only [Act.put, pu]
    refine ew_loadm (by rfl) 32 _ rfl _ 0 rfl (fun _ hb => (or17.belowAll hb).r) _ (part_all _) _ Try.underlying32 rfl size_nat ?_
    simp only [Act.put, pu]
    refine ew_mv (by rfl) rfl rfl ?_
    simp only [Act.put, pu]
    refine ew_mv (by rfl) rfl rfl ?_
    simp only [Act.put, pu]
    refine ew_loadm (by rfl) 32 _ rfl _ 0 rfl (fun _ hb => (or17.belowAll hb).r) _ (part_all _) _ Try.underlying32 rfl size_nat ?_
    simp only [Act.put, pu]
    refine ew_callE (by rfl) 14 _ _ rfl Try.func14 (by kernel_rfl) #[.pointer (some ⟨g, 0, none⟩), .slice ab n c, .slice ae m ce] rfl ?_
    intro wa28 hqb
    replace rG := rG.belowAll hqb
    replace rR := rR.belowAll hqb
    replace rF := rF.belowAll hqb
    replace r17 := r17.belowAll hqb
    replace hf := hf.below hqb
    replace hs := hs.below hqb
    replace ht := ht.below hqb
    replace hv := hv.below hqb
    replace hva := hva.below hqb
    replace sb := below_on sb (Nat.le_refl _) hqb
    replace cb := below_on cb (Nat.le_refl _) hqb
    clear hqb
    refine (hmul g gr gf _ sb (⟨rG, rR, rF⟩ : GrpAt _ g gr gf PP QQ GG)).mono ?_
    rintro _ wb28 ⟨vb, rfl, hvb, hb⟩
    refine ⟨_, rfl, fun _ => below_on cb (Nat.le_refl _) hb, ?_⟩
    simp only [Act.put, pu]
    replace rG := rG.belowAll hb
    replace rR := rR.belowAll hb
    replace rF := rF.belowAll hb
    replace r17 := r17.belowAll hb
    replace hf := hf.below hb
    replace hs := hs.below hb
    replace ht := ht.below hb
    replace hv := hv.below hb
    replace hva := hva.below hb
    replace sb := below_on sb (Nat.le_refl _) hb
    replace cb := below_on cb (Nat.le_refl _) hb
    clear hb
    refine ew_callE (by rfl) 11 _ _ rfl Try.func11 (by kernel_rfl) #[.pointer (some ⟨g, 0, none⟩), vb, .agg (natC 77)] rfl ?_
    intro wa30 hqb
    replace rG := rG.belowAll hqb
    replace rR := rR.belowAll hqb
    replace rF := rF.belowAll hqb
    replace r17 := r17.belowAll hqb
    replace hf := hf.below hqb
    replace hs := hs.below hqb
    replace ht := ht.below hqb
    replace hv := hv.below hqb
    replace hva := hva.below hqb
    replace hvb := hvb.below hqb
    replace sb := below_on sb (Nat.le_refl _) hqb
    replace cb := below_on cb (Nat.le_refl _) hqb
    clear hqb
    refine (heM g gr gf _ (⟨rG, rR, rF⟩ : GrpAt _ g gr gf PP QQ GG) vb hvb).mono ?_
    rintro _ wb30 ⟨rfl, hb⟩
    refine ⟨_, rfl, fun _ => below_on cb (Nat.le_refl _) hb, ?_⟩
    simp only [Act.put, pu]
    replace rG := rG.belowAll hb
    replace rR := rR.belowAll hb
    replace rF := rF.belowAll hb
    replace r17 := r17.belowAll hb
    replace hf := hf.below hb
    replace hs := hs.below hb
    replace ht := ht.below hb
    replace hv := hv.below hb
    replace hva := hva.below hb
    replace hvb := hvb.below hb
    replace sb := below_on sb (Nat.le_refl _) hb
    replace cb := below_on cb (Nat.le_refl _) hb
    clear hb
    refine ew_callE (by rfl) 11 _ _ rfl Try.func11 (by kernel_rfl) #[.pointer (some ⟨g, 0, none⟩), vm, .agg (natC 77)] rfl ?_
    intro wa34 hqb
    replace rG := rG.belowAll hqb
    replace rR := rR.belowAll hqb
    replace rF := rF.belowAll hqb
    replace r17 := r17.belowAll hqb
    replace hf := hf.below hqb
    replace hs := hs.below hqb
    replace ht := ht.below hqb
    replace hv := hv.below hqb
    replace hva := hva.below hqb
    replace hvb := hvb.below hqb
    replace sb := below_on sb (Nat.le_refl _) hqb
    replace cb := below_on cb (Nat.le_refl _) hqb
    clear hqb
    refine (heT g gr gf _ (⟨rG, rR, rF⟩ : GrpAt _ g gr gf PP QQ GG) vm ht).mono ?_
    rintro _ wb34 ⟨rfl, hb⟩
    refine ⟨_, rfl, fun _ => below_on cb (Nat.le_refl _) hb, ?_⟩
    simp only [Act.put, pu]
    replace rG := rG.belowAll hb
    replace rR := rR.belowAll hb
    replace rF := rF.belowAll hb
    replace r17 := r17.belowAll hb
    replace hf := hf.below hb
    replace hs := hs.below hb
    replace ht := ht.below hb
    replace hv := hv.below hb
    replace hva := hva.below hb
    replace hvb := hvb.below hb
    replace sb := below_on sb (Nat.le_refl _) hb
    replace cb := below_on cb (Nat.le_refl _) hb
    clear hb
    refine ew_value (by rfl) (.bool true) (fun w' => (exec_eql_nat _ _ _ rfl W2 W2 rfl rfl w').trans (by rw [eq_yes12])) ?_
    simp only [Act.put, pu]
    refine ew_pick (by rfl) true (v := .bool true) rfl rfl rfl ?_
    simp only [Act.put, pu]
    refine ew_mv (by rfl) rfl rfl ?_
    simp only [Act.put, pu]
    refine ew_call (by rfl) 5 _ _ rfl Try.func5 (by kernel_rfl) #[] rfl _ (fun w _ => haw w) ?_
    simp only [Act.put, pu]
    refine ew_pick (by rfl) true (v := .bool true) rfl rfl rfl ?_
    simp only [Act.put, pu]
    refine ew_as (by rfl) rfl rfl ?_
    simp only [Act.put, pu]
    refine ew_nil ?_
    intro wz hqb
    replace rG := rG.belowAll hqb
    replace rR := rR.belowAll hqb
    replace rF := rF.belowAll hqb
    replace r17 := r17.belowAll hqb
    replace hf := hf.below hqb
    replace hs := hs.below hqb
    replace ht := ht.below hqb
    replace hv := hv.below hqb
    replace hva := hva.below hqb
    replace hvb := hvb.below hqb
    replace sb := below_on sb (Nat.le_refl _) hqb
    clear hqb cb osb ohf ohs oht orG orR orF or17
    go_wp2
    go_ret
    exact ⟨rfl, sb⟩
   ·kernel_rfl
  | succ y =>
   have hlt : i < T := by omega
   have hxi : 3 * i + 1 < 100 := by omega
   have hevi := fun w' hb hg => hev g gr gf (3 * i + 1) w' hb hg hxi
   clear hthr htr hsm hadd hmul heA heS heM heT ha1 hm1 hev7 hfv7 haw hev
   (repeat ((fail_if_success with_reducible refine rg ?_); go_step))
   refine wp_region_pw ?_
   refine pw_mv (by rfl) rfl rfl ?_
   simp only [Act.put, pu]
   refine pw_mv (by rfl) rfl rfl ?_
   simp only [Act.put, pu]
   refine pw_value (by rfl) (.int .i64 n) (exec_len_s 22 _ rfl (ab) (n) (c) rfl sl_natsX) ?_
   simp only [Act.put, pu]
   refine pw_mv (by rfl) rfl rfl ?_
   simp only [Act.put, pu]
   refine pw_value (by rfl) (.int .i64 (q2 : Nat)) (fun w' => (exec_bits_i .and _ _ _ _ (.inl rfl) rfl a2 3 rfl rfl w').trans (by rw [hq2])) ?_
   simp only [Act.put, pu]
   refine pw_value (by rfl) (.int .i64 ((T : Nat) : Int)) (fun w' => (exec_add_in _ _ _ _ rfl n q2 rfl rfl (by omega) w').trans (by rw [hT])) ?_
   simp only [Act.put, pu]
   refine pw_value (by rfl) (.bool true) (exec_lt_b _ _ _ _ rfl i T rfl rfl true (decide_eq_true (by omega))) ?_
   simp only [Act.put, pu]
   refine pw_nil ?_
   (repeat ((fail_if_success with_reducible refine rg ?_); go_step))
   refine wp_region_pw ?_
   refine pw_mv (by rfl) rfl rfl ?_
   simp only [Act.put, pu]
   refine pw_value (by rfl) (.int .i64 ((3 * i : Nat) : Int)) (exec_mul_in _ _ _ _ rfl 3 i (3 * i) rfl rfl rfl (by omega)) ?_
   simp only [Act.put, pu]
   refine pw_value (by rfl) (.int .i64 ((3 * i + 1 : Nat) : Int)) (exec_add_in _ _ _ _ rfl (3 * i) 1 rfl rfl (by omega)) ?_
   simp only [Act.put, pu]
   refine pw_callB (by rfl) 10 _ _ rfl Try.func10 (by kernel_rfl) #[.int .i64 ((3 * i + 1 : Nat) : Int)] rfl _ (o12 (3 * i + 1) _ hxi) ?_
   intro z11003 k
   simp only [Act.put, pu]
   replace rG := k.row rG (by simp <;> omega)
   replace rR := k.row rR (by simp <;> omega)
   replace rF := k.row rF (by simp <;> omega)
   replace hX := hX.on k (own_ne0 _)
   replace hY := hY.on k (own_ne0 _)
   replace sb := sb.trans (k.below w.heap.size sb.size (by simp <;> omega))
   clear k
   refine pw_new (by rfl) 32 rfl _ zero_nat ?_
   intro g14 z11004 n0 r14 k
   simp only [Act.put, pu]
   have dGx14 := Nat.lt_of_lt_of_le rG.lt n0
   have dRx14 := Nat.lt_of_lt_of_le rR.lt n0
   have dFx14 := Nat.lt_of_lt_of_le rF.lt n0
   have ehXx14 := hX.new n0
   have ehYx14 := hY.new n0
   have b14 := Nat.le_trans sb.size n0
   clear n0
   replace rG := k.row rG (by simp <;> omega)
   replace rR := k.row rR (by simp <;> omega)
   replace rF := k.row rF (by simp <;> omega)
   replace hX := hX.on k (own_ne0 _)
   replace hY := hY.on k (own_ne0 _)
   replace sb := sb.trans (k.below w.heap.size sb.size (by simp <;> omega))
   clear k
   refine pw_put (by rfl) 32 _ _ rfl _ rfl r14 (natC (3 * i + 1)) rfl (by exact size_nat) (by simp only [natC_size]) (natC_one _) ?_
   clear r14
   intro z11005 r14 k
   simp only [Act.put]
   replace rG := k.row rG (by simp <;> omega)
   replace rR := k.row rR (by simp <;> omega)
   replace rF := k.row rF (by simp <;> omega)
   replace hX := hX.on k (own_ne1 ehXx14)
   replace hY := hY.on k (own_ne1 ehYx14)
   replace sb := sb.trans (k.below w.heap.size sb.size (by simp <;> omega))
   clear k
   refine pw_nil ?_
   (repeat ((fail_if_success with_reducible refine rg ?_); go_step))
   refine wp_region_pw ?_
   refine pw_mv (by rfl) rfl rfl ?_
   simp only [Act.put, pu]
   refine pw_loadm (by rfl) 32 _ rfl _ 0 rfl r14.r _ (part_all _) _ Try.underlying32 rfl size_nat ?_
   simp only [Act.put, pu]
   refine pw_litr (by rfl) 22 32 1 _ rfl (natC (3 * i + 1)) ie _ Try.underlying22 hie hz hs1 hs2 [(0, .agg (natC (3 * i + 1)))] rfl (hl1 _) ?_
   intro gA z12002 n0 rA k
   simp only [Act.put, pu]
   have dGxA := Nat.lt_of_lt_of_le rG.lt n0
   have dRxA := Nat.lt_of_lt_of_le rR.lt n0
   have dFxA := Nat.lt_of_lt_of_le rF.lt n0
   have d14xA := Nat.lt_of_lt_of_le r14.lt n0
   have ehXxA := hX.new n0
   have ehYxA := hY.new n0
   have bA := Nat.le_trans sb.size n0
   clear n0
   replace rG := k.row rG (by simp <;> omega)
   replace rR := k.row rR (by simp <;> omega)
   replace rF := k.row rF (by simp <;> omega)
   replace r14 := k.row r14 (by simp <;> omega)
   replace hX := hX.on k (own_ne0 _)
   replace hY := hY.on k (own_ne0 _)
   replace sb := sb.trans (k.below w.heap.size sb.size (by simp <;> omega))
   clear k
   refine pw_appN (by rfl) _ _ rfl (w.heap.size) (_) (i) ((fun j => 3 * j + 1)) rfl hX gA _ rfl rA (by omega) sb.size ?_
   have h0 := hX
   clear hX
   intro v1 z12003 hX k hp
   simp only [Act.put, pu]
   have crG := rG.lt
   replace rG := k.row rG (by first | exact own_nin ehXxG | exact own_nin (h0.low (by omega)))
   have crR := rR.lt
   replace rR := k.row rR (by first | exact own_nin ehXxR | exact own_nin (h0.low (by omega)))
   have crF := rF.lt
   replace rF := k.row rF (by first | exact own_nin ehXxF | exact own_nin (h0.low (by omega)))
   have cr14 := r14.lt
   replace r14 := k.row r14 (by first | exact own_nin ehXx14 | exact own_nin (h0.low (by omega)))
   have zt := own_two hY hp zhXxhY
   replace hY := hY.on k (own_nin2 zhXxhY)
   clear zhXxhY zhYxhX
   have zhXxhY := zt
   have zhYxhX := own_sym zt
   clear zt
   (try replace ehXxG := own_apart hp crG ehXxG)
   clear crG
   (try replace ehXxR := own_apart hp crR ehXxR)
   clear crR
   (try replace ehXxF := own_apart hp crF ehXxF)
   clear crF
   (try replace ehXx14 := own_apart hp cr14 ehXx14)
   clear cr14
   clear hp
   replace sb := sb.trans (k.below w.heap.size sb.size h0.base)
   clear h0
   clear k
   refine pw_as (by rfl) rfl rfl ?_
   simp only [Act.put, pu]
   refine pw_nil ?_
   (repeat ((fail_if_success with_reducible refine rg ?_); go_step))
   refine wp_region_pw ?_
   refine pw_mv (by rfl) rfl rfl ?_
   simp only [Act.put, pu]
   refine pw_mv (by rfl) rfl rfl ?_
   simp only [Act.put, pu]
   refine pw_mv (by rfl) rfl rfl ?_
   simp only [Act.put, pu]
   refine pw_loadm (by rfl) 32 _ rfl _ 0 rfl r14.r _ (part_all _) _ Try.underlying32 rfl size_nat ?_
   simp only [Act.put, pu]
   refine pw_callB (by rfl) 11 _ _ rfl Try.func11 (by kernel_rfl) #[.pointer (some ⟨g, 0, none⟩), .slice ab n c, .agg (natC (3 * i + 1))] rfl _ (hevi _ sb (⟨rG, rR, rF⟩ : GrpAt _ g gr gf PP QQ GG)) ?_
   intro z13004 k
   simp only [Act.put, pu]
   replace rG := k.row rG (by simp <;> omega)
   replace rR := k.row rR (by simp <;> omega)
   replace rF := k.row rF (by simp <;> omega)
   replace r14 := k.row r14 (by simp <;> omega)
   replace hX := hX.on k (own_ne0 _)
   replace hY := hY.on k (own_ne0 _)
   replace sb := sb.trans (k.below w.heap.size sb.size (by simp <;> omega))
   clear k
   refine pw_litr (by rfl) 22 32 1 _ rfl (natC ((pev (fi (3 * i + 1)) (fl n F : List (Fin QQ))).val)) ie _ Try.underlying22 hie hz hs1 hs2 [(0, .agg (natC ((pev (fi (3 * i + 1)) (fl n F : List (Fin QQ))).val)))] rfl (hl1 _) ?_
   intro gB z13005 n0 rB k
   simp only [Act.put, pu]
   have dGxB := Nat.lt_of_lt_of_le rG.lt n0
   have dRxB := Nat.lt_of_lt_of_le rR.lt n0
   have dFxB := Nat.lt_of_lt_of_le rF.lt n0
   have d14xB := Nat.lt_of_lt_of_le r14.lt n0
   have ehXxB := hX.new n0
   have ehYxB := hY.new n0
   have bB := Nat.le_trans sb.size n0
   clear n0
   replace rG := k.row rG (by simp <;> omega)
   replace rR := k.row rR (by simp <;> omega)
   replace rF := k.row rF (by simp <;> omega)
   replace r14 := k.row r14 (by simp <;> omega)
   replace hX := hX.on k (own_ne0 _)
   replace hY := hY.on k (own_ne0 _)
   replace sb := sb.trans (k.below w.heap.size sb.size (by simp <;> omega))
   clear k
   refine pw_appN (by rfl) _ _ rfl (w.heap.size) (_) (i) ((fun j => (pev (fi (3 * j + 1)) (fl n F : List (Fin QQ))).val)) rfl hY gB _ rfl rB (by omega) sb.size ?_
   have h0 := hY
   clear hY
   intro v1 z13006 hY k hp
   simp only [Act.put, pu]
   have crG := rG.lt
   replace rG := k.row rG (by first | exact own_nin ehYxG | exact own_nin (h0.low (by omega)))
   have crR := rR.lt
   replace rR := k.row rR (by first | exact own_nin ehYxR | exact own_nin (h0.low (by omega)))
   have crF := rF.lt
   replace rF := k.row rF (by first | exact own_nin ehYxF | exact own_nin (h0.low (by omega)))
   have cr14 := r14.lt
   replace r14 := k.row r14 (by first | exact own_nin ehYx14 | exact own_nin (h0.low (by omega)))
   have zt := own_two hX hp zhYxhX
   replace hX := hX.on k (own_nin2 zhYxhX)
   clear zhYxhX zhXxhY
   have zhYxhX := zt
   have zhXxhY := own_sym zt
   clear zt
   (try replace ehYxG := own_apart hp crG ehYxG)
   clear crG
   (try replace ehYxR := own_apart hp crR ehYxR)
   clear crR
   (try replace ehYxF := own_apart hp crF ehYxF)
   clear crF
   (try replace ehYx14 := own_apart hp cr14 ehYx14)
   clear cr14
   clear hp
   replace sb := sb.trans (k.below w.heap.size sb.size h0.base)
   clear h0
   clear k
   refine pw_as (by rfl) rfl rfl ?_
   simp only [Act.put, pu]
   refine pw_nil ?_
   (repeat ((fail_if_success with_reducible refine rg ?_); go_step))
   refine wp_region_pw ?_
   refine pw_mv (by rfl) rfl rfl ?_
   simp only [Act.put, pu]
   refine pw_value (by rfl) (.int .i64 ((i + 1 : Nat) : Int)) (exec_add_in _ _ _ _ rfl i 1 rfl rfl (by omega)) ?_
   simp only [Act.put, pu]
   refine pw_as (by rfl) rfl rfl ?_
   simp only [Act.put, pu]
   refine pw_nil ?_
   go_wp2
   go_roundg y
   case measure => omega
   case rel => exact ⟨i + 1, by omega, rfl, hX, hY, ehXxG, ehXxR, ehXxF, ehYxG, ehYxR, ehYxF, zhXxhY, ⟨rG, rR, rF⟩, sb⟩
theorem walk (a0 : Int) (ab : Option Addr) (n c : Nat) (F : Nat → Nat) (gb ob : Nat) (bcs : Array Value) (tb : TypeId) (ae : Option Addr) (m ce : Nat) (E : Nat → Nat) (ge oe : Nat) (ecs : Array Value) (te : TypeId) (a2 : Int) (w : World) (_ : -9223372036854775808 ≤ a0 ∧ a0 ≤ 9223372036854775807) (hna : NatsAt w ab n F gb ob bcs tb) (hnb : NatsAt w ae m E ge oe ecs te) (_ : -9223372036854775808 ≤ a2 ∧ a2 ≤ 9223372036854775807) :
  Calls Try.prog 3 #[.int .i64 a0, .agg #[.slice ab n c, .slice ae m ce], .int .i64 a2] w fun e w' => e = .returned (.bool true) ∧ Below w.heap.size w w' := by
 by_cases h : 6 < n ∨ 6 < m
 ·exact core0 a0 a2 n c m ce ab ae w h
 obtain ⟨his, hlt, hG, h2, h63, hL⟩ := pk_gr (ly8 a0 % 3)
 have pQ := (grN_primes his).2
 have hQ := hlt (pk (ly8 a0 % 3) 3 3 5 - 2) (by omega)
 have hbig := pk_big (ly8 a0 % 3)
 have q : FdQ (lN (pk (ly8 a0 % 3) leL otL grL) (pk (ly8 a0 % 3) 3 3 5 - 2)) := ⟨⟨by omega, isP_odd pQ (by omega), pQ.1⟩, pQ⟩
 haveI : NeZero (lN (pk (ly8 a0 % 3) leL otL grL) (pk (ly8 a0 % 3) 3 3 5 - 2)) := ⟨by omega⟩
 exact core1 a0 a2 (ly8 a0) (ly8 a0 % 3) (ly2 a2) (pk (ly8 a0 % 3) leG otG grG) _ _ 3 3 5 leG otG grG _ _ _ n c m ce ab ae F E gb ob ge oe bcs ecs tb te w (and_ly8 a0) rfl (and_ly2 a2) (ly2_lt a2) (by omega) (by omega) q hbig hna hnb rleast_any rother_any rgreat_any
  (fun w' x r => gnew_yes (pk (ly8 a0 % 3) 3 3 5) (pk (ly8 a0 % 3) 3 3 5) (some ⟨x, 0, none⟩) (pk (ly8 a0 % 3) leG otG grG) _ _ x 0 _ _ w' h63 hG (lks_links (hL ▸ r) hlt) his)
set_option maxRecDepth 100000 in
theorem lifted (os : Os) (started : os.Started) (H : Type) (enc : TypeId × Value → H) :
  ReturnsInHanded {} Try.checked os 3 .any (Rows.polyBackSpec.pre6 enc Try.prog Try.f3 Rows.polyBackRow.domain false) (Rows.polyBackSpec.post enc Try.prog Try.f3 false true false false) := by
 refine returnsInHanded_of_change (C := Try.checked) own started (by kernel_rfl) Try.func3
  (ChangeSpec.witness6 (enc := enc) (C := Try.checked) false ⟨#[], #[.int .i64 0, .agg #[.slice none 0 0, .slice none 0 0], .int .i64 0], []⟩ 8 (by kernel_rfl) (by kernel_rfl) (by kernel_rfl) (by kernel_rfl)) ?_
 intro W base args ds gs before hval0 hW hcnd _
 have hval : ∀ (j : Nat) t v, Try.f3.params[j]? = some t → args[j]? = some v → Value.okWide Try.prog W .any base t v := hval0
 have hW' := hW
 obtain ⟨p, q, hA0, hV, rfl, hfz, hnd⟩ := hW
 have hA : DataW.TrodAll enc Try.prog W 0 (fun _ => true) true Try.f3.params.toList args.toList ds p := hA0
 rw [Try.params3] at hA hval
 obtain ⟨v0, vs0, d0, ds0, p0, q0, hargs, rfl, rfl, h0, r0⟩ := trodAll_cons hA
 obtain ⟨v1, vs1, d1, ds1, p1, q1, rfl, rfl, rfl, h1, r1⟩ := trodAll_cons r0
 obtain ⟨v2, vs2, d2, ds2, p2, q2, rfl, rfl, rfl, h2, r2⟩ := trodAll_cons r1
 obtain ⟨rfl, rfl, rfl⟩ := trodAll_nil r2
 obtain rfl : args = #[v0, v1, v2] := by cases args; simp_all
 obtain ⟨rfl, rfl⟩ := trodVars_none hV
 have k0 := h0
 have lt0 := lt_of_trod h0
 obtain ⟨a0, rfl, rfl, rfl, w0⟩ := open_int Try.underlying3 (hval 0 3 v0 rfl rfl) h0
 have k1 := h1
 have lt1 := lt_of_trod h1
 obtain ⟨ab1, n1, c1, F1, gb1, ob1, bcs1, tb1, ae1, m1, ce1, E1, ge1, oe1, ecs1, te1, rfl, hn1, hm1⟩ := open_two (hval 1 23 v1 rfl rfl) h1
 have k2 := h2
 have lt2 := lt_of_trod h2
 obtain ⟨a2, rfl, rfl, rfl, w2⟩ := open_int Try.underlying3 (hval 2 3 v2 rfl rfl) h2
 clear hA0 hval0
 refine (walk a0 ab1 n1 c1 F1 gb1 ob1 bcs1 tb1 ae1 m1 ce1 E1 ge1 oe1 ecs1 te1 a2 W (bounds_i64 w0) hn1 hm1 (bounds_i64 w2)).mono fun e W' ⟨he, bel⟩ => ?_
 subst he
 exact ⟨_, rfl, _, _, _, [], _, [], hW', trodAll_mk1 (shut_bool Try.underlying4 _), (trodAll_cons_mk (Below.trod laidOut (by kernel_rfl) (of_decide_eq_true (by kernel_rfl)) k0 bel lt0) (trodAll_cons_mk (Below.trod laidOut (by kernel_rfl) (of_decide_eq_true (by kernel_rfl)) k1 bel lt1) (trodAll_cons_mk (Below.trod laidOut (by kernel_rfl) (of_decide_eq_true (by kernel_rfl)) k2 bel lt2) trodAll_mk0))), rfl, bel.frame _, fun h => by cases h⟩
theorem over : Rows.polyBackRow.holds Try.pinned (OpenSpec.ofChange Rows.polyBackSpec) :=
 OpenClaim.holds_of_wide 3 Try.f3 rfl rfl rfl rfl rfl rfl rfl ⟨rfl, rfl, rfl, rfl, rfl⟩ rfl rfl rfl rfl rfl (by kernel_rfl) Try.func3 (by kernel_rfl)
  (of_decide_eq_true (by kernel_rfl)) (by unfold Func.isWrapper; first | (rw [if_pos (by decide +kernel)]; kernel_rfl) | (rw [if_neg (by decide +kernel)]; exact ⟨rfl, rfl⟩))
  (fun os started H enc _ => lifted os started H enc)
end polyBackP
/-- for every number, two lists of naturals and a number: in one of the three groups, of lists up to 6, what goes through the values of a polynomial at enough places is that polynomial, and values of sums and products are sums and products of values; no condition. -/
theorem polyBack_holds : Rows.PolyBackSaid := polyBackP.over
end Go.Proofs.Ythnpeebnmommbaa
