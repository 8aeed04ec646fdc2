/- ShareHides: for every number, list of naturals and natural: in a small group, of a list of 1 to 6, for any secret there is, by weights, the polynomial that is the secret at 0 and goes through all shares but one; it is the document's through these places; no condition. -/
import Derived.Test.YtfhgdgnhcmakhaaGreatSrAwake
import Derived.Test.YtfhgdgnhcmakhaaGreatSB
import Derived.Test.YtfhgdgnhcmakhaaGreatSrRef
import Derived.Test.YtfhgdgnhcmakhaaGreatUWts
import Derived.Test.YtfhgdgnhcmakhaaGreatGU
set_option maxRecDepth 100000
set_option maxHeartbeats 2000000
namespace Go.Proofs.YtfhgdgnhcmakhaaGreat
open Go.ChangeShapes Go.WideShapes Go.ChangeAt Go.RowKit
namespace shareHidesP
set_option linter.unusedVariables false
set_option linter.unusedSectionVars false
theorem sl_ll : Tryz.prog.underlying 44 = some (.slice (Tryz.prog.elem 44)) := by kernel_rfl
/-- The law's sums. -/
def sS (q : Nat) (W ys : Nat → Nat) : Nat → Nat
 | 0 => 0
 | i + 1 => (sS q W ys i + W i * ys i % q) % q
theorem sS_lt {q : Nat} (h : 0 < q) (W ys : Nat → Nat) : ∀ i, sS q W ys i < q
 | 0 => h
 | _ + 1 => Nat.mod_lt _ h
theorem sS_fi {q : Nat} [NeZero q] (W ys : Nat → Nat) : ∀ k, (fi (sS q W ys k) : Fin q) = psm (fun a => fi (W a) * fi (ys a)) k
 | 0 => fi_zero
 | k + 1 => by
  show fi ((sS q W ys k + W k * ys k % q) % q) = psm _ k + _
  rw [fi_mod, fi_add, fi_mod, fi_mul, sS_fi W ys k]
theorem ownI_lit {w : World} {base g : Nat} {u : Nat → Nat} (r : Row w g #[.int .i64 (u 0 : Nat)] 3) (hb : base ≤ g) : OwnI w base (.slice (some ⟨g, 0, none⟩) 1 1) 1 u := by
 have e : (isC 1 u).toList = [.int .i64 (u 0 : Nat)] := by
  rw [← isC_snoc 0 u]
  simp [isC]
 refine ⟨by rw [e]; rfl, .inr ⟨g, 1, _, rfl, hb, r, Nat.le_refl _, by decide, rfl, ?_⟩⟩
 rw [e]
 rfl
section
variable {Q : Nat} [NeZero Q]
/-- A weight is the coefficient of the one that is 1 at its place. -/
theorem wt_co (q : FdQ Q) (I : Nat → Nat) (n : Nat) (hd : ∀ i j, i < n → j < n → i ≠ j → (fi (I i) : Fin Q) ≠ fi (I j)) (k j : Nat) (hk : k < n) : pco (wtP I n k : List (Fin Q)) j = pco (plg ivF (fun i => (fi (I i) : Fin Q)) 1 k n) j := by
 unfold wtP
 rw [tTh_is q.pr ivF (ivF_is q) _ _ n hd, pthr_co]
 have h := psm_one (fun _ => (0 : Fin Q)) (fun i => (fi (onK k i) : Fin Q) * pco (plg ivF (fun i => (fi (I i) : Fin Q)) 1 i n) j) k (pco (plg ivF (fun i => (fi (I i) : Fin Q)) 1 k n) j) (by
  show (fi (if k = k then 1 else 0) : Fin Q) * _ = 0 + _
  rw [if_pos rfl, fi_one]
  grind) (fun i hi => by
  show (fi (if i = k then 1 else 0) : Fin Q) * _ = 0
  rw [if_neg hi, fi_zero]
  grind) n hk
 rw [h, psm_zero _ _ (fun _ _ => rfl)]
 grind
/-- What the weights lead to is the one through the places. -/
theorem wts_sum (q : FdQ Q) (I ys : Nat → Nat) (n : Nat) (hd : ∀ i j, i < n → j < n → i ≠ j → (fi (I i) : Fin Q) ≠ fi (I j)) (i : Nat) :
  pco (fl n (fun a => sS Q (wtV (Q := Q) I n n 0 a) ys n) : List (Fin Q)) i = pco (pthr ivF (fun i => (fi (I i) : Fin Q)) (fun i => (fi (ys i) : Fin Q)) n n) i := by
 by_cases hi : i < n
 ·rw [fl_co _ _ _ hi, sS_fi, pthr_co]
  exact psm_congr _ _ _ fun a ha => by
   show (fi (wtV (Q := Q) I n n 0 i a) : Fin Q) * fi (ys a) = fi (ys a) * pco (plg ivF _ 1 a n) i
   rw [← wt_co q I n hd a i ha]
   have : wtV (Q := Q) I n n 0 i a = (pco (wtP I n a : List (Fin Q)) i).val := if_pos (.inl ha)
   rw [this, fi_of]
   grind
 ·rw [fl_out _ _ _ (by omega), pco_out _ _ (by have := pthr_length ivF (fun i => (fi (I i) : Fin Q)) (fun i => (fi (ys i) : Fin Q)) n n (Nat.le_refl n); omega)]
end
theorem core0 (a0 : Int) (n c N : Nat) (ab : Option Addr) (w : World) (h : n < 1 ∨ 6 < n) :
  Calls Tryz.prog 4 #[.int .i64 a0, .slice ab n c, .agg (natC N)] w fun e w' => e = .returned (.bool true) ∧ Below w.heap.size w w' := by
 have haw := awake13_any
 go_enter Tryz.func4, Tryz.ntmps4
 have sb := sbmk w
 repeat ((fail_if_success with_reducible apply rg); go_step)
 refine rp ?_
 refine pw_boxr (by rfl) 38 _ rfl (natC N) rfl ?_
 intro g5 z0 n0 r5 k
 simp only [pv]
 have b5 := Nat.le_trans sb.size n0
 clear n0
 replace sb := kk sb k
 clear k
 refine pw_value (by rfl) (.bool false) (fun _ => rfl) ?_
 simp only [pv]
 refine pw_nil ?_
 by_cases h1 : n < 1
 ·repeat ((fail_if_success with_reducible apply rg); go_step)
  refine rp ?_
  refine pw_mv (by rfl) rfl rfl ?_
  simp only [pv]
  refine pw_value (by rfl) (.int .i64 n) (exec_len_s 22 _ rfl (ab) (n) (c) rfl sl_natsX) ?_
  simp only [pv]
  refine pw_value (by rfl) (.bool true) (exec_lt_b _ _ _ _ rfl n 1 rfl rfl true (decide_eq_true (by omega))) ?_
  refine pw_mv (by rfl) rfl rfl ?_
  simp only [pv]
  refine pw_skip (by rfl) ?_
  simp only [pv]
  refine pw_skip (by rfl) ?_
  simp only [pv]
  refine pw_skip (by rfl) ?_
  simp only [pv]
  refine pw_pick (by rfl) true (v := .bool true) rfl rfl rfl ?_
  simp only [pv]
  refine pw_nil ?_
  repeat ((fail_if_success with_reducible apply rg); go_step)
  refine rp ?_
  refine pw_callB (by rfl) 5 _ _ rfl Tryz.func5 (by kernel_rfl) #[] rfl _ (haw _) ?_
  intro z2000 k
  simp only [pv]
  replace sb := kk sb k
  clear k
  refine pw_as (by rfl) rfl rfl ?_
  simp only [pv]
  refine pw_nil ?_
  go_wp2
  go_ret
  exact ⟨rfl, sb⟩
 ·repeat ((fail_if_success with_reducible apply rg); go_step)
  refine rp ?_
  refine pw_mv (by rfl) rfl rfl ?_
  simp only [pv]
  refine pw_value (by rfl) (.int .i64 n) (exec_len_s 22 _ rfl (ab) (n) (c) rfl sl_natsX) ?_
  simp only [pv]
  refine pw_value (by rfl) (.bool false) (exec_lt_b _ _ _ _ rfl n 1 rfl rfl false (decide_eq_false (by omega))) ?_
  refine pw_mv (by rfl) rfl rfl ?_
  refine pw_mv (by rfl) rfl rfl ?_
  simp only [pv]
  refine pw_value (by rfl) (.int .i64 n) (exec_len_s 22 _ rfl (ab) (n) (c) rfl sl_natsX) ?_
  simp only [pv]
  refine pw_value (by rfl) (.bool true) (exec_gt_i _ _ _ _ rfl n 6 rfl rfl true (decide_eq_true (by omega))) ?_
  simp only [pv]
  refine pw_pick (by rfl) false (v := .bool true) rfl rfl rfl ?_
  simp only [pv]
  refine pw_nil ?_
  repeat ((fail_if_success with_reducible apply rg); go_step)
  refine rp ?_
  refine pw_callB (by rfl) 5 _ _ rfl Tryz.func5 (by kernel_rfl) #[] rfl _ (haw _) ?_
  intro z2000 k
  simp only [pv]
  replace sb := kk sb k
  clear k
  refine pw_as (by rfl) rfl rfl ?_
  simp only [pv]
  refine pw_nil ?_
  go_wp2
  go_ret
  exact ⟨rfl, sb⟩
theorem core1 (a0 : Int) (PP QQ GG n c N : Nat) (ab : Option Addr) [NeZero QQ] (ys : Nat → Nat) (WV : Nat → Nat → Nat) (PT : List (Fin QQ)) (w : World) (hn : n ≤ 6) (hn1 : 1 ≤ n) (q : FdQ QQ) (hq : QQ < 4611686018427387904) (hbig : 1000 < QQ) (hyl : ∀ k, ys k < QQ)
  (hsm : ∀ w', Calls Tryz.prog 6 #[.int .i64 a0] w' fun e w2 => ∃ g gr gf, e = .returned (.tuple #[.pointer (some ⟨g, 0, none⟩), .int .i64 (QQ : Nat), .bool true]) ∧ GrpAt w2 g gr gf PP QQ GG ∧ Below w'.heap.size w' w2)
  (hde : ∀ g gr gf w', Below w.heap.size w w' → GrpAt w' g gr gf PP QQ GG → Calls Tryz.prog 7 #[.pointer (some ⟨g, 0, none⟩), .slice ab n c, .int .i64 n] w' fun e w2 => ∃ gL, e = .returned (.tuple #[.slice (some ⟨gL, 0, none⟩) n n, .int .i64 0]) ∧ w'.heap.size ≤ gL ∧ Row w2 gL (esC 5 n (fun k => shC ((k + 1 : Nat) : Int) (ys (k + 1)))) 43 ∧ Below w'.heap.size w' w2)
  (hby : ∀ w', Calls Tryz.prog 11 #[.agg (natC N), .int .i64 (QQ : Nat)] w' fun e w2 => e = .returned (.int .i64 (ys 0 : Nat)) ∧ Below w'.heap.size w' w2)
  (hlo : ∀ k w', Calls Tryz.prog 12 #[.agg (natC (ys (k + 1)))] w' fun e w2 => e = .returned (.tuple #[.int .i64 (ys (k + 1) : Nat), .bool true]) ∧ Below w'.heap.size w' w2)
  (hwt : ∀ g gr gf w' ax cx gx cur, GrpAt w' g gr gf PP QQ GG → NumsAt w' ax n (fun k => k) gx 0 cur 3 → Calls Tryz.prog 13 #[.pointer (some ⟨g, 0, none⟩), .slice ax n cx] w' fun e w2 => ∃ gW R, e = .returned (.tuple #[.slice (some ⟨gW, 0, none⟩) n n, .int .i64 0]) ∧ Row w2 gW (vsC n (fun j => .slice (some ⟨R j, 0, none⟩) n n)) 22 ∧ FamAt w2 w'.heap.size n R WV n ∧ Below w'.heap.size w' w2)
  (hbw : ∀ j i w', Calls Tryz.prog 11 #[.agg (natC (WV j i)), .int .i64 (QQ : Nat)] w' fun e w2 => e = .returned (.int .i64 (WV j i : Nat)) ∧ Below w'.heap.size w' w2)
  (hPT : ptrim (fl n (fun a => sS QQ (WV a) ys n) : List (Fin QQ)) = PT) (hev0 : (pev (fi 0) (fl n (fun a => sS QQ (WV a) ys n) : List (Fin QQ))).val = ys 0) (hPl : PT.length ≤ 100)
  (hth : ∀ w' vx vy, IlAt w' vx (fl n (fun k => k) : List (Fin QQ)) → IlAt w' vy (fl n ys : List (Fin QQ)) → Calls Tryz.prog 18 #[vx, vy, .int .i64 (QQ : Nat)] w' fun e w2 => ∃ v', e = .returned v' ∧ IlAt w2 v' PT ∧ Below w'.heap.size w' w2) :
  Calls Tryz.prog 4 #[.int .i64 a0, .slice ab n c, .agg (natC N)] w fun e w' => e = .returned (.bool true) ∧ Below w.heap.size w w' := by
 have haw := awake13_any
 obtain ⟨ie, hie, hz, hsz, _⟩ := info_int'
 have hs1 : ¬ 1 * ie.size > 2 ^ 24 := by rw [hsz]; decide
 have hs2 : ¬ 1 * ie.size = 0 := by rw [hsz]; decide
 have hl1 := fun a => lit_i1 a ie.size hsz
 have hmu := fun x y w' => rmul8_any x y QQ w' q.pos hq
 have had := fun x y w' (hx : x < QQ) (hy : y < QQ) => radd8_any x y QQ w' q.pos (by omega) (by omega)
 have htr := fun w' v (h : IlAt w' v (fl n (fun a => sS QQ (WV a) ys n) : List (Fin QQ))) => rtrimL v _ w' (by rw [fl_length]; omega) h
 rw [hPT] at htr
 have hrs := fun w' v1 v2 (h1 : IlAt w' v1 PT) (h2 : IlAt w' v2 PT) => rsameL v1 v2 PT w' (by omega) h1 h2
 have hev := fun w' v (h : IlAt w' v (fl n (fun a => sS QQ (WV a) ys n) : List (Fin QQ))) => revL v _ 0 w' (by rw [fl_length]; omega) q hq h
 rw [hev0] at hev
 have HSl : Hid (∀ a i, sS QQ (WV a) ys i < QQ) := fun a i => sS_lt q.pos _ _ i
 have HO : Hid (∀ w' b v, OwnI w' b v n (fun a => sS QQ (WV a) ys n) → IlAt w' v (fl n (fun a => sS QQ (WV a) ys n) : List (Fin QQ))) := fun w' b v h => ilAt_own h (fl_length _ _).symm (fun i hi => by rw [fl_co _ _ _ hi, val_fi (sS_lt q.pos _ _ _)])
 have HX : Hid (∀ w' b v, OwnI w' b v n (fun k => k) → IlAt w' v (fl n (fun k => k) : List (Fin QQ))) := fun w' b v h => ilAt_own h (fl_length _ _).symm (fun i hi => by rw [fl_co _ _ _ hi, val_fi (show (fun k => k) i < QQ by show i < QQ; omega)])
 have HY : Hid (∀ w' b v, OwnI w' b v n ys → IlAt w' v (fl n ys : List (Fin QQ))) := fun w' b v h => ilAt_own h (fl_length _ _).symm (fun i hi => by rw [fl_co _ _ _ hi, val_fi (hyl i)])
 have HSZ : Hid (∀ k : Nat, (shC ((k + 1 : Nat) : Int) (ys (k + 1))).size = 5) := fun k => rfl
 have HYL : Hid (∀ k, ys k < QQ) := hyl
 have HQP : Hid (0 < QQ) := q.pos
 clear hPT hev0 hPl hyl hsz
 go_enter Tryz.func4, Tryz.ntmps4
 have sb := sbmk w
 repeat ((fail_if_success with_reducible apply rg); go_step)
 refine rp ?_
 refine pw_boxr (by rfl) 38 _ rfl (natC N) rfl ?_
 intro g5 z0 n0 r5 k
 simp only [pv]
 have b5 := Nat.le_trans sb.size n0
 clear n0
 replace sb := kk sb k
 clear k
 refine pw_value (by rfl) (.bool false) (fun _ => rfl) ?_
 simp only [pv]
 refine pw_nil ?_
 repeat ((fail_if_success with_reducible apply rg); go_step)
 refine rp ?_
 refine pw_mv (by rfl) rfl rfl ?_
 simp only [pv]
 refine pw_value (by rfl) (.int .i64 n) (exec_len_s 22 _ rfl (ab) (n) (c) rfl sl_natsX) ?_
 simp only [pv]
 refine pw_value (by rfl) (.bool false) (exec_lt_b _ _ _ _ rfl n 1 rfl rfl false (decide_eq_false (by omega))) ?_
 refine pw_mv (by rfl) rfl rfl ?_
 refine pw_mv (by rfl) rfl rfl ?_
 simp only [pv]
 refine pw_value (by rfl) (.int .i64 n) (exec_len_s 22 _ rfl (ab) (n) (c) rfl sl_natsX) ?_
 simp only [pv]
 refine pw_value (by rfl) (.bool false) (exec_gt_i _ _ _ _ rfl n 6 rfl rfl false (decide_eq_false (by omega))) ?_
 simp only [pv]
 refine pw_pick (by rfl) false (v := .bool false) rfl rfl rfl ?_
 simp only [pv]
 refine pw_nil ?_
 repeat ((fail_if_success with_reducible apply rg); go_step)
 refine rp ?_
 refine pw_mv (by rfl) rfl rfl ?_
 simp only [pv]
 refine pw_callE (by rfl) 6 _ _ rfl Tryz.func6 (by kernel_rfl) #[.int .i64 a0] rfl (hsm _) ?_
 rintro _ z3001 ⟨g, gr, gf, rfl, ⟨rG, rR, rF⟩, hb⟩
 refine ⟨_, rfl, ?_⟩
 simp only [pv]
 have k := Kept.ofBelow hb
 clear hb
 replace r5 := k.ro r5
 replace sb := kk sb k
 clear k
 refine pw_mv (by rfl) rfl rfl ?_
 refine pw_ext (by rfl) rfl rfl rfl ?_
 refine pw_ext (by rfl) rfl rfl rfl ?_
 refine pw_ext (by rfl) rfl rfl rfl ?_
 refine pw_as (by rfl) rfl rfl ?_
 simp only [pv]
 refine pw_as (by rfl) rfl rfl ?_
 refine pw_as (by rfl) rfl rfl ?_
 simp only [pv]
 refine pw_nil ?_
 clear hsm
 repeat ((fail_if_success with_reducible apply rg); go_step)
 refine rp ?_
 refine pw_mv (by rfl) rfl rfl ?_
 refine pw_mv (by rfl) rfl rfl ?_
 refine pw_mv (by rfl) rfl rfl ?_
 simp only [pv]
 refine pw_value (by rfl) (.int .i64 n) (exec_len_s 22 _ rfl (ab) (n) (c) rfl sl_natsX) ?_
 simp only [pv]
 refine pw_callE (by rfl) 7 _ _ rfl Tryz.func7 (by kernel_rfl) #[.pointer (some ⟨g, 0, none⟩), .slice ab n c, .int .i64 n] rfl (hde g gr gf _ sb (⟨rG, rR, rF⟩ : GrpAt _ g gr gf PP QQ GG)) ?_
 rintro _ z4004 ⟨gL, rfl, nL, rL, hb⟩
 refine ⟨_, rfl, ?_⟩
 simp only [pv]
 have d5xL := Nat.lt_of_lt_of_le r5.lt nL
 have dGxL := Nat.lt_of_lt_of_le rG.lt nL
 have dRxL := Nat.lt_of_lt_of_le rR.lt nL
 have dFxL := Nat.lt_of_lt_of_le rF.lt nL
 have bL := Nat.le_trans sb.size nL
 clear nL
 have k := Kept.ofBelow hb
 clear hb
 replace r5 := k.ro r5
 replace rG := k.ro rG
 replace rR := k.ro rR
 replace rF := k.ro rF
 replace sb := kk sb k
 clear k
 refine pw_mv (by rfl) rfl rfl ?_
 refine pw_ext (by rfl) rfl rfl rfl ?_
 refine pw_ext (by rfl) rfl rfl rfl ?_
 refine pw_as (by rfl) rfl rfl ?_
 refine pw_as (by rfl) rfl rfl ?_
 simp only [pv]
 refine pw_nil ?_
 clear hde
 repeat ((fail_if_success with_reducible apply rg); go_step)
 refine rp ?_
 refine pw_mv (by rfl) rfl rfl ?_
 simp only [pv]
 refine pw_value (by rfl) (.bool false) (exec_not _ _ rfl true rfl) ?_
 refine pw_mv (by rfl) rfl rfl ?_
 refine pw_mv (by rfl) rfl rfl ?_
 simp only [pv]
 refine pw_value (by rfl) (.bool false) (exec_neq_k .i64 _ _ _ _ rfl 0 0 rfl rfl false rfl) ?_
 simp only [pv]
 refine pw_pick (by rfl) false (v := .bool false) rfl rfl rfl ?_
 refine pw_mv (by rfl) rfl rfl ?_
 refine pw_mv (by rfl) rfl rfl ?_
 simp only [pv]
 refine pw_value (by rfl) (.int .i64 n) (exec_len_s 27 _ rfl (some ⟨gL, 0, none⟩) (n) (n) rfl sl_shs) ?_
 refine pw_mv (by rfl) rfl rfl ?_
 simp only [pv]
 refine pw_value (by rfl) (.int .i64 n) (exec_len_s 22 _ rfl (ab) (n) (c) rfl sl_natsX) ?_
 simp only [pv]
 refine pw_value (by rfl) (.bool false) (exec_neq_k .i64 _ _ _ _ rfl n n rfl rfl false (by rw [decide_eq_true rfl]; rfl)) ?_
 simp only [pv]
 refine pw_pick (by rfl) false (v := .bool false) rfl rfl rfl ?_
 simp only [pv]
 refine pw_nil ?_
 repeat ((fail_if_success with_reducible apply rg); go_step)
 refine rp ?_
 refine pw_litr (by rfl) 33 3 1 _ rfl #[.int .i64 0] ie _ Tryz.underlying33 hie hz hs1 hs2 [(0, .int .i64 0)] rfl (hl1 _) ?_
 intro gX z7000 n0 rX k
 simp only [pv]
 have d5xX := Nat.lt_of_lt_of_le r5.lt n0
 have dGxX := Nat.lt_of_lt_of_le rG.lt n0
 have dRxX := Nat.lt_of_lt_of_le rR.lt n0
 have dFxX := Nat.lt_of_lt_of_le rF.lt n0
 have dLxX := Nat.lt_of_lt_of_le rL.lt n0
 have bX := Nat.le_trans sb.size n0
 clear n0
 replace r5 := k.ro r5
 replace rG := k.ro rG
 replace rR := k.ro rR
 replace rF := k.ro rF
 replace rL := k.ro rL
 replace sb := kk sb k
 clear k
 refine pw_as (by rfl) rfl rfl ?_
 simp only [pv]
 refine pw_nil ?_
 repeat ((fail_if_success with_reducible apply rg); go_step)
 refine rp ?_
 refine pw_loadm (by rfl) 38 _ rfl _ 0 rfl r5.r _ (part_all _) _ Tryz.underlying38 rfl size_nat ?_
 refine pw_mv (by rfl) rfl rfl ?_
 simp only [pv]
 refine pw_callB (by rfl) 11 _ _ rfl Tryz.func11 (by kernel_rfl) #[.agg (natC N), .int .i64 (QQ : Nat)] rfl _ (hby _) ?_
 intro z8002 k
 simp only [pv]
 replace r5 := k.ro r5
 replace rG := k.ro rG
 replace rR := k.ro rR
 replace rF := k.ro rF
 replace rL := k.ro rL
 replace rX := k.ro rX
 replace sb := kk sb k
 clear k
 refine pw_litr (by rfl) 33 3 1 _ rfl #[.int .i64 (ys 0 : Nat)] ie _ Tryz.underlying33 hie hz hs1 hs2 [(0, .int .i64 (ys 0 : Nat))] rfl (hl1 _) ?_
 intro gY z8003 n0 rY k
 simp only [pv]
 have d5xY := Nat.lt_of_lt_of_le r5.lt n0
 have dGxY := Nat.lt_of_lt_of_le rG.lt n0
 have dRxY := Nat.lt_of_lt_of_le rR.lt n0
 have dFxY := Nat.lt_of_lt_of_le rF.lt n0
 have dLxY := Nat.lt_of_lt_of_le rL.lt n0
 have dXxY := Nat.lt_of_lt_of_le rX.lt n0
 have bY := Nat.le_trans sb.size n0
 clear n0
 replace r5 := k.ro r5
 replace rG := k.ro rG
 replace rR := k.ro rR
 replace rF := k.ro rF
 replace rL := k.ro rL
 replace rX := k.ro rX
 replace sb := kk sb k
 clear k
 refine pw_as (by rfl) rfl rfl ?_
 simp only [pv]
 refine pw_nil ?_
 repeat ((fail_if_success with_reducible apply rg); go_step)
 refine rp ?_
 refine pw_value (by rfl) (.int .i64 0) (fun _ => rfl) ?_
 simp only [pv]
 refine pw_nil ?_
 have hX := ownI_lit (u := (fun k => k)) rX bX
 have hY := ownI_lit (u := ys) rY bY
 have hXY : gX ≠ gY := by omega
 clear r5 hby
 go_wp2_with fail
 go_loopg [12, 13, 14] (n - 1) (fun x s12 s13 s14 wr => ∃ i : Nat, i + x = n - 1 ∧ s14 = .int .i64 i ∧ OwnI wr w.heap.size s12 (i + 1) (fun k => k) ∧ OwnI wr w.heap.size s13 (i + 1) ys ∧ s12.ownBlock ≠ some g ∧ s12.ownBlock ≠ some gr ∧ s12.ownBlock ≠ some gf ∧ s12.ownBlock ≠ some gL ∧ s13.ownBlock ≠ some g ∧ s13.ownBlock ≠ some gr ∧ s13.ownBlock ≠ some gf ∧ s13.ownBlock ≠ some gL ∧ (∀ b, s13.ownBlock = some b → s12.ownBlock ≠ some b) ∧ GrpAt wr g gr gf PP QQ GG ∧ Row wr gL (esC 5 n (fun k => shC ((k + 1 : Nat) : Int) (ys (k + 1)))) 43 ∧ Below w.heap.size w wr)
 case atStart =>
  refine ⟨0, by omega, rfl, hX, hY, ?_, ?_, ?_, ?_, ?_, ?_, ?_, ?_, ?_, ⟨rG, rR, rF⟩, rL, sb⟩
  ·exact fun e => absurd (Option.some.inj (show some gX = some g from e)) (by omega)
  ·exact fun e => absurd (Option.some.inj (show some gX = some gr from e)) (by omega)
  ·exact fun e => absurd (Option.some.inj (show some gX = some gf from e)) (by omega)
  ·exact fun e => absurd (Option.some.inj (show some gX = some gL from e)) (by omega)
  ·exact fun e => absurd (Option.some.inj (show some gY = some g from e)) (by omega)
  ·exact fun e => absurd (Option.some.inj (show some gY = some gr from e)) (by omega)
  ·exact fun e => absurd (Option.some.inj (show some gY = some gf from e)) (by omega)
  ·exact fun e => absurd (Option.some.inj (show some gY = some gL from e)) (by omega)
  ·exact fun b e1 e2 => hXY ((Option.some.inj (show some gX = some b from e2)).trans (Option.some.inj (show some gY = some b from e1)).symm)
 case round =>
  clear rG rR rF rL sb hX hY rX rY
  obtain ⟨i, hi, rfl, hX, hY, ehXxG, ehXxR, ehXxF, ehXxL, ehYxG, ehYxR, ehYxF, ehYxL, zhXxhY, ⟨rG, rR, rF⟩, rL, sb⟩ := hrel
  have zhYxhX := own_sym zhXxhY
  cases gk with
  | zero =>
   obtain ⟨rfl⟩ : i = n - 1 := by omega
   clear hi
   rw [show n - 1 + 1 = n by omega] at hX hY
   have hxi := HX.out _ _ _ hX
   have hyi := HY.out _ _ _ hY
   obtain ⟨ax, cx, rfl⟩ := own_shape hX
   obtain ⟨ay, cy, rfl⟩ := own_shape hY
   obtain ⟨_, gx, curx, hxn⟩ := ownI_nums hX
   obtain ⟨_, gy, cury, hyn⟩ := ownI_nums hY
   clear hX hY ehXxG ehXxR ehXxF ehXxL ehYxG ehYxR ehYxF ehYxL zhXxhY zhYxhX
   repeat ((fail_if_success with_reducible apply rg); go_step)
   refine rp ?_
   refine pw_mv (by rfl) rfl rfl ?_
   refine pw_mv (by rfl) rfl rfl ?_
   simp only [pv]
   refine pw_value (by rfl) (.int .i64 n) (exec_len_s 27 _ rfl (some ⟨gL, 0, none⟩) (n) (n) rfl sl_shs) ?_
   simp only [pv]
   refine pw_value (by rfl) (.int .i64 ((n - 1 : Nat) : Int)) ((fun w' => (exec_sub_in _ _ _ _ rfl n 1 rfl rfl (by omega) (by omega) w'))) ?_
   simp only [pv]
   refine pw_value (by rfl) (.bool false) (exec_lt_b _ _ _ _ rfl ((n - 1 : Nat) : Int) ((n - 1 : Nat) : Int) rfl rfl false (decide_eq_false (Int.lt_irrefl _))) ?_
   simp only [pv]
   refine pw_nil ?_
   repeat ((fail_if_success with_reducible apply rg); go_step)
   refine rp ?_
   refine pw_mv (by rfl) rfl rfl ?_
   refine pw_mv (by rfl) rfl rfl ?_
   simp only [pv]
   refine pw_callE (by rfl) 13 _ _ rfl Tryz.func13 (by kernel_rfl) #[.pointer (some ⟨g, 0, none⟩), .slice ax n cx] rfl (hwt g gr gf _ ax cx gx curx (⟨rG, rR, rF⟩ : GrpAt _ g gr gf PP QQ GG) hxn) ?_
   rintro _ z15002 ⟨gW, R, rfl, rW, hW, hb⟩
   refine ⟨_, rfl, ?_⟩
   simp only [pv]
   have k := Kept.ofBelow hb
   clear hb
   replace rG := k.ro rG
   replace rR := k.ro rR
   replace rF := k.ro rF
   replace hxi := hxi.below k.nil
   replace hyi := hyi.below k.nil
   replace hxn := hxn.below k.nil
   replace hyn := hyn.below k.nil
   replace sb := kk sb k
   clear k
   refine pw_mv (by rfl) rfl rfl ?_
   refine pw_ext (by rfl) rfl rfl rfl ?_
   refine pw_ext (by rfl) rfl rfl rfl ?_
   refine pw_as (by rfl) rfl rfl ?_
   refine pw_as (by rfl) rfl rfl ?_
   simp only [pv]
   refine pw_nil ?_
   clear rG rR rF hwt
   repeat ((fail_if_success with_reducible apply rg); go_step)
   refine rp ?_
   refine pw_mv (by rfl) rfl rfl ?_
   simp only [pv]
   refine pw_value (by rfl) (.bool false) (exec_neq_k .i64 _ _ _ _ rfl 0 0 rfl rfl false rfl) ?_
   refine pw_mv (by rfl) rfl rfl ?_
   refine pw_mv (by rfl) rfl rfl ?_
   simp only [pv]
   refine pw_value (by rfl) (.int .i64 n) (exec_len_s 44 _ rfl (some ⟨gW, 0, none⟩) n n rfl sl_ll) ?_
   refine pw_mv (by rfl) rfl rfl ?_
   simp only [pv]
   refine pw_value (by rfl) (.int .i64 n) (exec_len_s 33 _ rfl (ax) (n) (cx) rfl sl_intsX) ?_
   simp only [pv]
   refine pw_value (by rfl) (.bool false) (exec_neq_k .i64 _ _ _ _ rfl n n rfl rfl false (by rw [decide_eq_true rfl]; rfl)) ?_
   simp only [pv]
   refine pw_pick (by rfl) false (v := .bool false) rfl rfl rfl ?_
   simp only [pv]
   refine pw_nil ?_
   repeat ((fail_if_success with_reducible apply rg); go_step)
   refine rp ?_
   refine pw_value (by rfl) (.slice none 0 0) ((fun _ => rfl)) ?_
   simp only [pv]
   refine pw_nil ?_
   repeat ((fail_if_success with_reducible apply rg); go_step)
   refine rp ?_
   refine pw_value (by rfl) (.int .i64 0) (fun _ => rfl) ?_
   simp only [pv]
   refine pw_nil ?_
   have sd := sbmk z15002
   go_wp2_with fail
   go_loopg [19, 20] n (fun x s19 s20 wr => ∃ j : Nat, j + x = n ∧ s20 = .int .i64 j ∧ OwnI wr z15002.heap.size s19 j (fun a => sS QQ (WV a) ys n) ∧ Below z15002.heap.size z15002 wr)
   case atStart => exact ⟨0, by omega, rfl, ownI_nil _ _ _, sd⟩
   case round =>
    clear sd
    obtain ⟨j, hj, rfl, hO, sd⟩ := hrel
    cases gk with
    | zero =>
     have hjn : n = j := by omega
     clear hj
     subst hjn
     have hoi := HO.out _ _ _ hO
     obtain ⟨ao, co, rfl⟩ := own_shape hO
     clear hO
     replace hxi := hxi.below sd
     replace hyi := hyi.below sd
     replace hyn := hyn.below sd
     replace sb := below_on sb (Nat.le_refl _) sd
     repeat ((fail_if_success with_reducible apply rg); go_step)
     refine rp ?_
     refine pw_mv (by rfl) rfl rfl ?_
     refine pw_mv (by rfl) rfl rfl ?_
     simp only [pv]
     refine pw_value (by rfl) (.int .i64 n) (exec_len_s 44 _ rfl (some ⟨gW, 0, none⟩) n n rfl sl_ll) ?_
     simp only [pv]
     refine pw_value (by rfl) (.bool false) (exec_lt_b _ _ _ _ rfl n n rfl rfl false (decide_eq_false (Int.lt_irrefl _))) ?_
     simp only [pv]
     refine pw_nil ?_
     clear rW hW sd hxn
     obtain h1 | ⟨rfl, rS, hst⟩ := hyn.at'
     ·exact absurd h1 (by omega)
     have hs0 := hst 0 (by omega)
     clear hst
     have orS := rS
     repeat ((fail_if_success with_reducible apply rg); go_step)
     refine wp_region_ewb (by kernel_rfl) [] [(0, false), (2, false), (3, false), (4, false), (1, true), (5, true), (6, true), (7, false), (8, false), (9, false), (11, false), (12, false), (13, false), (10, true), (14, false), (15, false), (16, false), (17, false), (18, false), (19, false)] ?_ (by kernel_rfl)
     have cb := below_self sb
     have osb := sb
     have ohxi := hxi
     have ohyi := hyi
     have ohoi := hoi
     refine ew_mv (by rfl) rfl rfl ?_
     refine ew_mv (by rfl) rfl rfl ?_
     refine ew_mv (by rfl) rfl rfl ?_
     refine ew_mv (by rfl) rfl rfl ?_
     simp only [pv]
     refine ew_callE (by rfl) 17 _ _ rfl Tryz.func17 (by kernel_rfl) #[.slice ao n co] rfl ?_
     intro wa1 hqb
     replace hxi := hxi.below hqb
     replace hyi := hyi.below hqb
     replace hoi := hoi.below hqb
     replace sb := below_on sb (Nat.le_refl _) hqb
     replace cb := below_on cb (Nat.le_refl _) hqb
     clear hqb
     refine (htr _ _ hoi).mono ?_
     rintro _ wb1 ⟨vt, rfl, ht, hb⟩
     refine ⟨_, rfl, fun _ => below_on cb (Nat.le_refl _) hb, ?_⟩
     simp only [pv]
     replace hxi := hxi.below hb
     replace hyi := hyi.below hb
     replace hoi := hoi.below hb
     replace sb := below_on sb (Nat.le_refl _) hb
     replace cb := below_on cb (Nat.le_refl _) hb
     clear hb
     refine ew_callE (by rfl) 18 _ _ rfl Tryz.func18 (by kernel_rfl) #[.slice ax n cx, .slice (some ⟨gy, 0, none⟩) n cy, .int .i64 (QQ : Nat)] rfl ?_
     intro wa5 hqb
     replace hxi := hxi.below hqb
     replace hyi := hyi.below hqb
     replace hoi := hoi.below hqb
     replace ht := ht.below hqb
     replace sb := below_on sb (Nat.le_refl _) hqb
     replace cb := below_on cb (Nat.le_refl _) hqb
     clear hqb
     refine (hth _ _ _ hxi hyi).mono ?_
     rintro _ wb5 ⟨vp, rfl, hp, hb⟩
     refine ⟨_, rfl, fun _ => below_on cb (Nat.le_refl _) hb, ?_⟩
     simp only [pv]
     replace hxi := hxi.below hb
     replace hyi := hyi.below hb
     replace hoi := hoi.below hb
     replace ht := ht.below hb
     replace sb := below_on sb (Nat.le_refl _) hb
     replace cb := below_on cb (Nat.le_refl _) hb
     clear hb
     refine ew_callE (by rfl) 16 _ _ rfl Tryz.func16 (by kernel_rfl) #[vt, vp] rfl ?_
     intro wa6 hqb
     replace hxi := hxi.below hqb
     replace hyi := hyi.below hqb
     replace hoi := hoi.below hqb
     replace ht := ht.below hqb
     replace hp := hp.below hqb
     replace sb := below_on sb (Nat.le_refl _) hqb
     replace cb := below_on cb (Nat.le_refl _) hqb
     clear hqb
     refine (hrs _ vt vp ht hp).mono ?_
     rintro _ wb6 ⟨rfl, hb⟩
     refine ⟨_, rfl, fun _ => below_on cb (Nat.le_refl _) hb, ?_⟩
     simp only [pv]
     replace hxi := hxi.below hb
     replace hyi := hyi.below hb
     replace hoi := hoi.below hb
     replace ht := ht.below hb
     replace hp := hp.below hb
     replace sb := below_on sb (Nat.le_refl _) hb
     replace cb := below_on cb (Nat.le_refl _) hb
     clear hb
     refine ew_mv (by rfl) rfl rfl ?_
     refine ew_mv (by rfl) rfl rfl ?_
     refine ew_mv (by rfl) rfl rfl ?_
     refine ew_mv (by rfl) rfl rfl ?_
     simp only [pv]
     refine ew_value (by rfl) (.pointer (some ⟨gy, 0 + 0 * 1, none⟩)) ((exec_index_s 33 _ _ rfl gy 0 (n) (cy) rfl (0) rfl ((by omega)) _ Tryz.underlying33 1 Tryz.sizeOf3)) ?_
     simp only [pv]
     refine ew_loadk (by rfl) 3 _ rfl _ (0 + 0 * 1) rfl (fun _ hb => (orS.belowAll hb)) (.int .i64 (ys 0 : Nat)) hs0 Tryz.isAgg3 ?_
     simp only [pv]
     refine ew_callE (by rfl) 19 _ _ rfl Tryz.func19 (by kernel_rfl) #[.slice ao n co, .int .i64 ((0 : Nat) : Int), .int .i64 (QQ : Nat)] rfl ?_
     intro wa10 hqb
     replace hxi := hxi.below hqb
     replace hyi := hyi.below hqb
     replace hoi := hoi.below hqb
     replace ht := ht.below hqb
     replace hp := hp.below hqb
     replace sb := below_on sb (Nat.le_refl _) hqb
     replace cb := below_on cb (Nat.le_refl _) hqb
     clear hqb
     refine (hev _ _ hoi).mono ?_
     rintro _ wb10 ⟨rfl, hb⟩
     refine ⟨_, rfl, fun _ => below_on cb (Nat.le_refl _) hb, ?_⟩
     simp only [pv]
     replace hxi := hxi.below hb
     replace hyi := hyi.below hb
     replace hoi := hoi.below hb
     replace ht := ht.below hb
     replace hp := hp.below hb
     replace sb := below_on sb (Nat.le_refl _) hb
     replace cb := below_on cb (Nat.le_refl _) hb
     clear hb
     refine ew_value (by rfl) (.bool true) (exec_eql_k .i64 _ _ _ _ rfl (ys 0 : Nat) (ys 0 : Nat) rfl rfl true (decide_eq_true rfl)) ?_
     simp only [pv]
     refine ew_pick (by rfl) true (v := .bool true) rfl rfl rfl ?_
     refine ew_mv (by rfl) rfl rfl ?_
     simp only [pv]
     refine ew_call (by rfl) 5 _ _ rfl Tryz.func5 (by kernel_rfl) #[] rfl _ (fun w _ => haw w) ?_
     simp only [pv]
     refine ew_pick (by rfl) true (v := .bool true) rfl rfl rfl ?_
     refine ew_as (by rfl) rfl rfl ?_
     simp only [pv]
     refine ew_nil ?_
     intro wz hqb
     replace hxi := hxi.below hqb
     replace hyi := hyi.below hqb
     replace hoi := hoi.below hqb
     replace ht := ht.below hqb
     replace hp := hp.below hqb
     replace sb := below_on sb (Nat.le_refl _) hqb
     clear hqb cb osb ohxi ohyi ohoi
     go_wp2
     go_ret
     exact ⟨rfl, sb⟩
    | succ x =>
     have hlt : j < n := by omega
     have rV := rW.belowAll sd
     have rJ := (hW.row j hlt).belowAll sd
     have hgv : (vsC n (fun j => .slice (some ⟨R j, 0, none⟩) n n))[0 + j * 1]? = some (.slice (some ⟨R j, 0, none⟩) n n) := by rw [show 0 + j * 1 = j by omega]; exact vsC_get _ hlt
     repeat ((fail_if_success with_reducible apply rg); go_step)
     refine rp ?_
     refine pw_mv (by rfl) rfl rfl ?_
     refine pw_mv (by rfl) rfl rfl ?_
     simp only [pv]
     refine pw_value (by rfl) (.int .i64 n) (exec_len_s 44 _ rfl (some ⟨gW, 0, none⟩) n n rfl sl_ll) ?_
     simp only [pv]
     refine pw_value (by rfl) (.bool true) (exec_lt_b _ _ _ _ rfl j n rfl rfl true (decide_eq_true (by omega))) ?_
     simp only [pv]
     refine pw_nil ?_
     repeat ((fail_if_success with_reducible apply rg); go_step)
     refine rp ?_
     refine pw_value (by rfl) (.int .i64 0) (fun _ => rfl) ?_
     simp only [pv]
     refine pw_nil ?_
     repeat ((fail_if_success with_reducible apply rg); go_step)
     refine rp ?_
     refine pw_mv (by rfl) rfl rfl ?_
     refine pw_mv (by rfl) rfl rfl ?_
     simp only [pv]
     refine pw_value (by rfl) (.pointer (some ⟨gW, 0 + j * 1, none⟩)) ((exec_index_s 44 _ _ rfl gW 0 n n rfl (j) rfl (hlt) _ Tryz.underlying44 1 Tryz.sizeOf22)) ?_
     simp only [pv]
     refine pw_loadk (by rfl) 22 _ rfl _ (0 + j * 1) rfl rV.r (.slice (some ⟨R j, 0, none⟩) n n) hgv Tryz.isAgg22 ?_
     simp only [pv]
     refine pw_value (by rfl) (.int .i64 n) (exec_len_s 22 _ rfl (some ⟨R j, 0, none⟩) (n) (n) rfl sl_natsX) ?_
     refine pw_mv (by rfl) rfl rfl ?_
     simp only [pv]
     refine pw_value (by rfl) (.int .i64 n) (exec_len_s 33 _ rfl (ax) (n) (cx) rfl sl_intsX) ?_
     simp only [pv]
     refine pw_value (by rfl) (.bool false) (exec_neq_k .i64 _ _ _ _ rfl n n rfl rfl false (by rw [decide_eq_true rfl]; rfl)) ?_
     simp only [pv]
     refine pw_nil ?_
     repeat ((fail_if_success with_reducible apply rg); go_step)
     refine rp ?_
     refine pw_value (by rfl) (.int .i64 0) (fun _ => rfl) ?_
     simp only [pv]
     refine pw_nil ?_
     clear rV rJ
     go_wp2_with fail
     go_loopg [21, 22] n (fun y s21 s22 wr => ∃ i : Nat, i + y = n ∧ s21 = .int .i64 (sS QQ (WV j) ys i : Nat) ∧ s22 = .int .i64 i ∧ OwnI wr z15002.heap.size u19 j (fun a => sS QQ (WV a) ys n) ∧ Below z15002.heap.size z15002 wr)
     case atStart => exact ⟨0, by omega, rfl, rfl, hO, sd⟩
     case round =>
      clear hO sd
      obtain ⟨i, hi, rfl, rfl, hO, sd⟩ := hrel
      have rV := rW.belowAll sd
      have rJ := (hW.row j hlt).belowAll sd
      cases gk with
      | zero =>
       have hin : n = i := by omega
       clear hi
       subst hin
       repeat ((fail_if_success with_reducible apply rg); go_step)
       refine rp ?_
       refine pw_mv (by rfl) rfl rfl ?_
       refine pw_mv (by rfl) rfl rfl ?_
       refine pw_mv (by rfl) rfl rfl ?_
       simp only [pv]
       refine pw_value (by rfl) (.pointer (some ⟨gW, 0 + j * 1, none⟩)) ((exec_index_s 44 _ _ rfl gW 0 n n rfl (j) rfl (hlt) _ Tryz.underlying44 1 Tryz.sizeOf22)) ?_
       simp only [pv]
       refine pw_loadk (by rfl) 22 _ rfl _ (0 + j * 1) rfl rV.r (.slice (some ⟨R j, 0, none⟩) n n) hgv Tryz.isAgg22 ?_
       simp only [pv]
       refine pw_value (by rfl) (.int .i64 n) (exec_len_s 22 _ rfl (some ⟨R j, 0, none⟩) (n) (n) rfl sl_natsX) ?_
       simp only [pv]
       refine pw_value (by rfl) (.bool false) (exec_lt_b _ _ _ _ rfl n n rfl rfl false (decide_eq_false (Int.lt_irrefl _))) ?_
       refine pw_mv (by rfl) rfl rfl ?_
       simp only [pv]
       refine pw_skip (by rfl) ?_
       simp only [pv]
       refine pw_skip (by rfl) ?_
       simp only [pv]
       refine pw_skip (by rfl) ?_
       simp only [pv]
       refine pw_skip (by rfl) ?_
       simp only [pv]
       refine pw_pick (by rfl) false (v := .bool false) rfl rfl rfl ?_
       simp only [pv]
       refine pw_nil ?_
       clear rV rJ
       repeat ((fail_if_success with_reducible apply rg); go_step)
       refine rp ?_
       refine pw_mv (by rfl) rfl rfl ?_
       refine pw_mv (by rfl) rfl rfl ?_
       simp only [pv]
       refine pw_litr (by rfl) 33 3 1 _ rfl #[.int .i64 (sS QQ (WV j) ys n : Nat)] ie _ Tryz.underlying33 hie hz hs1 hs2 [(0, .int .i64 (sS QQ (WV j) ys n : Nat))] rfl (hl1 _) ?_
       intro gA z29002 n0 rA k
       simp only [pv]
       have ehOxA := hO.new n0
       have bA := Nat.le_trans sd.size n0
       clear n0
       replace hO := hO.on k (own_ne0 _)
       replace sd := kk sd k
       clear k
       refine pw_appI (by rfl) _ _ rfl (z15002.heap.size) (_) (j) ((fun a => sS QQ (WV a) ys n)) rfl hO gA _ rfl rA (by omega) sd.size ?_
       have h0 := hO
       clear hO
       intro v1 z29003 hO k hp
       simp only [pv]
       clear hp
       replace sd := sd.trans (k.below z15002.heap.size sd.size h0.base)
       clear h0
       clear k
       refine pw_as (by rfl) rfl rfl ?_
       simp only [pv]
       refine pw_nil ?_
       repeat ((fail_if_success with_reducible apply rg); go_step)
       refine rp ?_
       refine pw_mv (by rfl) rfl rfl ?_
       simp only [pv]
       refine pw_value (by rfl) (.int .i64 ((j + 1 : Nat) : Int)) (exec_add_in _ _ _ _ rfl j 1 rfl rfl (by omega)) ?_
       refine pw_as (by rfl) rfl rfl ?_
       simp only [pv]
       refine pw_nil ?_
       go_wp2
       go_roundg x
       case measure => omega
       case rel => exact ⟨j + 1, by omega, rfl, hO, sd⟩
      | succ y =>
       have hlti : i < n := by omega
       obtain h1 | ⟨hay, rS, hst⟩ := (hyn.below sd).at'
       ·exact absurd h1 (by omega)
       have hsi := hst i hlti
       clear hst
       have hadd := fun w' => had (sS QQ (WV j) ys i) (WV j i * ys i % QQ) w' (HSl.out _ _) (Nat.mod_lt _ HQP.out)
       repeat ((fail_if_success with_reducible apply rg); go_step)
       refine rp ?_
       refine pw_mv (by rfl) rfl rfl ?_
       refine pw_mv (by rfl) rfl rfl ?_
       refine pw_mv (by rfl) rfl rfl ?_
       simp only [pv]
       refine pw_value (by rfl) (.pointer (some ⟨gW, 0 + j * 1, none⟩)) ((exec_index_s 44 _ _ rfl gW 0 n n rfl (j) rfl (hlt) _ Tryz.underlying44 1 Tryz.sizeOf22)) ?_
       simp only [pv]
       refine pw_loadk (by rfl) 22 _ rfl _ (0 + j * 1) rfl rV.r (.slice (some ⟨R j, 0, none⟩) n n) hgv Tryz.isAgg22 ?_
       simp only [pv]
       refine pw_value (by rfl) (.int .i64 n) (exec_len_s 22 _ rfl (some ⟨R j, 0, none⟩) (n) (n) rfl sl_natsX) ?_
       simp only [pv]
       refine pw_value (by rfl) (.bool true) (exec_lt_b _ _ _ _ rfl i n rfl rfl true (decide_eq_true (by omega))) ?_
       refine pw_mv (by rfl) rfl rfl ?_
       refine pw_mv (by rfl) rfl rfl ?_
       refine pw_mv (by rfl) rfl rfl ?_
       simp only [pv]
       refine pw_value (by rfl) (.int .i64 n) (exec_len_s 33 _ rfl (ay) (n) (cy) rfl sl_intsX) ?_
       simp only [pv]
       refine pw_value (by rfl) (.bool true) (exec_lt_b _ _ _ _ rfl i n rfl rfl true (decide_eq_true (by omega))) ?_
       simp only [pv]
       refine pw_pick (by rfl) true (v := .bool true) rfl rfl rfl ?_
       simp only [pv]
       refine pw_nil ?_
       repeat ((fail_if_success with_reducible apply rg); go_step)
       refine wp_region_qw (by kernel_rfl) (by kernel_rfl) ?_
       refine qw_move (by rfl) rfl rfl ?_
       refine qw_move (by rfl) rfl rfl ?_
       refine qw_move (by rfl) rfl rfl ?_
       simp only [pv]
       refine qw_value (by rfl) (.pointer (some ⟨gW, 0 + j * 1, none⟩)) ((exec_index_s 44 _ _ rfl gW 0 n n rfl (j) rfl (hlt) _ Tryz.underlying44 1 Tryz.sizeOf22)) ?_
       simp only [pv]
       refine qw_loadc (by rfl) 22 _ rfl _ (0 + j * 1) rfl rV (.slice (some ⟨R j, 0, none⟩) n n) hgv Tryz.isAgg22 ?_
       refine qw_move (by rfl) rfl rfl ?_
       simp only [pv]
       refine qw_value (by rfl) (.pointer (some ⟨R j, 0 + i * 4, none⟩)) ((exec_index_s 22 _ _ rfl (R j) 0 (n) (n) rfl (i) rfl (hlti) _ Tryz.underlying22 4 size_nat4)) ?_
       simp only [pv]
       refine qw_loadm (by rfl) 38 _ rfl _ (0 + i * 4) rfl rJ (natC (WV j i)) (nsC_part n (WV j) i hlti (0 + i * 4) (by omega)) _ Tryz.underlying38 rfl size_nat ?_
       refine qw_move (by rfl) rfl rfl ?_
       simp only [pv]
       refine qw_call (by rfl) 11 _ _ rfl Tryz.func11 (by kernel_rfl) #[.agg (natC (WV j i)), .int .i64 (QQ : Nat)] rfl _ (hbw j i) ?_
       refine qw_move (by rfl) rfl rfl ?_
       refine qw_move (by rfl) rfl rfl ?_
       simp only [pv]
       refine qw_value (by rfl) (.pointer (some ⟨gy, 0 + i * 1, none⟩)) ((exec_index_s 33 _ _ rfl gy 0 (n) (cy) (by rw [hay]; rfl) (i) rfl (hlti) _ Tryz.underlying33 1 Tryz.sizeOf3)) ?_
       simp only [pv]
       refine qw_loadcR (by rfl) 3 _ rfl _ (0 + i * 1) rfl rS (.int .i64 (ys i : Nat)) hsi Tryz.isAgg3 ?_
       refine qw_move (by rfl) rfl rfl ?_
       simp only [pv]
       refine qw_call (by rfl) 15 _ _ rfl Tryz.func15 (by kernel_rfl) #[.int .i64 (WV j i : Nat), .int .i64 (ys i : Nat), .int .i64 (QQ : Nat)] rfl _ (hmu (WV j i) (ys i)) ?_
       refine qw_move (by rfl) rfl rfl ?_
       simp only [pv]
       refine qw_call (by rfl) 14 _ _ rfl Tryz.func14 (by kernel_rfl) #[.int .i64 (sS QQ (WV j) ys i : Nat), .int .i64 (WV j i * ys i % QQ : Nat), .int .i64 (QQ : Nat)] rfl _ hadd ?_
       refine qw_asg (by rfl) rfl rfl ?_
       simp only [pv]
       refine qw_nil ?_
       intro w6 hqb
       replace sd := below_on sd (Nat.le_refl _) hqb
       replace hO := hO.on (Kept.ofBelow hqb) (own_ne0 _)
       clear hqb rV rJ rS hsi hadd
       repeat ((fail_if_success with_reducible apply rg); go_step)
       refine rp ?_
       refine pw_mv (by rfl) rfl rfl ?_
       simp only [pv]
       refine pw_value (by rfl) (.int .i64 ((i + 1 : Nat) : Int)) (exec_add_in _ _ _ _ rfl i 1 rfl rfl (by omega)) ?_
       refine pw_as (by rfl) rfl rfl ?_
       simp only [pv]
       refine pw_nil ?_
       go_wp2
       go_roundg y
       case measure => omega
       case rel => exact ⟨i + 1, by omega, rfl, rfl, hO, sd⟩
  | succ x =>
   have hlt : i < n - 1 := by omega
   have hin : i < n := by omega
   have hlk := hlo i
   clear haw hlo hwt hbw hth hmu had htr hrs hev
   repeat ((fail_if_success with_reducible apply rg); go_step)
   refine rp ?_
   refine pw_mv (by rfl) rfl rfl ?_
   refine pw_mv (by rfl) rfl rfl ?_
   simp only [pv]
   refine pw_value (by rfl) (.int .i64 n) (exec_len_s 27 _ rfl (some ⟨gL, 0, none⟩) (n) (n) rfl sl_shs) ?_
   simp only [pv]
   refine pw_value (by rfl) (.int .i64 ((n - 1 : Nat) : Int)) ((fun w' => (exec_sub_in _ _ _ _ rfl n 1 rfl rfl (by omega) (by omega) w'))) ?_
   simp only [pv]
   refine pw_value (by rfl) (.bool true) (exec_lt_b _ _ _ _ rfl i ((n - 1 : Nat) : Int) rfl rfl true (decide_eq_true (by omega))) ?_
   simp only [pv]
   refine pw_nil ?_
   have hpt := esC_part HSZ.out i hin (0 + i * 5) (by omega)
   have hpi := shp_i hpt
   have hpy := shp_y hpt
   clear hpt
   repeat ((fail_if_success with_reducible apply rg); go_step)
   refine rp ?_
   refine pw_mv (by rfl) rfl rfl ?_
   refine pw_mv (by rfl) rfl rfl ?_
   simp only [pv]
   refine pw_value (by rfl) (.pointer (some ⟨gL, 0 + i * 5, none⟩)) ((exec_index_s 27 _ _ rfl gL 0 (n) (n) rfl (i) rfl (hin) _ Tryz.underlying27 5 size_sh5)) ?_
   simp only [pv]
   refine pw_value (by rfl) (.pointer (some ⟨gL, 0 + i * 5 + 1, none⟩)) (exec_field 43 _ 1 rfl gL (0 + i * 5) rfl _ Tryz.underlying43 _ rfl 3 Tryz.sizeOf38) ?_
   simp only [pv]
   refine pw_loadm (by rfl) 38 _ rfl _ (0 + i * 5 + 1) rfl rL.r (natC (ys (i + 1))) hpy _ Tryz.underlying38 rfl size_nat ?_
   simp only [pv]
   refine pw_callB (by rfl) 12 _ _ rfl Tryz.func12 (by kernel_rfl) #[.agg (natC (ys (i + 1)))] rfl _ (hlk _) ?_
   intro z12005 k
   simp only [pv]
   replace rG := k.ro rG
   replace rR := k.ro rR
   replace rF := k.ro rF
   replace rL := k.ro rL
   replace hX := hX.on k (own_ne0 _)
   replace hY := hY.on k (own_ne0 _)
   replace sb := kk sb k
   clear k
   refine pw_mv (by rfl) rfl rfl ?_
   refine pw_ext (by rfl) rfl rfl rfl ?_
   refine pw_ext (by rfl) rfl rfl rfl ?_
   refine pw_as (by rfl) rfl rfl ?_
   refine pw_as (by rfl) rfl rfl ?_
   simp only [pv]
   refine pw_nil ?_
   repeat ((fail_if_success with_reducible apply rg); go_step)
   refine rp ?_
   refine pw_mv (by rfl) rfl rfl ?_
   refine pw_mv (by rfl) rfl rfl ?_
   refine pw_mv (by rfl) rfl rfl ?_
   simp only [pv]
   refine pw_value (by rfl) (.pointer (some ⟨gL, 0 + i * 5, none⟩)) ((exec_index_s 27 _ _ rfl gL 0 (n) (n) rfl (i) rfl (hin) _ Tryz.underlying27 5 size_sh5)) ?_
   simp only [pv]
   refine pw_value (by rfl) (.pointer (some ⟨gL, 0 + i * 5, none⟩)) (exec_field 43 _ 0 rfl gL (0 + i * 5) rfl _ Tryz.underlying43 _ rfl 0 Tryz.sizeOf3) ?_
   simp only [pv]
   refine pw_loadk (by rfl) 3 _ rfl _ (0 + i * 5) rfl rL.r (.int .i64 ((i + 1 : Nat) : Int)) hpi Tryz.isAgg3 ?_
   simp only [pv]
   refine pw_litr (by rfl) 33 3 1 _ rfl #[.int .i64 ((i + 1 : Nat) : Int)] ie _ Tryz.underlying33 hie hz hs1 hs2 [(0, .int .i64 ((i + 1 : Nat) : Int))] rfl (hl1 _) ?_
   intro gA z13006 n0 rA k
   simp only [pv]
   have dGxA := Nat.lt_of_lt_of_le rG.lt n0
   have dRxA := Nat.lt_of_lt_of_le rR.lt n0
   have dFxA := Nat.lt_of_lt_of_le rF.lt n0
   have dLxA := Nat.lt_of_lt_of_le rL.lt n0
   have ehXxA := hX.new n0
   have ehYxA := hY.new n0
   have bA := Nat.le_trans sb.size n0
   clear n0
   replace rG := k.ro rG
   replace rR := k.ro rR
   replace rF := k.ro rF
   replace rL := k.ro rL
   replace hX := hX.on k (own_ne0 _)
   replace hY := hY.on k (own_ne0 _)
   replace sb := kk sb k
   clear k
   refine pw_appI (by rfl) _ _ rfl (w.heap.size) (_) (i + 1) ((fun k => k)) rfl hX gA _ rfl rA (by omega) sb.size ?_
   have h0 := hX
   clear hX
   intro v1 z13007 hX k hp
   simp only [pv]
   have crG := rG.lt
   replace rG := k.row rG (by first | exact own_nin ehXxG | exact own_nin (h0.low (by omega)))
   have crR := rR.lt
   replace rR := k.row rR (by first | exact own_nin ehXxR | exact own_nin (h0.low (by omega)))
   have crF := rF.lt
   replace rF := k.row rF (by first | exact own_nin ehXxF | exact own_nin (h0.low (by omega)))
   have crL := rL.lt
   replace rL := k.row rL (by first | exact own_nin ehXxL | exact own_nin (h0.low (by omega)))
   have zt := own_two hY hp zhXxhY
   replace hY := hY.on k (own_nin2 zhXxhY)
   clear zhXxhY zhYxhX
   have zhXxhY := zt
   have zhYxhX := own_sym zt
   clear zt
   (try replace ehXxG := own_apart hp crG ehXxG)
   clear crG
   (try replace ehXxR := own_apart hp crR ehXxR)
   clear crR
   (try replace ehXxF := own_apart hp crF ehXxF)
   clear crF
   (try replace ehXxL := own_apart hp crL ehXxL)
   clear crL
   clear hp
   replace sb := sb.trans (k.below w.heap.size sb.size h0.base)
   clear h0
   clear k
   refine pw_as (by rfl) rfl rfl ?_
   simp only [pv]
   refine pw_nil ?_
   repeat ((fail_if_success with_reducible apply rg); go_step)
   refine rp ?_
   refine pw_mv (by rfl) rfl rfl ?_
   refine pw_mv (by rfl) rfl rfl ?_
   simp only [pv]
   refine pw_litr (by rfl) 33 3 1 _ rfl #[.int .i64 (ys (i + 1) : Nat)] ie _ Tryz.underlying33 hie hz hs1 hs2 [(0, .int .i64 (ys (i + 1) : Nat))] rfl (hl1 _) ?_
   intro gB z14002 n0 rB k
   simp only [pv]
   have dGxB := Nat.lt_of_lt_of_le rG.lt n0
   have dRxB := Nat.lt_of_lt_of_le rR.lt n0
   have dFxB := Nat.lt_of_lt_of_le rF.lt n0
   have dLxB := Nat.lt_of_lt_of_le rL.lt n0
   have ehXxB := hX.new n0
   have ehYxB := hY.new n0
   have bB := Nat.le_trans sb.size n0
   clear n0
   replace rG := k.ro rG
   replace rR := k.ro rR
   replace rF := k.ro rF
   replace rL := k.ro rL
   replace hX := hX.on k (own_ne0 _)
   replace hY := hY.on k (own_ne0 _)
   replace sb := kk sb k
   clear k
   refine pw_appI (by rfl) _ _ rfl (w.heap.size) (_) (i + 1) (ys) rfl hY gB _ rfl rB (by omega) sb.size ?_
   have h0 := hY
   clear hY
   intro v1 z14003 hY k hp
   simp only [pv]
   have crG := rG.lt
   replace rG := k.row rG (by first | exact own_nin ehYxG | exact own_nin (h0.low (by omega)))
   have crR := rR.lt
   replace rR := k.row rR (by first | exact own_nin ehYxR | exact own_nin (h0.low (by omega)))
   have crF := rF.lt
   replace rF := k.row rF (by first | exact own_nin ehYxF | exact own_nin (h0.low (by omega)))
   have crL := rL.lt
   replace rL := k.row rL (by first | exact own_nin ehYxL | exact own_nin (h0.low (by omega)))
   have zt := own_two hX hp zhYxhX
   replace hX := hX.on k (own_nin2 zhYxhX)
   clear zhYxhX zhXxhY
   have zhYxhX := zt
   have zhXxhY := own_sym zt
   clear zt
   (try replace ehYxG := own_apart hp crG ehYxG)
   clear crG
   (try replace ehYxR := own_apart hp crR ehYxR)
   clear crR
   (try replace ehYxF := own_apart hp crF ehYxF)
   clear crF
   (try replace ehYxL := own_apart hp crL ehYxL)
   clear crL
   clear hp
   replace sb := sb.trans (k.below w.heap.size sb.size h0.base)
   clear h0
   clear k
   refine pw_as (by rfl) rfl rfl ?_
   simp only [pv]
   refine pw_nil ?_
   repeat ((fail_if_success with_reducible apply rg); go_step)
   refine rp ?_
   refine pw_mv (by rfl) rfl rfl ?_
   simp only [pv]
   refine pw_value (by rfl) (.int .i64 ((i + 1 : Nat) : Int)) (exec_add_in _ _ _ _ rfl i 1 rfl rfl (by omega)) ?_
   refine pw_as (by rfl) rfl rfl ?_
   simp only [pv]
   refine pw_nil ?_
   go_wp2
   go_roundg x
   case measure => omega
   case rel => exact ⟨i + 1, by omega, rfl, hX, hY, ehXxG, ehXxR, ehXxF, ehXxL, ehYxG, ehYxR, ehYxF, ehYxL, zhXxhY, ⟨rG, rR, rF⟩, rL, sb⟩
theorem walk (a0 : Int) (ab : Option Addr) (n c : Nat) (F : Nat → Nat) (gb ob : Nat) (bcs : Array Value) (tb : TypeId) (N : Nat) (w : World) (_ : -9223372036854775808 ≤ a0 ∧ a0 ≤ 9223372036854775807) (hna : NatsAt w ab n F gb ob bcs tb) (hN : N < 2 ^ 256) :
  Calls Tryz.prog 4 #[.int .i64 a0, .slice ab n c, .agg (natC N)] w fun e w' => e = .returned (.bool true) ∧ Below w.heap.size w w' := by
 by_cases h : n < 1 ∨ 6 < n
 ·exact core0 a0 n c N ab w h
 have q := (sm_fd a0).1
 have hq := (sm_fd a0).2
 have hbig : 1000 < smQ a0 := by
  unfold smQ pk2
  split <;> decide +kernel
 haveI : NeZero (smQ a0) := ⟨by have := q.pos; omega⟩
 have hs := sml13_any a0
 generalize smP a0 = PP at *
 generalize smG a0 = GG at *
 generalize smQ a0 = QQ at *
 obtain ⟨LL, hLL⟩ : ∃ LL : List (Fin QQ), fl n F = LL := ⟨_, rfl⟩
 obtain ⟨ys, hys⟩ : ∃ ys : Nat → Nat, ∀ k, ys k = if k = 0 then N % QQ else (pev (fi k) LL).val := ⟨_, fun _ => rfl⟩
 have hy0 : ys 0 = N % QQ := by rw [hys, if_pos rfl]
 have hyS : ∀ k, ys (k + 1) = (pev (fi (k + 1)) LL).val := fun k => by rw [hys, if_neg (by omega)]
 have hyl : ∀ k, ys k < QQ := fun k => by
  rw [hys]
  split
  ·exact Nat.mod_lt _ q.pos
  ·exact (pev (fi k) LL).isLt
 have hd : ∀ i j, i < n → j < n → i ≠ j → (fi ((fun k => k) i) : Fin QQ) ≠ fi ((fun k => k) j) := fun i j hi hj hne e => hne (fi_inj e (by show i < QQ; omega) (by show j < QQ; omega))
 have hsum := wts_sum q (fun k => k) ys n hd
 have hpl := pthr_length ivF (fun i => (fi ((fun k => k) i) : Fin QQ)) (fun i => (fi (ys i) : Fin QQ)) n n (Nat.le_refl n)
 refine core1 a0 PP QQ GG n c N ab ys (wtV (Q := QQ) (fun k => k) n n 0) (pthr ivF (fun i => (fi ((fun k => k) i) : Fin QQ)) (fun i => (fi (ys i) : Fin QQ)) n n) w (by omega) (by omega) q hq hbig hyl hs (fun g gr gf w' hb hg => ?_) (fun w' => ?_) (fun k w' => ?_) (fun g gr gf w' ax cx gx cur hg hx => ?_) (fun j i w' => ?_) ?_ ?_ (by omega) (fun w' vx vy hx hy => ?_)
 ·have := deal_any (.slice ab n c) LL n (by omega) (by omega) q hg (hLL ▸ (hna.below hb).pl (by omega))
  simp only [← hyS] at this
  exact this
 ·rw [hy0]
  exact rby_any N QQ w' hN q.pos hq
 ·have h1 := hyl (k + 1)
  have := rlow_any (ys (k + 1)) w' (by have := q.m; omega)
  rw [show lowI (ys (k + 1)) = ((ys (k + 1) : Nat) : Int) from if_pos (by omega), show lowB (ys (k + 1)) = true from decide_eq_true (by omega)] at this
  exact this
 ·exact wts_any n cx ax (fun k => k) gx 0 cur _ q (by omega) (fun k hk => by show k < 1000; omega) hd hx.zs hg ((apB_iff _ _ _).2 ⟨fun k hk => ⟨by show (0 : Int) ≤ ((k : Nat) : Int); omega, by show ((k : Nat) : Int) ≤ 7; omega⟩, fun j k hj hk e => by
   have : ((j : Nat) : Int) = ((k : Nat) : Int) := e
   omega⟩)
 ·have hw : wtV (Q := QQ) (fun k => k) n n 0 j i < QQ := by
   unfold wtV
   split
   ·exact (pco _ j).isLt
   ·exact q.pos
  have := rby_any (wtV (Q := QQ) (fun k => k) n n 0 j i) QQ w' (Nat.lt_trans hw q.m) q.pos hq
  rw [Nat.mod_eq_of_lt hw] at this
  exact this
 ·rw [ptrim_ext _ _ hsum, pthr_trim]
 ·rw [pev_congr _ _ hsum]
  have := pthr_at ivF (ivF_is q) (fun i => (fi ((fun k => k) i) : Fin QQ)) (fun i => (fi (ys i) : Fin QQ)) n hd 0 (by omega) n (Nat.le_refl n)
  rw [if_pos (by omega)] at this
  rw [this, val_fi (hyl 0)]
 ·have := rthrL vx vy (fl n (fun k => k) : List (Fin QQ)) (fl n ys) n w' (fl_length _ _) (fl_length _ _) (by omega) q hq hx hy
  rw [pthr_congr ivF (pco (fl n (fun k => k) : List (Fin QQ))) (fun i => (fi ((fun k => k) i) : Fin QQ)) (pco (fl n ys : List (Fin QQ))) (fun i => (fi (ys i) : Fin QQ)) n (fun j hj => fl_co n _ j hj) (fun j hj => fl_co n _ j hj) n (Nat.le_refl n)] at this
  exact this
theorem lifted (os : Os) (started : os.Started) (H : Type) (enc : TypeId × Value → H) :
  ReturnsInHanded {} Tryz.checked os 4 .any (Rows.shareHidesSpec.pre6 enc Tryz.prog Tryz.f4 Rows.shareHidesRow.domain false) (Rows.shareHidesSpec.post enc Tryz.prog Tryz.f4 false true false false) := by
 refine returnsInHanded_of_change (C := Tryz.checked) own started (by kernel_rfl) Tryz.func4
  (ChangeSpec.witness6 (enc := enc) (C := Tryz.checked) false ⟨#[], #[.int .i64 0, .slice none 0 0, .agg #[.int .u64 0, .int .u64 0, .int .u64 0, .int .u64 0]], []⟩ 8 (by kernel_rfl) (by kernel_rfl) (by kernel_rfl) (by kernel_rfl)) ?_
 intro W base args ds gs before hval0 hW hcnd _
 have hval : ∀ (j : Nat) t v, Tryz.f4.params[j]? = some t → args[j]? = some v → Value.okWide Tryz.prog W .any base t v := hval0
 have hW' := hW
 obtain ⟨p, q, hA0, hV, rfl, hfz, hnd⟩ := hW
 have hA : DataW.TrodAll enc Tryz.prog W 0 (fun _ => true) true Tryz.f4.params.toList args.toList ds p := hA0
 rw [Tryz.params4] at hA hval
 obtain ⟨v0, vs0, d0, ds0, p0, q0, hargs, rfl, rfl, h0, r0⟩ := trodAll_cons hA
 obtain ⟨v1, vs1, d1, ds1, p1, q1, rfl, rfl, rfl, h1, r1⟩ := trodAll_cons r0
 obtain ⟨v2, vs2, d2, ds2, p2, q2, rfl, rfl, rfl, h2, r2⟩ := trodAll_cons r1
 obtain ⟨rfl, rfl, rfl⟩ := trodAll_nil r2
 obtain rfl : args = #[v0, v1, v2] := by cases args; simp_all
 obtain ⟨rfl, rfl⟩ := trodVars_none hV
 have k0 := h0
 have lt0 := lt_of_trod h0
 obtain ⟨a0, rfl, rfl, rfl, w0⟩ := open_int Tryz.underlying3 (hval 0 3 v0 rfl rfl) h0
 have k1 := h1
 have lt1 := lt_of_trod h1
 obtain ⟨ab1, n1, c1, F1, gb1, ob1, bcs1, tb1, rfl, _, _, hn1⟩ := open_nats (hval 1 22 v1 rfl rfl) h1
 have k2 := h2
 have lt2 := lt_of_trod h2
 obtain ⟨N2, hN2, rfl⟩ := open_nat (hval 2 38 v2 rfl rfl) h2
 clear hA0 hval0
 refine (walk a0 ab1 n1 c1 F1 gb1 ob1 bcs1 tb1 N2 W (bounds_i64 w0) hn1 hN2).mono fun e W' ⟨he, bel⟩ => ?_
 subst he
 exact ⟨_, rfl, _, _, _, [], _, [], hW', trodAll_mk1 (shut_bool Tryz.underlying4 _), (trodAll_cons_mk (Below.trod laidOut (by kernel_rfl) (of_decide_eq_true (by kernel_rfl)) k0 bel lt0) (trodAll_cons_mk (Below.trod laidOut (by kernel_rfl) (of_decide_eq_true (by kernel_rfl)) k1 bel lt1) (trodAll_cons_mk (Below.trod laidOut (by kernel_rfl) (of_decide_eq_true (by kernel_rfl)) k2 bel lt2) trodAll_mk0))), rfl, bel.frame _, fun h => by cases h⟩
theorem over : Rows.shareHidesRow.holds Tryz.pinned (OpenSpec.ofChange Rows.shareHidesSpec) :=
 OpenClaim.holds_of_wide 4 Tryz.f4 rfl rfl rfl rfl rfl rfl rfl ⟨rfl, rfl, rfl, rfl, rfl⟩ rfl rfl rfl rfl rfl (by kernel_rfl) Tryz.func4 (by kernel_rfl)
  (of_decide_eq_true (by kernel_rfl)) (by unfold Func.isWrapper; first | (rw [if_pos (by decide +kernel)]; kernel_rfl) | (rw [if_neg (by decide +kernel)]; exact ⟨rfl, rfl⟩))
  (fun os started H enc _ => lifted os started H enc)
end shareHidesP
/-- for every number, list of naturals and natural: in a small group, of a list of 1 to 6, for any secret there is, by weights, the polynomial that is the secret at 0 and goes through all shares but one; it is the document's through these places; no condition. -/
theorem shareHides_holds : Rows.ShareHidesSaid := shareHidesP.over
end Go.Proofs.YtfhgdgnhcmakhaaGreat
