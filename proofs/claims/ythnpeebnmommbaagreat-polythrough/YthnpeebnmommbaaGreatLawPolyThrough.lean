/- PolyThrough: for every number and two lists of naturals: in a small group, of lists up to 8, the polynomial that is the second numbers at the first places is the document's, or an error, where they are not as many or a place is twice; no condition. -/
import Derived.Test.YthnpeebnmommbaaGreatPZ
import Derived.Test.YthnpeebnmommbaaGreatGU
namespace Go.Proofs.YthnpeebnmommbaaGreat
open Go.ChangeShapes Go.WideShapes Go.ChangeAt Go.RowKit
namespace polyThroughP
set_option linter.unusedVariables false
/-- A list's numbers. -/
def uo {Q : Nat} [NeZero Q] (L : List (Fin Q)) (i : Nat) : Nat := (pco L i).val
/-- Is the i-th none of the first k; is none of the first twice. -/
def dfI (u : Nat → Nat) (i : Nat) (b : Bool) : Nat → Bool
 | 0 => b
 | k + 1 => dfI u i b k && !decide (u i = u k)
def dfO (u : Nat → Nat) (b : Bool) : Nat → Bool
 | 0 => b
 | i + 1 => dfI u i (dfO u b i) i
theorem dfI_is (u : Nat → Nat) (i : Nat) (b : Bool) : ∀ k, dfI u i b k = true ↔ b = true ∧ ∀ j, j < k → u i ≠ u j
 | 0 => ⟨fun h => ⟨h, fun j hj => absurd hj (by omega)⟩, fun h => h.1⟩
 | k + 1 => by
  have ih := dfI_is u i b k
  show (dfI u i b k && !decide (u i = u k)) = true ↔ _
  rw [Bool.and_eq_true, ih]
  constructor
  ·rintro ⟨⟨h1, h2⟩, h3⟩
   refine ⟨h1, fun j hj => ?_⟩
   by_cases e : j = k
   ·rw [e]; simpa using h3
   ·exact h2 j (by omega)
  ·rintro ⟨h1, h2⟩
   exact ⟨⟨h1, fun j hj => h2 j (by omega)⟩, by simpa using h2 k (by omega)⟩
theorem dfO_is (u : Nat → Nat) (b : Bool) : ∀ n, dfO u b n = true ↔ b = true ∧ ∀ i j, i < n → j < i → u i ≠ u j
 | 0 => ⟨fun h => ⟨h, fun i j hi => absurd hi (by omega)⟩, fun h => h.1⟩
 | n + 1 => by
  have ih := dfO_is u b n
  show dfI u n (dfO u b n) n = true ↔ _
  rw [dfI_is, ih]
  constructor
  ·rintro ⟨⟨h1, h2⟩, h3⟩
   refine ⟨h1, fun i j hi hj => ?_⟩
   by_cases e : i = n
   ·rw [e]; exact h3 j (by omega)
   ·exact h2 i j (by omega) hj
  ·rintro ⟨h1, h2⟩
   exact ⟨⟨h1, fun i j hi hj => h2 i j (by omega) hj⟩, fun j hj => h2 n j (by omega) hj⟩
set_option maxRecDepth 100000 in
set_option maxHeartbeats 2000000 in
theorem core0 (a0 : Int) (n c m ce : Nat) (ab ae : Option Addr) (w : World) (h : 8 < n ∨ 8 < m) :
  Calls Tryz.prog 5 #[.int .i64 a0, .slice ab n c, .slice ae m ce] w fun e w' => e = .returned (.bool true) ∧ Below w.heap.size w w' := by
 have haw := awake12_any
 go_enter Tryz.func5, Tryz.ntmps5
 have sb := sbmk w
 (repeat ((fail_if_success with_reducible refine rg ?_); go_step))
 refine wp_region_pw ?_
 refine pw_value (by rfl) (.bool false) (fun _ => rfl) ?_
 simp only [Act.put, pu]
 refine pw_nil ?_
 by_cases h1 : 8 < n
 ·(repeat ((fail_if_success with_reducible refine rg ?_); go_step))
  refine wp_region_pw ?_
  refine pw_mv (by rfl) rfl rfl ?_
  simp only [Act.put, pu]
  refine pw_value (by rfl) (.int .i64 n) (exec_len_s 22 _ rfl (ab) (n) (c) rfl sl_natsX) ?_
  simp only [Act.put, pu]
  refine pw_value (by rfl) (.bool true) (exec_gt_i _ _ _ _ rfl n 8 rfl rfl true (decide_eq_true (by omega))) ?_
  refine pw_mv (by rfl) rfl rfl ?_
  simp only [Act.put, pu]
  refine pw_skip (by rfl) ?_
  simp only [Act.put, pu]
  refine pw_skip (by rfl) ?_
  simp only [Act.put, pu]
  refine pw_skip (by rfl) ?_
  simp only [Act.put, pu]
  refine pw_pick (by rfl) true (v := .bool true) rfl rfl rfl ?_
  simp only [Act.put, pu]
  refine pw_nil ?_
  (repeat ((fail_if_success with_reducible refine rg ?_); go_step))
  refine wp_region_pw ?_
  refine pw_callB (by rfl) 6 _ _ rfl Tryz.func6 (by kernel_rfl) #[] rfl _ (haw _) ?_
  intro z2000 k
  simp only [Act.put, pu]
  replace sb := sb.trans (k.below w.heap.size sb.size (by simp <;> omega))
  clear k
  refine pw_as (by rfl) rfl rfl ?_
  simp only [Act.put, pu]
  refine pw_nil ?_
  go_wp2
  go_ret
  exact ⟨rfl, sb⟩
 ·(repeat ((fail_if_success with_reducible refine rg ?_); go_step))
  refine wp_region_pw ?_
  refine pw_mv (by rfl) rfl rfl ?_
  simp only [Act.put, pu]
  refine pw_value (by rfl) (.int .i64 n) (exec_len_s 22 _ rfl (ab) (n) (c) rfl sl_natsX) ?_
  simp only [Act.put, pu]
  refine pw_value (by rfl) (.bool false) (exec_gt_i _ _ _ _ rfl n 8 rfl rfl false (decide_eq_false (by omega))) ?_
  refine pw_mv (by rfl) rfl rfl ?_
  refine pw_mv (by rfl) rfl rfl ?_
  simp only [Act.put, pu]
  refine pw_value (by rfl) (.int .i64 m) (exec_len_s 22 _ rfl (ae) (m) (ce) rfl sl_natsX) ?_
  simp only [Act.put, pu]
  refine pw_value (by rfl) (.bool true) (exec_gt_i _ _ _ _ rfl m 8 rfl rfl true (decide_eq_true (by omega))) ?_
  simp only [Act.put, pu]
  refine pw_pick (by rfl) false (v := .bool true) rfl rfl rfl ?_
  simp only [Act.put, pu]
  refine pw_nil ?_
  (repeat ((fail_if_success with_reducible refine rg ?_); go_step))
  refine wp_region_pw ?_
  refine pw_callB (by rfl) 6 _ _ rfl Tryz.func6 (by kernel_rfl) #[] rfl _ (haw _) ?_
  intro z2000 k
  simp only [Act.put, pu]
  replace sb := sb.trans (k.below w.heap.size sb.size (by simp <;> omega))
  clear k
  refine pw_as (by rfl) rfl rfl ?_
  simp only [Act.put, pu]
  refine pw_nil ?_
  go_wp2
  go_ret
  exact ⟨rfl, sb⟩
set_option maxRecDepth 100000 in
set_option maxHeartbeats 2000000 in
theorem core1 (a0 : Int) (PP QQ GG n c m ce : Nat) [NeZero QQ] (ab ae : Option Addr) (La Lb : List (Fin QQ)) (w : World) (hn : n ≤ 8) (hm : m ≤ 8) (la : La.length = n) (lb : Lb.length = m) (q : FdQ QQ) (hq : QQ < 4611686018427387904)
  (hal : ∀ w', Below w.heap.size w w' → Calls Tryz.prog 8 #[.slice ab n c, .int .i64 (QQ : Nat)] w' fun e w2 => ∃ v', e = .returned v' ∧ IlAt w2 v' La ∧ Below w'.heap.size w' w2)
  (hbl : ∀ w', Below w.heap.size w w' → Calls Tryz.prog 8 #[.slice ae m ce, .int .i64 (QQ : Nat)] w' fun e w2 => ∃ v', e = .returned v' ∧ IlAt w2 v' Lb ∧ Below w'.heap.size w' w2) (b0 : Bool) (hb0 : decide ((n : Int) = (m : Int)) = b0) (hBB : dfO (uo La) b0 n = false)
  (hsm : ∀ w', Calls Tryz.prog 7 #[.int .i64 a0] w' fun e w2 => ∃ g gr gf, e = .returned (.tuple #[.pointer (some ⟨g, 0, none⟩), .int .i64 (QQ : Nat), .bool true]) ∧ GrpAt w2 g gr gf PP QQ GG ∧ Below w'.heap.size w' w2)
  (hth : ∀ g gr gf w', Below w.heap.size w w' → GrpAt w' g gr gf PP QQ GG → Calls Tryz.prog 22 #[.pointer (some ⟨g, 0, none⟩), .slice ab n c, .slice ae m ce] w' fun e w2 => e = .returned (.tuple #[.slice none 0 0, .int .i64 1]) ∧ Below w'.heap.size w' w2) :
  Calls Tryz.prog 5 #[.int .i64 a0, .slice ab n c, .slice ae m ce] w fun e w' => e = .returned (.bool true) ∧ Below w.heap.size w w' := by
 have haw := awake12_any
 go_enter Tryz.func5, Tryz.ntmps5
 have sb := sbmk w
 (repeat ((fail_if_success with_reducible refine rg ?_); go_step))
 refine wp_region_pw ?_
 refine pw_value (by rfl) (.bool false) (fun _ => rfl) ?_
 simp only [Act.put, pu]
 refine pw_nil ?_
 (repeat ((fail_if_success with_reducible refine rg ?_); go_step))
 refine wp_region_pw ?_
 refine pw_mv (by rfl) rfl rfl ?_
 simp only [Act.put, pu]
 refine pw_value (by rfl) (.int .i64 n) (exec_len_s 22 _ rfl (ab) (n) (c) rfl sl_natsX) ?_
 simp only [Act.put, pu]
 refine pw_value (by rfl) (.bool false) (exec_gt_i _ _ _ _ rfl n 8 rfl rfl false (decide_eq_false (by omega))) ?_
 refine pw_mv (by rfl) rfl rfl ?_
 refine pw_mv (by rfl) rfl rfl ?_
 simp only [Act.put, pu]
 refine pw_value (by rfl) (.int .i64 m) (exec_len_s 22 _ rfl (ae) (m) (ce) rfl sl_natsX) ?_
 simp only [Act.put, pu]
 refine pw_value (by rfl) (.bool false) (exec_gt_i _ _ _ _ rfl m 8 rfl rfl false (decide_eq_false (by omega))) ?_
 simp only [Act.put, pu]
 refine pw_pick (by rfl) false (v := .bool false) rfl rfl rfl ?_
 simp only [Act.put, pu]
 refine pw_nil ?_
 (repeat ((fail_if_success with_reducible refine rg ?_); go_step))
 refine wp_region_pw ?_
 refine pw_mv (by rfl) rfl rfl ?_
 simp only [Act.put, pu]
 refine pw_callE (by rfl) 7 _ _ rfl Tryz.func7 (by kernel_rfl) #[.int .i64 a0] rfl (hsm _) ?_
 rintro _ z3001 ⟨g, gr, gf, rfl, hg, hb⟩
 refine ⟨_, rfl, ?_⟩
 simp only [Act.put, pu]
 have k := Kept.ofBelow hb
 clear hb
 replace sb := sb.trans (k.below w.heap.size sb.size (by simp <;> omega))
 clear k
 refine pw_mv (by rfl) rfl rfl ?_
 refine pw_ext (by rfl) rfl rfl rfl ?_
 refine pw_ext (by rfl) rfl rfl rfl ?_
 refine pw_ext (by rfl) rfl rfl rfl ?_
 refine pw_as (by rfl) rfl rfl ?_
 simp only [Act.put, pu]
 refine pw_as (by rfl) rfl rfl ?_
 refine pw_as (by rfl) rfl rfl ?_
 simp only [Act.put, pu]
 refine pw_nil ?_
 clear hsm
 (repeat ((fail_if_success with_reducible refine rg ?_); go_step))
 refine wp_region_pw ?_
 refine pw_mv (by rfl) rfl rfl ?_
 refine pw_mv (by rfl) rfl rfl ?_
 refine pw_mv (by rfl) rfl rfl ?_
 simp only [Act.put, pu]
 refine pw_callB (by rfl) 22 _ _ rfl Tryz.func22 (by kernel_rfl) #[.pointer (some ⟨g, 0, none⟩), .slice ab n c, .slice ae m ce] rfl _ (hth g gr gf _ sb hg) ?_
 intro z4003 k
 simp only [Act.put, pu]
 replace hg := hg.below k.nil
 replace sb := sb.trans (k.below w.heap.size sb.size (by simp <;> omega))
 clear k
 refine pw_mv (by rfl) rfl rfl ?_
 refine pw_ext (by rfl) rfl rfl rfl ?_
 refine pw_ext (by rfl) rfl rfl rfl ?_
 refine pw_as (by rfl) rfl rfl ?_
 refine pw_as (by rfl) rfl rfl ?_
 simp only [Act.put, pu]
 refine pw_nil ?_
 (repeat ((fail_if_success with_reducible refine rg ?_); go_step))
 refine wp_region_pw ?_
 refine pw_mv (by rfl) rfl rfl ?_
 refine pw_mv (by rfl) rfl rfl ?_
 simp only [Act.put, pu]
 refine pw_callE (by rfl) 8 _ _ rfl Tryz.func8 (by kernel_rfl) #[.slice ab n c, .int .i64 (QQ : Nat)] rfl (hal _ sb) ?_
 rintro _ z5002 ⟨vs, rfl, hs, hb⟩
 refine ⟨_, rfl, ?_⟩
 simp only [Act.put, pu]
 have k := Kept.ofBelow hb
 clear hb
 replace sb := sb.trans (k.below w.heap.size sb.size (by simp <;> omega))
 clear k
 refine pw_mv (by rfl) rfl rfl ?_
 refine pw_mv (by rfl) rfl rfl ?_
 simp only [Act.put, pu]
 refine pw_callE (by rfl) 8 _ _ rfl Tryz.func8 (by kernel_rfl) #[.slice ae m ce, .int .i64 (QQ : Nat)] rfl (hbl _ sb) ?_
 rintro _ z5005 ⟨vt, rfl, ht, hb⟩
 refine ⟨_, rfl, ?_⟩
 simp only [Act.put, pu]
 have k := Kept.ofBelow hb
 clear hb
 replace hs := hs.below k.nil
 replace sb := sb.trans (k.below w.heap.size sb.size (by simp <;> omega))
 clear k
 refine pw_as (by rfl) rfl rfl ?_
 refine pw_as (by rfl) rfl rfl ?_
 simp only [Act.put, pu]
 refine pw_nil ?_
 clear hal hbl
 obtain ⟨az, cs, gs, os, scs, ts, rfl, hcs, hsn⟩ := hs.nums la
 obtain ⟨at', ct, rfl⟩ := ht.shape lb
 (repeat ((fail_if_success with_reducible refine rg ?_); go_step))
 refine wp_region_pw ?_
 refine pw_mv (by rfl) rfl rfl ?_
 simp only [Act.put, pu]
 refine pw_value (by rfl) (.int .i64 (n : Nat)) (exec_len_s 31 _ rfl (az) (n) (cs) rfl sl_intsX) ?_
 refine pw_mv (by rfl) rfl rfl ?_
 simp only [Act.put, pu]
 refine pw_value (by rfl) (.int .i64 (m : Nat)) (exec_len_s 31 _ rfl (at') (m) (ct) rfl sl_intsX) ?_
 simp only [Act.put, pu]
 refine pw_value (by rfl) (.bool b0) (exec_eql_k .i64 _ _ _ _ rfl n m rfl rfl b0 hb0) ?_
 refine pw_as (by rfl) rfl rfl ?_
 simp only [Act.put, pu]
 refine pw_nil ?_
 (repeat ((fail_if_success with_reducible refine rg ?_); go_step))
 refine wp_region_pw ?_
 refine pw_value (by rfl) (.int .i64 0) (fun _ => rfl) ?_
 simp only [Act.put, pu]
 refine pw_nil ?_
 go_wp2_with fail
 go_loopg [14, 15, 16] n (fun x s14 s15 s16 wr => ∃ i : Nat, i + x = n ∧ s14 = .bool (dfO (uo La) b0 i) ∧ s15 = .int .i64 i ∧ IlAt wr (.slice az n cs) La ∧ IlAt wr (.slice at' m ct) Lb ∧ NumsAt wr az n (uo La) gs os scs ts ∧ Below w.heap.size w wr)
 case atStart => exact ⟨0, by omega, rfl, rfl, hs, ht, hsn, sb⟩
 case round =>
  clear hs ht hsn sb
  obtain ⟨i, hi, rfl, rfl, hs, ht, hsn, sb⟩ := hrel
  cases gk with
  | zero =>
   obtain rfl : i = n := by omega
   clear hi hsn
   rw [hBB]
   (repeat ((fail_if_success with_reducible refine rg ?_); go_step))
   refine wp_region_pw ?_
   refine pw_mv (by rfl) rfl rfl ?_
   refine pw_mv (by rfl) rfl rfl ?_
   simp only [Act.put, pu]
   refine pw_value (by rfl) (.int .i64 (i : Nat)) (exec_len_s 31 _ rfl (az) (i) (cs) rfl sl_intsX) ?_
   simp only [Act.put, pu]
   refine pw_value (by rfl) (.bool false) (exec_lt_b _ _ _ _ rfl i i rfl rfl false (decide_eq_false (Int.lt_irrefl _))) ?_
   simp only [Act.put, pu]
   refine pw_nil ?_
   (repeat ((fail_if_success with_reducible refine rg ?_); go_step))
   refine wp_region_pw ?_
   refine pw_mv (by rfl) rfl rfl ?_
   simp only [Act.put, pu]
   refine pw_value (by rfl) (.bool true) (exec_not _ _ rfl false rfl) ?_
   simp only [Act.put, pu]
   refine pw_nil ?_
   (repeat ((fail_if_success with_reducible refine rg ?_); go_step))
   refine wp_region_pw ?_
   refine pw_mv (by rfl) rfl rfl ?_
   refine pw_mv (by rfl) rfl rfl ?_
   refine pw_mv (by rfl) rfl rfl ?_
   simp only [Act.put, pu]
   refine pw_value (by rfl) (.int .i64 0) (exec_len_s 22 _ rfl (none) (0) (0) rfl sl_natsX) ?_
   simp only [Act.put, pu]
   refine pw_value (by rfl) (.bool true) (exec_eql_k .i64 _ _ _ _ rfl 0 0 rfl rfl true rfl) ?_
   simp only [Act.put, pu]
   refine pw_pick (by rfl) true (v := .bool true) rfl rfl rfl ?_
   refine pw_mv (by rfl) rfl rfl ?_
   refine pw_mv (by rfl) rfl rfl ?_
   simp only [Act.put, pu]
   refine pw_value (by rfl) (.bool true) (exec_eql_k .i64 _ _ _ _ rfl 1 1 rfl rfl true rfl) ?_
   simp only [Act.put, pu]
   refine pw_pick (by rfl) true (v := .bool true) rfl rfl rfl ?_
   refine pw_mv (by rfl) rfl rfl ?_
   simp only [Act.put, pu]
   refine pw_callB (by rfl) 6 _ _ rfl Tryz.func6 (by kernel_rfl) #[] rfl _ (haw _) ?_
   intro z15011 k
   simp only [Act.put, pu]
   replace sb := sb.trans (k.below w.heap.size sb.size (by simp <;> omega))
   clear k
   refine pw_pick (by rfl) true (v := .bool true) rfl rfl rfl ?_
   refine pw_as (by rfl) rfl rfl ?_
   simp only [Act.put, pu]
   refine pw_nil ?_
   go_wp2
   go_ret
   exact ⟨rfl, sb⟩
  | succ x =>
   have hlt : i < n := by omega
   (repeat ((fail_if_success with_reducible refine rg ?_); go_step))
   refine wp_region_pw ?_
   refine pw_mv (by rfl) rfl rfl ?_
   refine pw_mv (by rfl) rfl rfl ?_
   simp only [Act.put, pu]
   refine pw_value (by rfl) (.int .i64 (n : Nat)) (exec_len_s 31 _ rfl (az) (n) (cs) rfl sl_intsX) ?_
   simp only [Act.put, pu]
   refine pw_value (by rfl) (.bool true) (exec_lt_b _ _ _ _ rfl i n rfl rfl true (decide_eq_true (by omega))) ?_
   simp only [Act.put, pu]
   refine pw_nil ?_
   (repeat ((fail_if_success with_reducible refine rg ?_); go_step))
   refine wp_region_pw ?_
   refine pw_value (by rfl) (.int .i64 0) (fun _ => rfl) ?_
   simp only [Act.put, pu]
   refine pw_nil ?_
   obtain ⟨bi, hbi⟩ : ∃ bi, dfO (uo La) b0 i = bi := ⟨_, rfl⟩
   have HBI : Hid (dfO (uo La) b0 i = bi) := hbi
   rw [hbi]
   clear hbi
   go_wp2_with fail
   go_loopg [14, 16] i (fun y s14 s16 wr => ∃ k : Nat, k + y = i ∧ s14 = .bool (dfI (uo La) i bi k) ∧ s16 = .int .i64 k ∧ IlAt wr (.slice az n cs) La ∧ IlAt wr (.slice at' m ct) Lb ∧ NumsAt wr az n (uo La) gs os scs ts ∧ Below w.heap.size w wr)
   case atStart => exact ⟨0, by omega, rfl, rfl, hs, ht, hsn, sb⟩
   case round =>
    clear hs ht hsn sb
    obtain ⟨k, hk, rfl, rfl, hs, ht, hsn, sb⟩ := hrel
    cases gk with
    | zero =>
     obtain rfl : k = i := by omega
     clear hk
     have hnx : dfI (uo La) k bi k = dfO (uo La) b0 (k + 1) := by rw [← HBI.out]; rfl
     (repeat ((fail_if_success with_reducible refine rg ?_); go_step))
     refine wp_region_pw ?_
     refine pw_mv (by rfl) rfl rfl ?_
     refine pw_mv (by rfl) rfl rfl ?_
     simp only [Act.put, pu]
     refine pw_value (by rfl) (.bool false) (exec_lt_b _ _ _ _ rfl k k rfl rfl false (decide_eq_false (Int.lt_irrefl _))) ?_
     simp only [Act.put, pu]
     refine pw_nil ?_
     (repeat ((fail_if_success with_reducible refine rg ?_); go_step))
     refine wp_region_pw ?_
     refine pw_mv (by rfl) rfl rfl ?_
     simp only [Act.put, pu]
     refine pw_value (by rfl) (.int .i64 ((k + 1 : Nat) : Int)) (exec_add_in _ _ _ _ rfl k 1 rfl rfl (by omega)) ?_
     refine pw_as (by rfl) rfl rfl ?_
     simp only [Act.put, pu]
     refine pw_nil ?_
     go_wp2
     go_roundg x
     case measure => omega
     case rel => exact ⟨k + 1, by omega, by rw [hnx], rfl, hs, ht, hsn, sb⟩
    | succ y =>
     have hltk : k < i := by omega
     have hkn : k < n := by omega
     (repeat ((fail_if_success with_reducible refine rg ?_); go_step))
     refine wp_region_pw ?_
     refine pw_mv (by rfl) rfl rfl ?_
     refine pw_mv (by rfl) rfl rfl ?_
     simp only [Act.put, pu]
     refine pw_value (by rfl) (.bool true) (exec_lt_b _ _ _ _ rfl k i rfl rfl true (decide_eq_true (by omega))) ?_
     simp only [Act.put, pu]
     refine pw_nil ?_
     obtain h1 | ⟨rfl, rS, hst⟩ := hsn.at'
     ·exact absurd h1 (by omega)
     have hsi := hst i hlt
     have hsk := hst k hkn
     clear hst
     have orS := rS
     cases hd : dfI (uo La) i bi k with
     | false =>
      have hnx : dfI (uo La) i bi (k + 1) = false := by
       show (dfI (uo La) i bi k && _) = false
       rw [hd]; rfl
      (repeat ((fail_if_success with_reducible refine rg ?_); go_step))
      refine wp_region_ewb (by kernel_rfl) [] [(0, false), (1, false), (2, false), (3, false), (4, false), (5, false), (6, false), (7, false), (8, false), (9, false), (10, false), (11, false), (12, false)] ?_ (by kernel_rfl)
      have cb := below_self sb
      have osb := sb
      have ohs := hs
      have oht := ht
      have ohsn := hsn
      refine ew_mv (by rfl) rfl rfl ?_
      refine ew_mv (by rfl) rfl rfl ?_
      simp only [Act.put, pu]
      refine ew_skip (by rfl) ?_
      simp only [Act.put, pu]
      refine ew_skip (by rfl) ?_
      simp only [Act.put, pu]
      refine ew_skip (by rfl) ?_
      simp only [Act.put, pu]
      refine ew_skip (by rfl) ?_
      simp only [Act.put, pu]
      refine ew_skip (by rfl) ?_
      simp only [Act.put, pu]
      refine ew_skip (by rfl) ?_
      simp only [Act.put, pu]
      refine ew_skip (by rfl) ?_
      simp only [Act.put, pu]
      refine ew_skip (by rfl) ?_
      simp only [Act.put, pu]
      refine ew_skip (by rfl) ?_
      simp only [Act.put, pu]
      refine ew_pick (by rfl) false (v := .bool false) rfl rfl rfl ?_
      refine ew_as (by rfl) rfl rfl ?_
      simp only [Act.put, pu]
      refine ew_nil ?_
      intro wz hqb
      replace hs := hs.below hqb
      replace ht := ht.below hqb
      replace hsn := hsn.below hqb
      replace sb := below_on sb (Nat.le_refl _) hqb
      clear hqb cb osb ohs oht ohsn
      clear rS orS
      (repeat ((fail_if_success with_reducible refine rg ?_); go_step))
      refine wp_region_pw ?_
      refine pw_mv (by rfl) rfl rfl ?_
      simp only [Act.put, pu]
      refine pw_value (by rfl) (.int .i64 ((k + 1 : Nat) : Int)) (exec_add_in _ _ _ _ rfl k 1 rfl rfl (by omega)) ?_
      refine pw_as (by rfl) rfl rfl ?_
      simp only [Act.put, pu]
      refine pw_nil ?_
      go_wp2
      go_roundg y
      case measure => omega
      case rel => exact ⟨k + 1, by omega, by rw [hnx], rfl, hs, ht, hsn, sb⟩
     | true =>
      obtain ⟨bb, hbb⟩ : ∃ bb, (!decide ((uo La) i = (uo La) k)) = bb := ⟨_, rfl⟩
      have hbb2 : (!decide ((((uo La) i : Nat) : Int) = (((uo La) k : Nat) : Int))) = bb := by
       rw [← hbb]
       congr 1
       exact decide_eq_decide.2 ⟨fun e => by exact_mod_cast e, fun e => by exact_mod_cast e⟩
      have hnx : dfI (uo La) i bi (k + 1) = bb := by
       show (dfI (uo La) i bi k && !decide ((uo La) i = (uo La) k)) = bb
       rw [hd, hbb]; rfl
      clear hbb
      (repeat ((fail_if_success with_reducible refine rg ?_); go_step))
      refine wp_region_ewb (by kernel_rfl) [] [(0, false), (1, false), (2, false), (3, false), (4, false), (5, false), (6, false), (7, false), (8, false), (9, false), (10, false), (11, false), (12, false)] ?_ (by kernel_rfl)
      have cb := below_self sb
      have osb := sb
      have ohs := hs
      have oht := ht
      have ohsn := hsn
      refine ew_mv (by rfl) rfl rfl ?_
      refine ew_mv (by rfl) rfl rfl ?_
      refine ew_mv (by rfl) rfl rfl ?_
      refine ew_mv (by rfl) rfl rfl ?_
      simp only [Act.put, pu]
      refine ew_value (by rfl) (.pointer (some ⟨gs, os + i * 1, none⟩)) ((exec_index_s 31 _ _ rfl gs os (n) (cs) rfl (i) rfl (hlt) _ Tryz.underlying31 1 Tryz.sizeOf3)) ?_
      simp only [Act.put, pu]
      refine ew_loadk (by rfl) 3 _ rfl _ (os + i * 1) rfl (fun _ hb => (orS.belowAll hb)) (.int .i64 ((uo La) i : Nat)) hsi Tryz.isAgg3 ?_
      refine ew_mv (by rfl) rfl rfl ?_
      refine ew_mv (by rfl) rfl rfl ?_
      simp only [Act.put, pu]
      refine ew_value (by rfl) (.pointer (some ⟨gs, os + k * 1, none⟩)) ((exec_index_s 31 _ _ rfl gs os (n) (cs) rfl (k) rfl (hkn) _ Tryz.underlying31 1 Tryz.sizeOf3)) ?_
      simp only [Act.put, pu]
      refine ew_loadk (by rfl) 3 _ rfl _ (os + k * 1) rfl (fun _ hb => (orS.belowAll hb)) (.int .i64 ((uo La) k : Nat)) hsk Tryz.isAgg3 ?_
      simp only [Act.put, pu]
      refine ew_value (by rfl) (.bool bb) (exec_neq_k .i64 _ _ _ _ rfl ((uo La) i : Nat) ((uo La) k : Nat) rfl rfl bb hbb2) ?_
      simp only [Act.put, pu]
      refine ew_pick (by rfl) true (v := .bool bb) rfl rfl rfl ?_
      refine ew_as (by rfl) rfl rfl ?_
      simp only [Act.put, pu]
      refine ew_nil ?_
      intro wz hqb
      replace hs := hs.below hqb
      replace ht := ht.below hqb
      replace hsn := hsn.below hqb
      replace sb := below_on sb (Nat.le_refl _) hqb
      clear hqb cb osb ohs oht ohsn
      clear rS orS
      (repeat ((fail_if_success with_reducible refine rg ?_); go_step))
      refine wp_region_pw ?_
      refine pw_mv (by rfl) rfl rfl ?_
      simp only [Act.put, pu]
      refine pw_value (by rfl) (.int .i64 ((k + 1 : Nat) : Int)) (exec_add_in _ _ _ _ rfl k 1 rfl rfl (by omega)) ?_
      refine pw_as (by rfl) rfl rfl ?_
      simp only [Act.put, pu]
      refine pw_nil ?_
      go_wp2
      go_roundg y
      case measure => omega
      case rel => exact ⟨k + 1, by omega, by rw [hnx], rfl, hs, ht, hsn, sb⟩
set_option maxRecDepth 100000 in
set_option maxHeartbeats 2000000 in
theorem core2 (a0 : Int) (PP QQ GG n c m ce : Nat) [NeZero QQ] (ab ae : Option Addr) (La Lb : List (Fin QQ)) (w : World) (hn : n ≤ 8) (hm : m ≤ 8) (la : La.length = n) (lb : Lb.length = m) (q : FdQ QQ) (hq : QQ < 4611686018427387904)
  (hal : ∀ w', Below w.heap.size w w' → Calls Tryz.prog 8 #[.slice ab n c, .int .i64 (QQ : Nat)] w' fun e w2 => ∃ v', e = .returned v' ∧ IlAt w2 v' La ∧ Below w'.heap.size w' w2)
  (hbl : ∀ w', Below w.heap.size w w' → Calls Tryz.prog 8 #[.slice ae m ce, .int .i64 (QQ : Nat)] w' fun e w2 => ∃ v', e = .returned v' ∧ IlAt w2 v' Lb ∧ Below w'.heap.size w' w2) (hnm : n = m) (b0 : Bool) (hb0 : decide ((n : Int) = (m : Int)) = b0) (hBB : dfO (uo La) b0 n = true)
  (hsm : ∀ w', Calls Tryz.prog 7 #[.int .i64 a0] w' fun e w2 => ∃ g gr gf, e = .returned (.tuple #[.pointer (some ⟨g, 0, none⟩), .int .i64 (QQ : Nat), .bool true]) ∧ GrpAt w2 g gr gf PP QQ GG ∧ Below w'.heap.size w' w2)
  (hth : ∀ g gr gf w', Below w.heap.size w w' → GrpAt w' g gr gf PP QQ GG → Calls Tryz.prog 22 #[.pointer (some ⟨g, 0, none⟩), .slice ab n c, .slice ae m ce] w' fun e w2 => ∃ vf, e = .returned (.tuple #[vf, .int .i64 0]) ∧ PlAt w2 vf (pthr ivF (pco La) (pco Lb) n n) ∧ Below w'.heap.size w' w2) :
  Calls Tryz.prog 5 #[.int .i64 a0, .slice ab n c, .slice ae m ce] w fun e w' => e = .returned (.bool true) ∧ Below w.heap.size w w' := by
 have haw := awake12_any
 have hpl := pthr_length ivF (pco La) (pco Lb) n n (Nat.le_refl n)
 have rth := fun w' (v v' : Value) (h : IlAt w' v La) (h' : IlAt w' v' Lb) => rthrL v v' _ _ n w' la (by omega) (by omega) q hq h h'
 have his := fun w' (v v' : Value) (h : PlAt w' v (pthr ivF (pco La) (pco Lb) n n)) (h' : IlAt w' v' (pthr ivF (pco La) (pco Lb) n n)) => is_any v v' _ w' (by omega) hq h h'
 clear hnm
 go_enter Tryz.func5, Tryz.ntmps5
 have sb := sbmk w
 (repeat ((fail_if_success with_reducible refine rg ?_); go_step))
 refine wp_region_pw ?_
 refine pw_value (by rfl) (.bool false) (fun _ => rfl) ?_
 simp only [Act.put, pu]
 refine pw_nil ?_
 (repeat ((fail_if_success with_reducible refine rg ?_); go_step))
 refine wp_region_pw ?_
 refine pw_mv (by rfl) rfl rfl ?_
 simp only [Act.put, pu]
 refine pw_value (by rfl) (.int .i64 n) (exec_len_s 22 _ rfl (ab) (n) (c) rfl sl_natsX) ?_
 simp only [Act.put, pu]
 refine pw_value (by rfl) (.bool false) (exec_gt_i _ _ _ _ rfl n 8 rfl rfl false (decide_eq_false (by omega))) ?_
 refine pw_mv (by rfl) rfl rfl ?_
 refine pw_mv (by rfl) rfl rfl ?_
 simp only [Act.put, pu]
 refine pw_value (by rfl) (.int .i64 m) (exec_len_s 22 _ rfl (ae) (m) (ce) rfl sl_natsX) ?_
 simp only [Act.put, pu]
 refine pw_value (by rfl) (.bool false) (exec_gt_i _ _ _ _ rfl m 8 rfl rfl false (decide_eq_false (by omega))) ?_
 simp only [Act.put, pu]
 refine pw_pick (by rfl) false (v := .bool false) rfl rfl rfl ?_
 simp only [Act.put, pu]
 refine pw_nil ?_
 (repeat ((fail_if_success with_reducible refine rg ?_); go_step))
 refine wp_region_pw ?_
 refine pw_mv (by rfl) rfl rfl ?_
 simp only [Act.put, pu]
 refine pw_callE (by rfl) 7 _ _ rfl Tryz.func7 (by kernel_rfl) #[.int .i64 a0] rfl (hsm _) ?_
 rintro _ z3001 ⟨g, gr, gf, rfl, hg, hb⟩
 refine ⟨_, rfl, ?_⟩
 simp only [Act.put, pu]
 have k := Kept.ofBelow hb
 clear hb
 replace sb := sb.trans (k.below w.heap.size sb.size (by simp <;> omega))
 clear k
 refine pw_mv (by rfl) rfl rfl ?_
 refine pw_ext (by rfl) rfl rfl rfl ?_
 refine pw_ext (by rfl) rfl rfl rfl ?_
 refine pw_ext (by rfl) rfl rfl rfl ?_
 refine pw_as (by rfl) rfl rfl ?_
 simp only [Act.put, pu]
 refine pw_as (by rfl) rfl rfl ?_
 refine pw_as (by rfl) rfl rfl ?_
 simp only [Act.put, pu]
 refine pw_nil ?_
 clear hsm
 (repeat ((fail_if_success with_reducible refine rg ?_); go_step))
 refine wp_region_pw ?_
 refine pw_mv (by rfl) rfl rfl ?_
 refine pw_mv (by rfl) rfl rfl ?_
 refine pw_mv (by rfl) rfl rfl ?_
 simp only [Act.put, pu]
 refine pw_callE (by rfl) 22 _ _ rfl Tryz.func22 (by kernel_rfl) #[.pointer (some ⟨g, 0, none⟩), .slice ab n c, .slice ae m ce] rfl (hth g gr gf _ sb hg) ?_
 rintro _ z4003 ⟨vf, rfl, hf, hb⟩
 refine ⟨_, rfl, ?_⟩
 simp only [Act.put, pu]
 have k := Kept.ofBelow hb
 clear hb
 replace hg := hg.below k.nil
 replace sb := sb.trans (k.below w.heap.size sb.size (by simp <;> omega))
 clear k
 refine pw_mv (by rfl) rfl rfl ?_
 refine pw_ext (by rfl) rfl rfl rfl ?_
 refine pw_ext (by rfl) rfl rfl rfl ?_
 refine pw_as (by rfl) rfl rfl ?_
 refine pw_as (by rfl) rfl rfl ?_
 simp only [Act.put, pu]
 refine pw_nil ?_
 (repeat ((fail_if_success with_reducible refine rg ?_); go_step))
 refine wp_region_pw ?_
 refine pw_mv (by rfl) rfl rfl ?_
 refine pw_mv (by rfl) rfl rfl ?_
 simp only [Act.put, pu]
 refine pw_callE (by rfl) 8 _ _ rfl Tryz.func8 (by kernel_rfl) #[.slice ab n c, .int .i64 (QQ : Nat)] rfl (hal _ sb) ?_
 rintro _ z5002 ⟨vs, rfl, hs, hb⟩
 refine ⟨_, rfl, ?_⟩
 simp only [Act.put, pu]
 have k := Kept.ofBelow hb
 clear hb
 replace hf := hf.below k.nil
 replace sb := sb.trans (k.below w.heap.size sb.size (by simp <;> omega))
 clear k
 refine pw_mv (by rfl) rfl rfl ?_
 refine pw_mv (by rfl) rfl rfl ?_
 simp only [Act.put, pu]
 refine pw_callE (by rfl) 8 _ _ rfl Tryz.func8 (by kernel_rfl) #[.slice ae m ce, .int .i64 (QQ : Nat)] rfl (hbl _ sb) ?_
 rintro _ z5005 ⟨vt, rfl, ht, hb⟩
 refine ⟨_, rfl, ?_⟩
 simp only [Act.put, pu]
 have k := Kept.ofBelow hb
 clear hb
 replace hf := hf.below k.nil
 replace hs := hs.below k.nil
 replace sb := sb.trans (k.below w.heap.size sb.size (by simp <;> omega))
 clear k
 refine pw_as (by rfl) rfl rfl ?_
 refine pw_as (by rfl) rfl rfl ?_
 simp only [Act.put, pu]
 refine pw_nil ?_
 clear hal hbl
 obtain ⟨az, cs, gs, os, scs, ts, rfl, hcs, hsn⟩ := hs.nums la
 obtain ⟨at', ct, rfl⟩ := ht.shape lb
 (repeat ((fail_if_success with_reducible refine rg ?_); go_step))
 refine wp_region_pw ?_
 refine pw_mv (by rfl) rfl rfl ?_
 simp only [Act.put, pu]
 refine pw_value (by rfl) (.int .i64 (n : Nat)) (exec_len_s 31 _ rfl (az) (n) (cs) rfl sl_intsX) ?_
 refine pw_mv (by rfl) rfl rfl ?_
 simp only [Act.put, pu]
 refine pw_value (by rfl) (.int .i64 (m : Nat)) (exec_len_s 31 _ rfl (at') (m) (ct) rfl sl_intsX) ?_
 simp only [Act.put, pu]
 refine pw_value (by rfl) (.bool b0) (exec_eql_k .i64 _ _ _ _ rfl n m rfl rfl b0 hb0) ?_
 refine pw_as (by rfl) rfl rfl ?_
 simp only [Act.put, pu]
 refine pw_nil ?_
 (repeat ((fail_if_success with_reducible refine rg ?_); go_step))
 refine wp_region_pw ?_
 refine pw_value (by rfl) (.int .i64 0) (fun _ => rfl) ?_
 simp only [Act.put, pu]
 refine pw_nil ?_
 go_wp2_with fail
 go_loopg [14, 15, 16] n (fun x s14 s15 s16 wr => ∃ i : Nat, i + x = n ∧ s14 = .bool (dfO (uo La) b0 i) ∧ s15 = .int .i64 i ∧ PlAt wr vf (pthr ivF (pco La) (pco Lb) n n) ∧ IlAt wr (.slice az n cs) La ∧ IlAt wr (.slice at' m ct) Lb ∧ NumsAt wr az n (uo La) gs os scs ts ∧ Below w.heap.size w wr)
 case atStart => exact ⟨0, by omega, rfl, rfl, hf, hs, ht, hsn, sb⟩
 case round =>
  clear hf hs ht hsn sb
  obtain ⟨i, hi, rfl, rfl, hf, hs, ht, hsn, sb⟩ := hrel
  cases gk with
  | zero =>
   obtain rfl : i = n := by omega
   clear hi hsn
   rw [hBB]
   (repeat ((fail_if_success with_reducible refine rg ?_); go_step))
   refine wp_region_pw ?_
   refine pw_mv (by rfl) rfl rfl ?_
   refine pw_mv (by rfl) rfl rfl ?_
   simp only [Act.put, pu]
   refine pw_value (by rfl) (.int .i64 (i : Nat)) (exec_len_s 31 _ rfl (az) (i) (cs) rfl sl_intsX) ?_
   simp only [Act.put, pu]
   refine pw_value (by rfl) (.bool false) (exec_lt_b _ _ _ _ rfl i i rfl rfl false (decide_eq_false (Int.lt_irrefl _))) ?_
   simp only [Act.put, pu]
   refine pw_nil ?_
   (repeat ((fail_if_success with_reducible refine rg ?_); go_step))
   refine wp_region_pw ?_
   refine pw_mv (by rfl) rfl rfl ?_
   simp only [Act.put, pu]
   refine pw_value (by rfl) (.bool false) (exec_not _ _ rfl true rfl) ?_
   simp only [Act.put, pu]
   refine pw_nil ?_
   (repeat ((fail_if_success with_reducible refine rg ?_); go_step))
   refine wp_region_pw ?_
   refine pw_mv (by rfl) rfl rfl ?_
   refine pw_mv (by rfl) rfl rfl ?_
   refine pw_mv (by rfl) rfl rfl ?_
   simp only [Act.put, pu]
   refine pw_value (by rfl) (.bool true) (exec_eql_k .i64 _ _ _ _ rfl 0 0 rfl rfl true rfl) ?_
   simp only [Act.put, pu]
   refine pw_pick (by rfl) true (v := .bool true) rfl rfl rfl ?_
   refine pw_mv (by rfl) rfl rfl ?_
   refine pw_mv (by rfl) rfl rfl ?_
   refine pw_mv (by rfl) rfl rfl ?_
   refine pw_mv (by rfl) rfl rfl ?_
   simp only [Act.put, pu]
   refine pw_mv (by rfl) rfl rfl ?_
   simp only [Act.put, pu]
   refine pw_callE (by rfl) 23 _ _ rfl Tryz.func23 (by kernel_rfl) #[.slice az i cs, .slice at' m ct, .int .i64 (QQ : Nat)] rfl (rth _ _ _ hs ht) ?_
   rintro _ z16010 ⟨v5, rfl, h5, hb⟩
   refine ⟨_, rfl, ?_⟩
   simp only [Act.put, pu]
   have k := Kept.ofBelow hb
   clear hb
   replace hf := hf.below k.nil
   replace hs := hs.below k.nil
   replace ht := ht.below k.nil
   replace sb := sb.trans (k.below w.heap.size sb.size (by simp <;> omega))
   clear k
   refine pw_callB (by rfl) 9 _ _ rfl Tryz.func9 (by kernel_rfl) #[vf, v5] rfl _ (his _ vf v5 hf h5) ?_
   intro z16011 k
   simp only [Act.put, pu]
   replace hf := hf.below k.nil
   replace hs := hs.below k.nil
   replace ht := ht.below k.nil
   replace h5 := h5.below k.nil
   replace sb := sb.trans (k.below w.heap.size sb.size (by simp <;> omega))
   clear k
   refine pw_pick (by rfl) true (v := .bool true) rfl rfl rfl ?_
   refine pw_mv (by rfl) rfl rfl ?_
   simp only [Act.put, pu]
   refine pw_callB (by rfl) 6 _ _ rfl Tryz.func6 (by kernel_rfl) #[] rfl _ (haw _) ?_
   intro z16014 k
   simp only [Act.put, pu]
   replace hf := hf.below k.nil
   replace hs := hs.below k.nil
   replace ht := ht.below k.nil
   replace h5 := h5.below k.nil
   replace sb := sb.trans (k.below w.heap.size sb.size (by simp <;> omega))
   clear k
   refine pw_pick (by rfl) true (v := .bool true) rfl rfl rfl ?_
   refine pw_as (by rfl) rfl rfl ?_
   simp only [Act.put, pu]
   refine pw_nil ?_
   go_wp2
   go_ret
   exact ⟨rfl, sb⟩
  | succ x =>
   have hlt : i < n := by omega
   (repeat ((fail_if_success with_reducible refine rg ?_); go_step))
   refine wp_region_pw ?_
   refine pw_mv (by rfl) rfl rfl ?_
   refine pw_mv (by rfl) rfl rfl ?_
   simp only [Act.put, pu]
   refine pw_value (by rfl) (.int .i64 (n : Nat)) (exec_len_s 31 _ rfl (az) (n) (cs) rfl sl_intsX) ?_
   simp only [Act.put, pu]
   refine pw_value (by rfl) (.bool true) (exec_lt_b _ _ _ _ rfl i n rfl rfl true (decide_eq_true (by omega))) ?_
   simp only [Act.put, pu]
   refine pw_nil ?_
   (repeat ((fail_if_success with_reducible refine rg ?_); go_step))
   refine wp_region_pw ?_
   refine pw_value (by rfl) (.int .i64 0) (fun _ => rfl) ?_
   simp only [Act.put, pu]
   refine pw_nil ?_
   obtain ⟨bi, hbi⟩ : ∃ bi, dfO (uo La) b0 i = bi := ⟨_, rfl⟩
   have HBI : Hid (dfO (uo La) b0 i = bi) := hbi
   rw [hbi]
   clear hbi
   go_wp2_with fail
   go_loopg [14, 16] i (fun y s14 s16 wr => ∃ k : Nat, k + y = i ∧ s14 = .bool (dfI (uo La) i bi k) ∧ s16 = .int .i64 k ∧ PlAt wr vf (pthr ivF (pco La) (pco Lb) n n) ∧ IlAt wr (.slice az n cs) La ∧ IlAt wr (.slice at' m ct) Lb ∧ NumsAt wr az n (uo La) gs os scs ts ∧ Below w.heap.size w wr)
   case atStart => exact ⟨0, by omega, rfl, rfl, hf, hs, ht, hsn, sb⟩
   case round =>
    clear hf hs ht hsn sb
    obtain ⟨k, hk, rfl, rfl, hf, hs, ht, hsn, sb⟩ := hrel
    cases gk with
    | zero =>
     obtain rfl : k = i := by omega
     clear hk
     have hnx : dfI (uo La) k bi k = dfO (uo La) b0 (k + 1) := by rw [← HBI.out]; rfl
     (repeat ((fail_if_success with_reducible refine rg ?_); go_step))
     refine wp_region_pw ?_
     refine pw_mv (by rfl) rfl rfl ?_
     refine pw_mv (by rfl) rfl rfl ?_
     simp only [Act.put, pu]
     refine pw_value (by rfl) (.bool false) (exec_lt_b _ _ _ _ rfl k k rfl rfl false (decide_eq_false (Int.lt_irrefl _))) ?_
     simp only [Act.put, pu]
     refine pw_nil ?_
     (repeat ((fail_if_success with_reducible refine rg ?_); go_step))
     refine wp_region_pw ?_
     refine pw_mv (by rfl) rfl rfl ?_
     simp only [Act.put, pu]
     refine pw_value (by rfl) (.int .i64 ((k + 1 : Nat) : Int)) (exec_add_in _ _ _ _ rfl k 1 rfl rfl (by omega)) ?_
     refine pw_as (by rfl) rfl rfl ?_
     simp only [Act.put, pu]
     refine pw_nil ?_
     go_wp2
     go_roundg x
     case measure => omega
     case rel => exact ⟨k + 1, by omega, by rw [hnx], rfl, hf, hs, ht, hsn, sb⟩
    | succ y =>
     have hltk : k < i := by omega
     have hkn : k < n := by omega
     (repeat ((fail_if_success with_reducible refine rg ?_); go_step))
     refine wp_region_pw ?_
     refine pw_mv (by rfl) rfl rfl ?_
     refine pw_mv (by rfl) rfl rfl ?_
     simp only [Act.put, pu]
     refine pw_value (by rfl) (.bool true) (exec_lt_b _ _ _ _ rfl k i rfl rfl true (decide_eq_true (by omega))) ?_
     simp only [Act.put, pu]
     refine pw_nil ?_
     obtain h1 | ⟨rfl, rS, hst⟩ := hsn.at'
     ·exact absurd h1 (by omega)
     have hsi := hst i hlt
     have hsk := hst k hkn
     clear hst
     have orS := rS
     cases hd : dfI (uo La) i bi k with
     | false =>
      have hnx : dfI (uo La) i bi (k + 1) = false := by
       show (dfI (uo La) i bi k && _) = false
       rw [hd]; rfl
      (repeat ((fail_if_success with_reducible refine rg ?_); go_step))
      refine wp_region_ewb (by kernel_rfl) [] [(0, false), (1, false), (2, false), (3, false), (4, false), (5, false), (6, false), (7, false), (8, false), (9, false), (10, false), (11, false), (12, false)] ?_ (by kernel_rfl)
      have cb := below_self sb
      have osb := sb
      have ohf := hf
      have ohs := hs
      have oht := ht
      have ohsn := hsn
      refine ew_mv (by rfl) rfl rfl ?_
      refine ew_mv (by rfl) rfl rfl ?_
      simp only [Act.put, pu]
      refine ew_skip (by rfl) ?_
      simp only [Act.put, pu]
      refine ew_skip (by rfl) ?_
      simp only [Act.put, pu]
      refine ew_skip (by rfl) ?_
      simp only [Act.put, pu]
      refine ew_skip (by rfl) ?_
      simp only [Act.put, pu]
      refine ew_skip (by rfl) ?_
      simp only [Act.put, pu]
      refine ew_skip (by rfl) ?_
      simp only [Act.put, pu]
      refine ew_skip (by rfl) ?_
      simp only [Act.put, pu]
      refine ew_skip (by rfl) ?_
      simp only [Act.put, pu]
      refine ew_skip (by rfl) ?_
      simp only [Act.put, pu]
      refine ew_pick (by rfl) false (v := .bool false) rfl rfl rfl ?_
      refine ew_as (by rfl) rfl rfl ?_
      simp only [Act.put, pu]
      refine ew_nil ?_
      intro wz hqb
      replace hf := hf.below hqb
      replace hs := hs.below hqb
      replace ht := ht.below hqb
      replace hsn := hsn.below hqb
      replace sb := below_on sb (Nat.le_refl _) hqb
      clear hqb cb osb ohf ohs oht ohsn
      clear rS orS
      (repeat ((fail_if_success with_reducible refine rg ?_); go_step))
      refine wp_region_pw ?_
      refine pw_mv (by rfl) rfl rfl ?_
      simp only [Act.put, pu]
      refine pw_value (by rfl) (.int .i64 ((k + 1 : Nat) : Int)) (exec_add_in _ _ _ _ rfl k 1 rfl rfl (by omega)) ?_
      refine pw_as (by rfl) rfl rfl ?_
      simp only [Act.put, pu]
      refine pw_nil ?_
      go_wp2
      go_roundg y
      case measure => omega
      case rel => exact ⟨k + 1, by omega, by rw [hnx], rfl, hf, hs, ht, hsn, sb⟩
     | true =>
      obtain ⟨bb, hbb⟩ : ∃ bb, (!decide ((uo La) i = (uo La) k)) = bb := ⟨_, rfl⟩
      have hbb2 : (!decide ((((uo La) i : Nat) : Int) = (((uo La) k : Nat) : Int))) = bb := by
       rw [← hbb]
       congr 1
       exact decide_eq_decide.2 ⟨fun e => by exact_mod_cast e, fun e => by exact_mod_cast e⟩
      have hnx : dfI (uo La) i bi (k + 1) = bb := by
       show (dfI (uo La) i bi k && !decide ((uo La) i = (uo La) k)) = bb
       rw [hd, hbb]; rfl
      clear hbb
      (repeat ((fail_if_success with_reducible refine rg ?_); go_step))
      refine wp_region_ewb (by kernel_rfl) [] [(0, false), (1, false), (2, false), (3, false), (4, false), (5, false), (6, false), (7, false), (8, false), (9, false), (10, false), (11, false), (12, false)] ?_ (by kernel_rfl)
      have cb := below_self sb
      have osb := sb
      have ohf := hf
      have ohs := hs
      have oht := ht
      have ohsn := hsn
      refine ew_mv (by rfl) rfl rfl ?_
      refine ew_mv (by rfl) rfl rfl ?_
      refine ew_mv (by rfl) rfl rfl ?_
      refine ew_mv (by rfl) rfl rfl ?_
      simp only [Act.put, pu]
      refine ew_value (by rfl) (.pointer (some ⟨gs, os + i * 1, none⟩)) ((exec_index_s 31 _ _ rfl gs os (n) (cs) rfl (i) rfl (hlt) _ Tryz.underlying31 1 Tryz.sizeOf3)) ?_
      simp only [Act.put, pu]
      refine ew_loadk (by rfl) 3 _ rfl _ (os + i * 1) rfl (fun _ hb => (orS.belowAll hb)) (.int .i64 ((uo La) i : Nat)) hsi Tryz.isAgg3 ?_
      refine ew_mv (by rfl) rfl rfl ?_
      refine ew_mv (by rfl) rfl rfl ?_
      simp only [Act.put, pu]
      refine ew_value (by rfl) (.pointer (some ⟨gs, os + k * 1, none⟩)) ((exec_index_s 31 _ _ rfl gs os (n) (cs) rfl (k) rfl (hkn) _ Tryz.underlying31 1 Tryz.sizeOf3)) ?_
      simp only [Act.put, pu]
      refine ew_loadk (by rfl) 3 _ rfl _ (os + k * 1) rfl (fun _ hb => (orS.belowAll hb)) (.int .i64 ((uo La) k : Nat)) hsk Tryz.isAgg3 ?_
      simp only [Act.put, pu]
      refine ew_value (by rfl) (.bool bb) (exec_neq_k .i64 _ _ _ _ rfl ((uo La) i : Nat) ((uo La) k : Nat) rfl rfl bb hbb2) ?_
      simp only [Act.put, pu]
      refine ew_pick (by rfl) true (v := .bool bb) rfl rfl rfl ?_
      refine ew_as (by rfl) rfl rfl ?_
      simp only [Act.put, pu]
      refine ew_nil ?_
      intro wz hqb
      replace hf := hf.below hqb
      replace hs := hs.below hqb
      replace ht := ht.below hqb
      replace hsn := hsn.below hqb
      replace sb := below_on sb (Nat.le_refl _) hqb
      clear hqb cb osb ohf ohs oht ohsn
      clear rS orS
      (repeat ((fail_if_success with_reducible refine rg ?_); go_step))
      refine wp_region_pw ?_
      refine pw_mv (by rfl) rfl rfl ?_
      simp only [Act.put, pu]
      refine pw_value (by rfl) (.int .i64 ((k + 1 : Nat) : Int)) (exec_add_in _ _ _ _ rfl k 1 rfl rfl (by omega)) ?_
      refine pw_as (by rfl) rfl rfl ?_
      simp only [Act.put, pu]
      refine pw_nil ?_
      go_wp2
      go_roundg y
      case measure => omega
      case rel => exact ⟨k + 1, by omega, by rw [hnx], rfl, hf, hs, ht, hsn, sb⟩
theorem walk (a0 : Int) (ab : Option Addr) (n c : Nat) (F : Nat → Nat) (gb ob : Nat) (bcs : Array Value) (tb : TypeId) (ae : Option Addr) (m ce : Nat) (E : Nat → Nat) (ge oe : Nat) (ecs : Array Value) (te : TypeId) (w : World) (_ : -9223372036854775808 ≤ a0 ∧ a0 ≤ 9223372036854775807) (hna : NatsAt w ab n F gb ob bcs tb) (hnb : NatsAt w ae m E ge oe ecs te) :
  Calls Tryz.prog 5 #[.int .i64 a0, .slice ab n c, .slice ae m ce] w fun e w' => e = .returned (.bool true) ∧ Below w.heap.size w w' := by
 by_cases h : 8 < n ∨ 8 < m
 ·exact core0 a0 n c m ce ab ae w h
 have q := (sm_fd a0).1
 have hq := (sm_fd a0).2
 haveI : NeZero (smQ a0) := ⟨by have := q.pos; omega⟩
 have hs := sml_any a0
 generalize smP a0 = PP at *
 generalize smG a0 = GG at *
 generalize smQ a0 = QQ at *
 have hal := fun w' (hb : Below w.heap.size w w') => rallL (Q := QQ) ab n c F gb ob bcs tb w' (by omega) q hq (hna.below hb)
 have hbl := fun w' (hb : Below w.heap.size w w') => rallL (Q := QQ) ae m ce E ge oe ecs te w' (by omega) q hq (hnb.below hb)
 by_cases hnm : n = m
 ·have hb0 : decide ((n : Int) = (m : Int)) = true := decide_eq_true (by omega)
  have hu : ∀ i j, i < n → j < n → (uo (fl n F : List (Fin QQ)) i = uo (fl n F : List (Fin QQ)) j ↔ (fi (F i) : Fin QQ) = fi (F j)) := fun i j hi hj => by
   unfold uo
   rw [fl_co _ _ _ hi, fl_co _ _ _ hj]
   exact ⟨fun e => Fin.ext e, fun e => by rw [e]⟩
  subst hnm
  have hth := fun g gr gf w' (hb : Below w.heap.size w w') (hg : GrpAt w' g gr gf PP QQ GG) => thr_any g gr gf PP QQ GG n c ce ab ae F E gb ob ge oe bcs ecs tb te w' q (by omega) (hna.below hb) (hnb.below hb) hg
  cases hBB : dfO (uo (fl n F : List (Fin QQ))) true n with
  | false =>
   refine core1 a0 PP QQ GG n c n ce ab ae (fl n F : List (Fin QQ)) (fl n E) w (by omega) (by omega) (fl_length _ _) (fl_length _ _) q hq hal hbl true hb0 hBB hs fun g gr gf w' hb hg => ?_
   refine (hth g gr gf w' hb hg).mono ?_
   rintro e w2 ⟨vf, z, rfl, h1 | ⟨rfl, rfl, _⟩, hb2⟩
   ·obtain ⟨_, h2, _⟩ := h1
    have : dfO (uo (fl n F : List (Fin QQ))) true n = true := (dfO_is _ _ _).2 ⟨rfl, fun i j hi hj e => h2 i hi ((tGo_zero q.pr (fun i => (fi (F i) : Fin QQ)) i).2 ⟨j, hj, ((hu i j hi (by omega)).1 e).symm⟩)⟩
    rw [hBB] at this
    cases this
   ·exact ⟨rfl, hb2⟩
  | true =>
   obtain ⟨_, hd⟩ := (dfO_is _ _ _).1 hBB
   have hdd : ∀ i j, i < n → j < n → i ≠ j → (fi (F i) : Fin QQ) ≠ fi (F j) := fun i j hi hj hne e => by
    rcases Nat.lt_or_gt_of_ne hne with h1 | h1
    ·exact hd j i hj h1 ((hu j i hj hi).2 e.symm)
    ·exact hd i j hi h1 ((hu i j hi hj).2 e)
   refine core2 a0 PP QQ GG n c n ce ab ae (fl n F : List (Fin QQ)) (fl n E) w (by omega) (by omega) (fl_length _ _) (fl_length _ _) q hq hal hbl rfl true hb0 hBB hs fun g gr gf w' hb hg => ?_
   refine (hth g gr gf w' hb hg).mono ?_
   rintro e w2 ⟨vf, z, rfl, h1 | ⟨_, _, k, hk, h1⟩, hb2⟩
   ·obtain ⟨rfl, _, h3⟩ := h1
    rw [tTh_is q.pr ivF (ivF_is q) _ _ n hdd, pthr_congr ivF (fun i => (fi (F i) : Fin QQ)) (pco (fl n F : List (Fin QQ))) (fun i => (fi (E i) : Fin QQ)) (pco (fl n E : List (Fin QQ))) n (fun j hj => (fl_co n F j hj).symm) (fun j hj => (fl_co n E j hj).symm) n (Nat.le_refl n)] at h3
    exact ⟨vf, rfl, h3, hb2⟩
   ·obtain ⟨j, hj, e⟩ := (tGo_zero q.pr (fun i => (fi (F i) : Fin QQ)) k).1 h1
    exact absurd e (hdd j k (by omega) hk (by omega))
 ·have hb0 : decide ((n : Int) = (m : Int)) = false := decide_eq_false (by omega)
  have hBB : dfO (uo (fl n F : List (Fin QQ))) false n = false := by
   cases hB : dfO (uo (fl n F : List (Fin QQ))) false n with
   | false => rfl
   | true => exact absurd ((dfO_is _ _ _).1 hB).1 (by decide)
  exact core1 a0 PP QQ GG n c m ce ab ae (fl n F : List (Fin QQ)) (fl m E : List (Fin QQ)) w (by omega) (by omega) (fl_length _ _) (fl_length _ _) q hq hal hbl false hb0 hBB hs fun g gr gf w' hb hg => thr_len g gr gf PP QQ GG ab ae n c m ce w' hnm hg
set_option maxRecDepth 100000 in
theorem lifted (os : Os) (started : os.Started) (H : Type) (enc : TypeId × Value → H) :
  ReturnsInHanded {} Tryz.checked os 5 .any (Rows.polyThroughSpec.pre6 enc Tryz.prog Tryz.f5 Rows.polyThroughRow.domain false) (Rows.polyThroughSpec.post enc Tryz.prog Tryz.f5 false true false false) := by
 refine returnsInHanded_of_change (C := Tryz.checked) own started (by kernel_rfl) Tryz.func5
  (ChangeSpec.witness6 (enc := enc) (C := Tryz.checked) false ⟨#[], #[.int .i64 0, .slice none 0 0, .slice none 0 0], []⟩ 8 (by kernel_rfl) (by kernel_rfl) (by kernel_rfl) (by kernel_rfl)) ?_
 intro W base args ds gs before hval0 hW hcnd _
 have hval : ∀ (j : Nat) t v, Tryz.f5.params[j]? = some t → args[j]? = some v → Value.okWide Tryz.prog W .any base t v := hval0
 have hW' := hW
 obtain ⟨p, q, hA0, hV, rfl, hfz, hnd⟩ := hW
 have hA : DataW.TrodAll enc Tryz.prog W 0 (fun _ => true) true Tryz.f5.params.toList args.toList ds p := hA0
 rw [Tryz.params5] at hA hval
 obtain ⟨v0, vs0, d0, ds0, p0, q0, hargs, rfl, rfl, h0, r0⟩ := trodAll_cons hA
 obtain ⟨v1, vs1, d1, ds1, p1, q1, rfl, rfl, rfl, h1, r1⟩ := trodAll_cons r0
 obtain ⟨v2, vs2, d2, ds2, p2, q2, rfl, rfl, rfl, h2, r2⟩ := trodAll_cons r1
 obtain ⟨rfl, rfl, rfl⟩ := trodAll_nil r2
 obtain rfl : args = #[v0, v1, v2] := by cases args; simp_all
 obtain ⟨rfl, rfl⟩ := trodVars_none hV
 have k0 := h0
 have lt0 := lt_of_trod h0
 obtain ⟨a0, rfl, rfl, rfl, w0⟩ := open_int Tryz.underlying3 (hval 0 3 v0 rfl rfl) h0
 have k1 := h1
 have lt1 := lt_of_trod h1
 obtain ⟨ab1, n1, c1, F1, gb1, ob1, bcs1, tb1, rfl, _, _, hn1⟩ := open_nats (hval 1 22 v1 rfl rfl) h1
 have k2 := h2
 have lt2 := lt_of_trod h2
 obtain ⟨ab2, n2, c2, F2, gb2, ob2, bcs2, tb2, rfl, _, _, hn2⟩ := open_nats (hval 2 22 v2 rfl rfl) h2
 clear hA0 hval0
 refine (walk a0 ab1 n1 c1 F1 gb1 ob1 bcs1 tb1 ab2 n2 c2 F2 gb2 ob2 bcs2 tb2 W (bounds_i64 w0) hn1 hn2).mono fun e W' ⟨he, bel⟩ => ?_
 subst he
 exact ⟨_, rfl, _, _, _, [], _, [], hW', trodAll_mk1 (shut_bool Tryz.underlying4 _), (trodAll_cons_mk (Below.trod laidOut (by kernel_rfl) (of_decide_eq_true (by kernel_rfl)) k0 bel lt0) (trodAll_cons_mk (Below.trod laidOut (by kernel_rfl) (of_decide_eq_true (by kernel_rfl)) k1 bel lt1) (trodAll_cons_mk (Below.trod laidOut (by kernel_rfl) (of_decide_eq_true (by kernel_rfl)) k2 bel lt2) trodAll_mk0))), rfl, bel.frame _, fun h => by cases h⟩
theorem over : Rows.polyThroughRow.holds Tryz.pinned (OpenSpec.ofChange Rows.polyThroughSpec) :=
 OpenClaim.holds_of_wide 5 Tryz.f5 rfl rfl rfl rfl rfl rfl rfl ⟨rfl, rfl, rfl, rfl, rfl⟩ rfl rfl rfl rfl rfl (by kernel_rfl) Tryz.func5 (by kernel_rfl)
  (of_decide_eq_true (by kernel_rfl)) (by unfold Func.isWrapper; first | (rw [if_pos (by decide +kernel)]; kernel_rfl) | (rw [if_neg (by decide +kernel)]; exact ⟨rfl, rfl⟩))
  (fun os started H enc _ => lifted os started H enc)
end polyThroughP
/-- for every number and two lists of naturals: in a small group, of lists up to 8, the polynomial that is the second numbers at the first places is the document's, or an error, where they are not as many or a place is twice; no condition. -/
theorem polyThrough_holds : Rows.PolyThroughSaid := polyThroughP.over
end Go.Proofs.YthnpeebnmommbaaGreat
