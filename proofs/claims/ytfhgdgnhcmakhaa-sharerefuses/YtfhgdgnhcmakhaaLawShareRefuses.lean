/- ShareRefuses: for every list of ints and list of naturals, of up to 10 and 8: weights of places that may not be there are not, and of others they are; without a group nothing is told, and nothing fails; no condition. -/
import Derived.Test.YtfhgdgnhcmakhaaSrAwake
import Derived.Test.YtfhgdgnhcmakhaaSB
import Derived.Test.YtfhgdgnhcmakhaaGU
namespace Go.Proofs.Ytfhgdgnhcmakhaa
open Go.ChangeShapes Go.WideShapes Go.ChangeAt Go.RowKit
namespace shareRefusesP
set_option linter.unusedVariables false
set_option linter.unusedSectionVars false
theorem sl_grp : Try.prog.underlying 56 = some (.slice (Try.prog.elem 56)) := by kernel_rfl
theorem info_pgx : (Try.prog.info? 24).map (fun i => (i.zero, i.size)) = some (some (.pointer none), 1) := by kernel_rfl
theorem info_pg : ∃ i, Try.prog.info? 24 = some i ∧ i.zero = some (.pointer none) ∧ i.size = 1 := by
 cases hi : Try.prog.info? 24 with
 | none => have := info_pgx; rw [hi] at this; cases this
 | some i =>
  have h := info_pgx
  rw [hi] at h
  simp only [Option.map_some, Option.some.injEq, Prod.mk.injEq] at h
  exact ⟨i, rfl, h.1, h.2⟩
theorem lit_pg (v : Option Addr) (k : Nat) (hk : k = 1) : Instr.fill (fun i => some (i * k, k)) ((Array.range (2 * k)).map ((Value.pointer none).cells[· % (Value.pointer none).cells.size]!)) [(0, .pointer none), (1, .pointer v)] = some #[.pointer none, .pointer v] := by
 subst hk
 kernel_rfl
/-- The one of the two. -/
def vOf (g : Nat) (i : Nat) : Option Addr := if i = 0 then none else some ⟨g, 0, none⟩
theorem v_at (g i : Nat) (hi : i < 2) : (#[.pointer none, .pointer (some ⟨g, 0, none⟩)] : Array Value)[0 + i * 1]? = some (.pointer (vOf g i)) := by
 match i, hi with
 | 0, _ => rfl
 | 1, _ => rfl
theorem v_no {w : World} {g : Nat} (i : Nat) (h : Row w g (gpC 0 0 0 none none) 55) : NoG w (vOf g i) := by
 unfold vOf
 split
 ·exact .inl ⟨rfl, rfl, rfl, rfl, rfl, rfl⟩
 ·exact .inr ⟨g, rfl, h⟩
theorem sl_ll : Try.prog.underlying 48 = some (.slice (Try.prog.elem 48)) := by kernel_rfl
theorem bool_ty : Try.prog.underlying 4 = some .bool := by kernel_rfl
theorem cells_z1 : Try.prog.cellsOf 3 = 1 := by kernel_rfl
set_option maxRecDepth 100000 in
theorem open_zs {H : Type} {enc : TypeId × Value → H} {W : World} {base : Nat} {v0 : Value} {d0 : DataW H} {p0 : List MemPlace}
  (hv : Value.okWide Try.prog W .any base 45 v0) (h0 : DataW.Trod enc Try.prog W 0 (fun _ => true) true 45 v0 d0 p0) :
  ∃ ab n c Z gb ob bcs tb, v0 = .slice ab n c ∧ n ≤ c ∧ c ≤ maxLen ∧ ZsAt W ab n Z gb ob bcs tb := by
 obtain ⟨ab, n, c, rfl, hnc, hcm, hrow⟩ := open_row (k := 1) (by decide) Try.underlying45 cells_z1 hv h0
 rcases hrow with rfl | ⟨gb, ob, bcs, tb, rfl, hR, hel⟩
 ·exact ⟨_, _, _, fun _ => 0, 0, 0, #[], 0, rfl, hnc, hcm, ⟨.inl rfl⟩⟩
 ·have hs : ∀ i, i < n → ∃ z : Int, bcs[ob + i * 1]? = some (.int .i64 z) := by
   intro i hi
   obtain ⟨l, m, x, hl, hc, hd⟩ := hel i hi
   obtain ⟨z, rfl, _, hw⟩ := DataW.trod_int Try.underlying3 hd
   refine ⟨z, ?_⟩
   have := hc 0 _ rfl
   rw [Nat.add_zero] at this
   exact this
  obtain ⟨e, he⟩ := Deep.choose_lt hs
  exact ⟨_, _, _, e, gb, ob, bcs, tb, rfl, hnc, hcm, ⟨.inr ⟨rfl, hR, he⟩⟩⟩
/-- What the law says of places: is the i-th none of the first k; may the first i be there. -/
def mI (Z : Nat → Int) (i : Nat) (b : Bool) : Nat → Bool
 | 0 => b
 | k + 1 => mI Z i b k && !decide (Z k = Z i)
def mO (Z : Nat → Int) (b : Bool) : Nat → Bool
 | 0 => b
 | i + 1 => mI Z i ((mO Z b i && decide (0 ≤ Z i)) && decide (Z i ≤ 7)) i
theorem mI_is (Z : Nat → Int) (i : Nat) (b : Bool) : ∀ k, mI Z i b k = true ↔ b = true ∧ ∀ j, j < k → Z j ≠ Z i
 | 0 => ⟨fun h => ⟨h, fun j hj => absurd hj (by omega)⟩, fun h => h.1⟩
 | k + 1 => by
  show (mI Z i b k && !decide (Z k = Z i)) = true ↔ _
  rw [Bool.and_eq_true, mI_is Z i b k]
  constructor
  ·rintro ⟨⟨h1, h2⟩, h3⟩
   refine ⟨h1, fun j hj => ?_⟩
   by_cases e : j = k
   ·rw [e]; simpa using h3
   ·exact h2 j (by omega)
  ·rintro ⟨h1, h2⟩
   exact ⟨⟨h1, fun j hj => h2 j (by omega)⟩, by simpa using h2 k (by omega)⟩
theorem mO_is (Z : Nat → Int) (b : Bool) : ∀ n, mO Z b n = true ↔ b = true ∧ apB 0 Z n = true
 | 0 => ⟨fun h => ⟨h, rfl⟩, fun h => h.1⟩
 | n + 1 => by
  show mI Z n _ n = true ↔ _
  rw [mI_is, Bool.and_eq_true, Bool.and_eq_true, mO_is Z b n, apB_iff, apB_iff, decide_eq_true_iff, decide_eq_true_iff]
  constructor
  ·rintro ⟨⟨⟨⟨h1, h2, h3⟩, h4⟩, h5⟩, h6⟩
   refine ⟨h1, fun k hk => ?_, fun j k hj hk => ?_⟩
   ·by_cases e : k = n
    ·subst e; exact ⟨h4, h5⟩
    ·exact h2 k (by omega)
   ·by_cases e : k = n
    ·subst e; exact h6 j hj
    ·exact h3 j k hj (by omega)
  ·rintro ⟨h1, h2, h3⟩
   exact ⟨⟨⟨⟨h1, fun k hk => h2 k (by omega), fun j k hj hk => h3 j k hj (by omega)⟩, (h2 n (by omega)).1⟩, (h2 n (by omega)).2⟩, fun j hj => h3 j n hj (by omega)⟩
theorem mO_ap (Z : Nat → Int) (n : Nat) : mO Z (decide (n ≤ 8)) n = apB 0 Z n := by
 rw [Bool.eq_iff_iff, mO_is, decide_eq_true_iff]
 exact ⟨fun h => h.2, fun h => ⟨apB_8 h, h⟩⟩
theorem lit_shi (k : Nat) (hk : k = 5) : Instr.fill (fun i => some (i * k, k)) ((Array.range (1 * k)).map ((Value.agg #[.int .i64 0, .int .u64 0, .int .u64 0, .int .u64 0, .int .u64 0]).cells[· % (Value.agg #[.int .i64 0, .int .u64 0, .int .u64 0, .int .u64 0, .int .u64 0]).cells.size]!)) [(0, .agg (shC 1 0))] = some (shC 1 0) := by
 subst hk
 kernel_rfl
set_option maxRecDepth 100000 in
set_option maxHeartbeats 2000000 in
theorem core0 (n c m ce : Nat) (ab ae : Option Addr) (w : World) (h : 10 < n ∨ 8 < m) :
  Calls Try.prog 4 #[.slice ab n c, .slice ae m ce] w fun e w' => e = .returned (.bool true) ∧ Below w.heap.size w w' := by
 have haw := awake13_any
 go_enter Try.func4, Try.ntmps4
 have sb := sbmk w
 (repeat ((fail_if_success with_reducible refine rg ?_); go_step))
 refine wp_region_pw ?_
 refine pw_value (by rfl) (.bool false) (fun _ => rfl) ?_
 simp only [Act.put, pu]
 refine pw_nil ?_
 by_cases h1 : 10 < n
 ·(repeat ((fail_if_success with_reducible refine rg ?_); go_step))
  refine wp_region_pw ?_
  refine pw_mv (by rfl) rfl rfl ?_
  simp only [Act.put, pu]
  refine pw_value (by rfl) (.int .i64 n) (exec_len_s 45 _ rfl (ab) (n) (c) rfl sl_zs) ?_
  simp only [Act.put, pu]
  refine pw_value (by rfl) (.bool true) (exec_gt_i _ _ _ _ rfl n 10 rfl rfl true (decide_eq_true (by omega))) ?_
  refine pw_mv (by rfl) rfl rfl ?_
  simp only [Act.put, pu]
  refine pw_skip (by rfl) ?_
  simp only [Act.put, pu]
  refine pw_skip (by rfl) ?_
  simp only [Act.put, pu]
  refine pw_skip (by rfl) ?_
  simp only [Act.put, pu]
  refine pw_pick (by rfl) true (v := .bool true) rfl rfl rfl ?_
  simp only [Act.put, pu]
  refine pw_nil ?_
  (repeat ((fail_if_success with_reducible refine rg ?_); go_step))
  refine wp_region_pw ?_
  refine pw_callB (by rfl) 5 _ _ rfl Try.func5 (by kernel_rfl) #[] rfl _ (haw _) ?_
  intro z2000 k
  simp only [Act.put, pu]
  replace sb := sb.trans (k.below w.heap.size sb.size (by simp <;> omega))
  clear k
  refine pw_as (by rfl) rfl rfl ?_
  simp only [Act.put, pu]
  refine pw_nil ?_
  go_wp2
  go_ret
  exact ⟨rfl, sb⟩
 ·(repeat ((fail_if_success with_reducible refine rg ?_); go_step))
  refine wp_region_pw ?_
  refine pw_mv (by rfl) rfl rfl ?_
  simp only [Act.put, pu]
  refine pw_value (by rfl) (.int .i64 n) (exec_len_s 45 _ rfl (ab) (n) (c) rfl sl_zs) ?_
  simp only [Act.put, pu]
  refine pw_value (by rfl) (.bool false) (exec_gt_i _ _ _ _ rfl n 10 rfl rfl false (decide_eq_false (by omega))) ?_
  refine pw_mv (by rfl) rfl rfl ?_
  refine pw_mv (by rfl) rfl rfl ?_
  simp only [Act.put, pu]
  refine pw_value (by rfl) (.int .i64 m) (exec_len_s 22 _ rfl (ae) (m) (ce) rfl sl_natsX) ?_
  simp only [Act.put, pu]
  refine pw_value (by rfl) (.bool true) (exec_gt_i _ _ _ _ rfl m 8 rfl rfl true (decide_eq_true (by omega))) ?_
  simp only [Act.put, pu]
  refine pw_pick (by rfl) false (v := .bool true) rfl rfl rfl ?_
  simp only [Act.put, pu]
  refine pw_nil ?_
  (repeat ((fail_if_success with_reducible refine rg ?_); go_step))
  refine wp_region_pw ?_
  refine pw_callB (by rfl) 5 _ _ rfl Try.func5 (by kernel_rfl) #[] rfl _ (haw _) ?_
  intro z2000 k
  simp only [Act.put, pu]
  replace sb := sb.trans (k.below w.heap.size sb.size (by simp <;> omega))
  clear k
  refine pw_as (by rfl) rfl rfl ?_
  simp only [Act.put, pu]
  refine pw_nil ?_
  go_wp2
  go_ret
  exact ⟨rfl, sb⟩
set_option maxRecDepth 100000 in
set_option maxHeartbeats 2000000 in
theorem core1 (n c m ce : Nat) (ab ae : Option Addr) (Z : Nat → Int) (gb ob : Nat) (bcs : Array Value) (tb : TypeId) (w : World) (hn : n ≤ 10) (hm : m ≤ 8) (hzs : ZsAt w ab n Z gb ob bcs tb) (PP QQ GG : Nat)
  (hsm : ∀ w', Calls Try.prog 13 #[.int .i64 1] w' fun e w2 => ∃ g gr gf, e = .returned (.tuple #[.pointer (some ⟨g, 0, none⟩), .int .i64 (QQ : Nat), .bool true]) ∧ GrpAt w2 g gr gf PP QQ GG ∧ Below w'.heap.size w' w2)
  (hw1 : apB 0 Z n = true → ∀ w' g gr gf, Below w.heap.size w w' → GrpAt w' g gr gf PP QQ GG → Calls Try.prog 14 #[.pointer (some ⟨g, 0, none⟩), .slice ab n c] w' fun e w2 => ∃ gW, e = .returned (.tuple #[.slice (some ⟨gW, 0, none⟩) n n, .int .i64 0]) ∧ Below w'.heap.size w' w2)
  (hw0 : apB 0 Z n = false → ∀ w' g gr gf, Below w.heap.size w w' → GrpAt w' g gr gf PP QQ GG → Calls Try.prog 14 #[.pointer (some ⟨g, 0, none⟩), .slice ab n c] w' fun e w2 => e = .returned (.tuple #[.slice none 0 0, .int .i64 1]) ∧ Below w'.heap.size w' w2) :
  Calls Try.prog 4 #[.slice ab n c, .slice ae m ce] w fun e w' => e = .returned (.bool true) ∧ Below w.heap.size w w' := by
 have haw := awake13_any
 obtain ⟨ip, hip, hzp, hsz0⟩ := info_pg
 have hp1 : ¬ 2 * ip.size > 2 ^ 24 := by rw [hsz0]; decide
 have hp2 : ¬ 2 * ip.size = 0 := by rw [hsz0]; decide
 have hl := fun v => lit_pg v ip.size hsz0
 obtain ⟨ie, hie, hz, hsz, hby⟩ := info_shb
 have hs1 : ¬ 1 * ie.size > 2 ^ 24 := by rw [hsz]; decide
 have hs2 : ¬ 1 * ie.size = 0 := by rw [hsz]; decide
 have hls := lit_shi ie.size hsz
 clear hsz0 hsz hby
 go_enter Try.func4, Try.ntmps4
 have sb := sbmk w
 (repeat ((fail_if_success with_reducible refine rg ?_); go_step))
 refine wp_region_pw ?_
 refine pw_value (by rfl) (.bool false) (fun _ => rfl) ?_
 simp only [Act.put, pu]
 refine pw_nil ?_
 (repeat ((fail_if_success with_reducible refine rg ?_); go_step))
 refine wp_region_pw ?_
 refine pw_mv (by rfl) rfl rfl ?_
 simp only [Act.put, pu]
 refine pw_value (by rfl) (.int .i64 n) (exec_len_s 45 _ rfl (ab) (n) (c) rfl sl_zs) ?_
 simp only [Act.put, pu]
 refine pw_value (by rfl) (.bool false) (exec_gt_i _ _ _ _ rfl n 10 rfl rfl false (decide_eq_false (by omega))) ?_
 refine pw_mv (by rfl) rfl rfl ?_
 refine pw_mv (by rfl) rfl rfl ?_
 simp only [Act.put, pu]
 refine pw_value (by rfl) (.int .i64 m) (exec_len_s 22 _ rfl (ae) (m) (ce) rfl sl_natsX) ?_
 simp only [Act.put, pu]
 refine pw_value (by rfl) (.bool false) (exec_gt_i _ _ _ _ rfl m 8 rfl rfl false (decide_eq_false (by omega))) ?_
 simp only [Act.put, pu]
 refine pw_pick (by rfl) false (v := .bool false) rfl rfl rfl ?_
 simp only [Act.put, pu]
 refine pw_nil ?_
 have hb8 : decide ((n : Int) ≤ 8) = decide (n ≤ 8) := decide_eq_decide.2 ⟨fun h => by omega, fun h => by omega⟩
 (repeat ((fail_if_success with_reducible refine rg ?_); go_step))
 refine wp_region_pw ?_
 refine pw_mv (by rfl) rfl rfl ?_
 simp only [Act.put, pu]
 refine pw_value (by rfl) (.int .i64 n) (exec_len_s 45 _ rfl (ab) (n) (c) rfl sl_zs) ?_
 simp only [Act.put, pu]
 refine pw_value (by rfl) (.bool (decide (n ≤ 8))) (exec_leq_i _ _ _ _ rfl n 8 rfl rfl _ hb8) ?_
 refine pw_as (by rfl) rfl rfl ?_
 simp only [Act.put, pu]
 refine pw_nil ?_
 clear hb8
 (repeat ((fail_if_success with_reducible refine rg ?_); go_step))
 refine wp_region_pw ?_
 refine pw_value (by rfl) (.int .i64 0) (fun _ => rfl) ?_
 simp only [Act.put, pu]
 refine pw_nil ?_
 go_wp2_with fail
 go_loopg [5, 6, 7] n (fun x s5 s6 s7 wr => ∃ i : Nat, i + x = n ∧ s5 = .bool (mO Z (decide (n ≤ 8)) i) ∧ s6 = .int .i64 i ∧ ZsAt wr ab n Z gb ob bcs tb ∧ Below w.heap.size w wr)
 case atStart => exact ⟨0, by omega, rfl, rfl, hzs, sb⟩
 case round =>
  clear hzs sb
  obtain ⟨i, hi, rfl, rfl, hzs, sb⟩ := hrel
  cases gk with
  | zero =>
   have hkn : n = i := by omega
   clear hi
   subst hkn
   rw [mO_ap]
   (repeat ((fail_if_success with_reducible refine rg ?_); go_step))
   refine wp_region_pw ?_
   refine pw_mv (by rfl) rfl rfl ?_
   refine pw_mv (by rfl) rfl rfl ?_
   simp only [Act.put, pu]
   refine pw_value (by rfl) (.int .i64 n) (exec_len_s 45 _ rfl (ab) (n) (c) rfl sl_zs) ?_
   simp only [Act.put, pu]
   refine pw_value (by rfl) (.bool false) (exec_lt_b _ _ _ _ rfl n n rfl rfl false (decide_eq_false (Int.lt_irrefl _))) ?_
   simp only [Act.put, pu]
   refine pw_nil ?_
   (repeat ((fail_if_success with_reducible refine rg ?_); go_step))
   refine wp_region_pw ?_
   refine pw_callE (by rfl) 13 _ _ rfl Try.func13 (by kernel_rfl) #[.int .i64 1] rfl (hsm _) ?_
   rintro _ z12000 ⟨g, gr, gf, rfl, hg, hb⟩
   refine ⟨_, rfl, ?_⟩
   simp only [Act.put, pu]
   have k := Kept.ofBelow hb
   clear hb
   replace sb := sb.trans (k.below w.heap.size sb.size (by simp <;> omega))
   clear k
   refine pw_mv (by rfl) rfl rfl ?_
   refine pw_ext (by rfl) rfl rfl rfl ?_
   refine pw_ext (by rfl) rfl rfl rfl ?_
   refine pw_ext (by rfl) rfl rfl rfl ?_
   refine pw_as (by rfl) rfl rfl ?_
   simp only [Act.put, pu]
   refine pw_as (by rfl) rfl rfl ?_
   refine pw_as (by rfl) rfl rfl ?_
   simp only [Act.put, pu]
   refine pw_nil ?_
   cases hA : apB 0 Z n with
   | true =>
    have hw := hw1 hA
    clear hw1 hw0 hsm hA
    (repeat ((fail_if_success with_reducible refine rg ?_); go_step))
    refine wp_region_pw ?_
    refine pw_mv (by rfl) rfl rfl ?_
    refine pw_mv (by rfl) rfl rfl ?_
    simp only [Act.put, pu]
    refine pw_callE (by rfl) 14 _ _ rfl Try.func14 (by kernel_rfl) #[.pointer (some ⟨g, 0, none⟩), .slice ab n c] rfl (hw _ g gr gf sb hg) ?_
    rintro _ z13002 ⟨gW, rfl, hb⟩
    refine ⟨_, rfl, ?_⟩
    simp only [Act.put, pu]
    have k := Kept.ofBelow hb
    clear hb
    replace hg := hg.below k.nil
    replace sb := sb.trans (k.below w.heap.size sb.size (by simp <;> omega))
    clear k
    refine pw_mv (by rfl) rfl rfl ?_
    refine pw_ext (by rfl) rfl rfl rfl ?_
    refine pw_ext (by rfl) rfl rfl rfl ?_
    refine pw_as (by rfl) rfl rfl ?_
    refine pw_as (by rfl) rfl rfl ?_
    simp only [Act.put, pu]
    refine pw_nil ?_
    clear hw hg
    (repeat ((fail_if_success with_reducible refine rg ?_); go_step))
    refine wp_region_pw ?_
    refine pw_mv (by rfl) rfl rfl ?_
    simp only [Act.put, pu]
    refine pw_value (by rfl) (.bool false) (exec_not _ _ rfl true rfl) ?_
    refine pw_mv (by rfl) rfl rfl ?_
    refine pw_mv (by rfl) rfl rfl ?_
    simp only [Act.put, pu]
    refine pw_value (by rfl) (.bool true) (exec_eql_k .i64 _ _ _ _ rfl 0 0 rfl rfl true rfl) ?_
    refine pw_mv (by rfl) rfl rfl ?_
    simp only [Act.put, pu]
    refine pw_value (by rfl) (.bool false) (y_neB _ _ _ _ rfl true true rfl rfl bool_ty false rfl) ?_
    simp only [Act.put, pu]
    refine pw_pick (by rfl) false (v := .bool false) rfl rfl rfl ?_
    refine pw_mv (by rfl) rfl rfl ?_
    refine pw_mv (by rfl) rfl rfl ?_
    simp only [Act.put, pu]
    refine pw_value (by rfl) (.bool false) (exec_neq_k .i64 _ _ _ _ rfl 0 0 rfl rfl false rfl) ?_
    refine pw_mv (by rfl) rfl rfl ?_
    simp only [Act.put, pu]
    refine pw_skip (by rfl) ?_
    simp only [Act.put, pu]
    refine pw_skip (by rfl) ?_
    simp only [Act.put, pu]
    refine pw_skip (by rfl) ?_
    simp only [Act.put, pu]
    refine pw_skip (by rfl) ?_
    simp only [Act.put, pu]
    refine pw_skip (by rfl) ?_
    simp only [Act.put, pu]
    refine pw_skip (by rfl) ?_
    simp only [Act.put, pu]
    refine pw_skip (by rfl) ?_
    simp only [Act.put, pu]
    refine pw_pick (by rfl) false (v := .bool false) rfl rfl rfl ?_
    simp only [Act.put, pu]
    refine pw_pick (by rfl) false (v := .bool false) rfl rfl rfl ?_
    simp only [Act.put, pu]
    refine pw_nil ?_
    (repeat ((fail_if_success with_reducible refine rg ?_); go_step))
    refine wp_region_pw ?_
    refine pw_value (by rfl) (.agg (gpC 0 0 0 none none)) (exec_build0 _ rfl _ built_gp0) ?_
    simp only [Act.put, pu]
    refine pw_boxr (by rfl) 55 _ rfl (_) rfl ?_
    intro g104 z16001 n0 r104 k
    simp only [Act.put, pu]
    have b104 := Nat.le_trans sb.size n0
    clear n0
    replace sb := sb.trans (k.below w.heap.size sb.size (by simp <;> omega))
    clear k
    refine pw_litr (by rfl) 56 24 2 _ rfl #[.pointer none, .pointer (some ⟨g104, 0, none⟩)] ip _ Try.underlying56 hip hzp hp1 hp2 [(0, .pointer none), (1, .pointer (some ⟨g104, 0, none⟩))] rfl (hl _) ?_
    intro gT z16002 n0 rT k
    simp only [Act.put, pu]
    have d104xT := Nat.lt_of_lt_of_le r104.lt n0
    have bT := Nat.le_trans sb.size n0
    clear n0
    replace r104 := k.row r104 (by simp <;> omega)
    replace sb := sb.trans (k.below w.heap.size sb.size (by simp <;> omega))
    clear k
    refine pw_as (by rfl) rfl rfl ?_
    simp only [Act.put, pu]
    refine pw_nil ?_
    clear hl hp1 hp2 hzp hip
    (repeat ((fail_if_success with_reducible refine rg ?_); go_step))
    refine wp_region_pw ?_
    refine pw_value (by rfl) (.int .i64 0) (fun _ => rfl) ?_
    simp only [Act.put, pu]
    refine pw_nil ?_
    go_wp2_with fail
    go_loopg [14] 2 (fun y s14 wr => ∃ i : Nat, i + y = 2 ∧ s14 = .int .i64 i ∧ Row wr g104 (gpC 0 0 0 none none) 55 ∧ Row wr gT #[.pointer none, .pointer (some ⟨g104, 0, none⟩)] 24 ∧ Below w.heap.size w wr)
    case atStart => exact ⟨0, by omega, rfl, r104, rT, sb⟩
    case round =>
     clear r104 rT sb
     obtain ⟨i, hi, rfl, r104, rT, sb⟩ := hrel
     cases gk with
     | zero =>
      obtain rfl : i = 2 := by omega
      clear hi
      (repeat ((fail_if_success with_reducible refine rg ?_); go_step))
      refine wp_region_pw ?_
      refine pw_mv (by rfl) rfl rfl ?_
      refine pw_mv (by rfl) rfl rfl ?_
      simp only [Act.put, pu]
      refine pw_value (by rfl) (.int .i64 2) (exec_len_s 56 _ rfl (some ⟨gT, 0, none⟩) 2 2 rfl sl_grp) ?_
      simp only [Act.put, pu]
      refine pw_value (by rfl) (.bool false) (exec_lt_b _ _ _ _ rfl ((2 : Nat) : Int) 2 rfl rfl false rfl) ?_
      simp only [Act.put, pu]
      refine pw_nil ?_
      (repeat ((fail_if_success with_reducible refine rg ?_); go_step))
      refine wp_region_pw ?_
      refine pw_callB (by rfl) 5 _ _ rfl Try.func5 (by kernel_rfl) #[] rfl _ (haw _) ?_
      intro z25000 k
      simp only [Act.put, pu]
      replace sb := sb.trans (k.below w.heap.size sb.size (by simp <;> omega))
      clear k
      refine pw_as (by rfl) rfl rfl ?_
      simp only [Act.put, pu]
      refine pw_nil ?_
      go_wp2
      go_ret
      exact ⟨rfl, sb⟩
     | succ y =>
      clear haw
      have hv := v_at g104 i (by omega)
      (repeat ((fail_if_success with_reducible refine rg ?_); go_step))
      refine wp_region_pw ?_
      refine pw_mv (by rfl) rfl rfl ?_
      refine pw_mv (by rfl) rfl rfl ?_
      simp only [Act.put, pu]
      refine pw_value (by rfl) (.int .i64 2) (exec_len_s 56 _ rfl (some ⟨gT, 0, none⟩) 2 2 rfl sl_grp) ?_
      simp only [Act.put, pu]
      refine pw_value (by rfl) (.bool true) (exec_lt_b _ _ _ _ rfl i 2 rfl rfl true (decide_eq_true (by omega))) ?_
      simp only [Act.put, pu]
      refine pw_nil ?_
      (repeat ((fail_if_success with_reducible refine rg ?_); go_step))
      refine wp_region_pw ?_
      refine pw_mv (by rfl) rfl rfl ?_
      refine pw_mv (by rfl) rfl rfl ?_
      simp only [Act.put, pu]
      refine pw_value (by rfl) (.pointer (some ⟨gT, 0 + i * 1, none⟩)) (exec_index_s 56 _ _ rfl gT 0 2 2 rfl i rfl (by omega) _ Try.underlying56 1 Try.sizeOf24) ?_
      simp only [Act.put, pu]
      refine pw_loadk (by rfl) 24 _ rfl _ (0 + i * 1) rfl rT.r (.pointer (vOf g104 i)) hv Try.isAgg24 ?_
      refine pw_mv (by rfl) rfl rfl ?_
      simp only [Act.put, pu]
      refine pw_callB (by rfl) 10 _ _ rfl Try.func10 (by kernel_rfl) #[.pointer (vOf g104 i), .slice ae m ce, .int .i64 3] rfl _ (deal_nog (vOf g104 i) _ _ (v_no i r104)) ?_
      intro z20005 k
      simp only [Act.put, pu]
      replace r104 := k.row r104 (by simp <;> omega)
      replace rT := k.row rT (by simp <;> omega)
      replace sb := sb.trans (k.below w.heap.size sb.size (by simp <;> omega))
      clear k
      refine pw_mv (by rfl) rfl rfl ?_
      refine pw_ext (by rfl) rfl rfl rfl ?_
      refine pw_ext (by rfl) rfl rfl rfl ?_
      refine pw_as (by rfl) rfl rfl ?_
      refine pw_as (by rfl) rfl rfl ?_
      simp only [Act.put, pu]
      refine pw_nil ?_
      (repeat ((fail_if_success with_reducible refine rg ?_); go_step))
      refine wp_region_pw ?_
      refine pw_mv (by rfl) rfl rfl ?_
      refine pw_mv (by rfl) rfl rfl ?_
      simp only [Act.put, pu]
      refine pw_value (by rfl) (.pointer (some ⟨gT, 0 + i * 1, none⟩)) (exec_index_s 56 _ _ rfl gT 0 2 2 rfl i rfl (by omega) _ Try.underlying56 1 Try.sizeOf24) ?_
      simp only [Act.put, pu]
      refine pw_loadk (by rfl) 24 _ rfl _ (0 + i * 1) rfl rT.r (.pointer (vOf g104 i)) hv Try.isAgg24 ?_
      simp only [Act.put, pu]
      refine pw_value (by rfl) (.agg (shC 1 0)) (exec_buildv _ [(0, .const (.int .i64 1))] rfl [(0, .int .i64 1)] rfl (shC 1 0) (built_shi _)) ?_
      simp only [Act.put, pu]
      refine pw_litr (by rfl) 36 40 1 _ rfl (shC 1 0) ie _ Try.underlying36 hie hz hs1 hs2 [(0, .agg (shC 1 0))] rfl hls ?_
      intro gA z21005 n0 rA k
      simp only [Act.put, pu]
      have d104xA := Nat.lt_of_lt_of_le r104.lt n0
      have dTxA := Nat.lt_of_lt_of_le rT.lt n0
      have bA := Nat.le_trans sb.size n0
      clear n0
      replace r104 := k.row r104 (by simp <;> omega)
      replace rT := k.row rT (by simp <;> omega)
      replace sb := sb.trans (k.below w.heap.size sb.size (by simp <;> omega))
      clear k
      refine pw_callB (by rfl) 11 _ _ rfl Try.func11 (by kernel_rfl) #[.pointer (vOf g104 i), .int .i64 0, .slice (some ⟨gA, 0, none⟩) 1 1] rfl _ (rec_nog (vOf g104 i) _ _ _ _ (v_no i r104)) ?_
      intro z21006 k
      simp only [Act.put, pu]
      replace r104 := k.row r104 (by simp <;> omega)
      replace rT := k.row rT (by simp <;> omega)
      replace rA := k.row rA (by simp <;> omega)
      replace sb := sb.trans (k.below w.heap.size sb.size (by simp <;> omega))
      clear k
      refine pw_mv (by rfl) rfl rfl ?_
      refine pw_ext (by rfl) rfl rfl rfl ?_
      refine pw_ext (by rfl) rfl rfl rfl ?_
      refine pw_as (by rfl) rfl rfl ?_
      refine pw_as (by rfl) rfl rfl ?_
      simp only [Act.put, pu]
      refine pw_nil ?_
      clear rA
      (repeat ((fail_if_success with_reducible refine rg ?_); go_step))
      refine wp_region_pw ?_
      refine pw_mv (by rfl) rfl rfl ?_
      refine pw_mv (by rfl) rfl rfl ?_
      simp only [Act.put, pu]
      refine pw_value (by rfl) (.pointer (some ⟨gT, 0 + i * 1, none⟩)) (exec_index_s 56 _ _ rfl gT 0 2 2 rfl i rfl (by omega) _ Try.underlying56 1 Try.sizeOf24) ?_
      simp only [Act.put, pu]
      refine pw_loadk (by rfl) 24 _ rfl _ (0 + i * 1) rfl rT.r (.pointer (vOf g104 i)) hv Try.isAgg24 ?_
      simp only [Act.put, pu]
      refine pw_callB (by rfl) 14 _ _ rfl Try.func14 (by kernel_rfl) #[.pointer (vOf g104 i), .slice none 0 0] rfl _ (wts_nog (vOf g104 i) _ _ _ (v_no i r104)) ?_
      intro z22004 k
      simp only [Act.put, pu]
      replace r104 := k.row r104 (by simp <;> omega)
      replace rT := k.row rT (by simp <;> omega)
      replace sb := sb.trans (k.below w.heap.size sb.size (by simp <;> omega))
      clear k
      refine pw_mv (by rfl) rfl rfl ?_
      refine pw_ext (by rfl) rfl rfl rfl ?_
      refine pw_ext (by rfl) rfl rfl rfl ?_
      refine pw_as (by rfl) rfl rfl ?_
      refine pw_as (by rfl) rfl rfl ?_
      simp only [Act.put, pu]
      refine pw_nil ?_
      (repeat ((fail_if_success with_reducible refine rg ?_); go_step))
      refine wp_region_pw ?_
      refine pw_mv (by rfl) rfl rfl ?_
      simp only [Act.put, pu]
      refine pw_value (by rfl) (.int .i64 0) (exec_len_s 36 _ rfl none 0 0 rfl sl_shs) ?_
      simp only [Act.put, pu]
      refine pw_value (by rfl) (.bool false) (exec_gt_i _ _ _ _ rfl 0 0 rfl rfl false (decide_eq_false (by decide))) ?_
      refine pw_mv (by rfl) rfl rfl ?_
      refine pw_mv (by rfl) rfl rfl ?_
      simp only [Act.put, pu]
      refine pw_value (by rfl) (.bool false) (exec_neq_k .i64 _ _ _ _ rfl 1 1 rfl rfl false rfl) ?_
      simp only [Act.put, pu]
      refine pw_pick (by rfl) false (v := .bool false) rfl rfl rfl ?_
      refine pw_mv (by rfl) rfl rfl ?_
      refine pw_mv (by rfl) rfl rfl ?_
      simp only [Act.put, pu]
      refine pw_value (by rfl) (.int .i64 0) (exec_len_s 22 _ rfl none 0 0 rfl sl_natsX) ?_
      simp only [Act.put, pu]
      refine pw_value (by rfl) (.bool false) (exec_gt_i _ _ _ _ rfl 0 0 rfl rfl false (decide_eq_false (by decide))) ?_
      simp only [Act.put, pu]
      refine pw_pick (by rfl) false (v := .bool false) rfl rfl rfl ?_
      refine pw_mv (by rfl) rfl rfl ?_
      refine pw_mv (by rfl) rfl rfl ?_
      simp only [Act.put, pu]
      refine pw_value (by rfl) (.bool false) (exec_neq_k .i64 _ _ _ _ rfl 1 1 rfl rfl false rfl) ?_
      simp only [Act.put, pu]
      refine pw_pick (by rfl) false (v := .bool false) rfl rfl rfl ?_
      refine pw_mv (by rfl) rfl rfl ?_
      refine pw_mv (by rfl) rfl rfl ?_
      simp only [Act.put, pu]
      refine pw_value (by rfl) (.int .i64 0) (exec_len_s 48 _ rfl none 0 0 rfl sl_ll) ?_
      simp only [Act.put, pu]
      refine pw_value (by rfl) (.bool false) (exec_gt_i _ _ _ _ rfl 0 0 rfl rfl false (decide_eq_false (by decide))) ?_
      simp only [Act.put, pu]
      refine pw_pick (by rfl) false (v := .bool false) rfl rfl rfl ?_
      refine pw_mv (by rfl) rfl rfl ?_
      refine pw_mv (by rfl) rfl rfl ?_
      simp only [Act.put, pu]
      refine pw_value (by rfl) (.bool false) (exec_neq_k .i64 _ _ _ _ rfl 1 1 rfl rfl false rfl) ?_
      simp only [Act.put, pu]
      refine pw_pick (by rfl) false (v := .bool false) rfl rfl rfl ?_
      simp only [Act.put, pu]
      refine pw_nil ?_
      (repeat ((fail_if_success with_reducible refine rg ?_); go_step))
      refine wp_region_pw ?_
      refine pw_mv (by rfl) rfl rfl ?_
      simp only [Act.put, pu]
      refine pw_value (by rfl) (.int .i64 ((i + 1 : Nat) : Int)) (exec_add_in _ _ _ _ rfl i 1 rfl rfl (by omega)) ?_
      refine pw_as (by rfl) rfl rfl ?_
      simp only [Act.put, pu]
      refine pw_nil ?_
      go_wp2
      go_roundg y
      case measure => omega
      case rel => exact ⟨i + 1, by omega, rfl, r104, rT, sb⟩
   | false =>
    have hw := hw0 hA
    clear hw1 hw0 hsm hA
    (repeat ((fail_if_success with_reducible refine rg ?_); go_step))
    refine wp_region_pw ?_
    refine pw_mv (by rfl) rfl rfl ?_
    refine pw_mv (by rfl) rfl rfl ?_
    simp only [Act.put, pu]
    refine pw_callB (by rfl) 14 _ _ rfl Try.func14 (by kernel_rfl) #[.pointer (some ⟨g, 0, none⟩), .slice ab n c] rfl _ (hw _ g gr gf sb hg) ?_
    intro z13002 k
    simp only [Act.put, pu]
    replace hg := hg.below k.nil
    replace sb := sb.trans (k.below w.heap.size sb.size (by simp <;> omega))
    clear k
    refine pw_mv (by rfl) rfl rfl ?_
    refine pw_ext (by rfl) rfl rfl rfl ?_
    refine pw_ext (by rfl) rfl rfl rfl ?_
    refine pw_as (by rfl) rfl rfl ?_
    refine pw_as (by rfl) rfl rfl ?_
    simp only [Act.put, pu]
    refine pw_nil ?_
    clear hw hg
    (repeat ((fail_if_success with_reducible refine rg ?_); go_step))
    refine wp_region_pw ?_
    refine pw_mv (by rfl) rfl rfl ?_
    simp only [Act.put, pu]
    refine pw_value (by rfl) (.bool false) (exec_not _ _ rfl true rfl) ?_
    refine pw_mv (by rfl) rfl rfl ?_
    refine pw_mv (by rfl) rfl rfl ?_
    simp only [Act.put, pu]
    refine pw_value (by rfl) (.bool false) (exec_eql_k .i64 _ _ _ _ rfl 1 0 rfl rfl false rfl) ?_
    refine pw_mv (by rfl) rfl rfl ?_
    simp only [Act.put, pu]
    refine pw_value (by rfl) (.bool false) (y_neB _ _ _ _ rfl false false rfl rfl bool_ty false rfl) ?_
    simp only [Act.put, pu]
    refine pw_pick (by rfl) false (v := .bool false) rfl rfl rfl ?_
    refine pw_mv (by rfl) rfl rfl ?_
    refine pw_mv (by rfl) rfl rfl ?_
    simp only [Act.put, pu]
    refine pw_value (by rfl) (.bool true) (exec_neq_k .i64 _ _ _ _ rfl 1 0 rfl rfl true rfl) ?_
    refine pw_mv (by rfl) rfl rfl ?_
    refine pw_mv (by rfl) rfl rfl ?_
    simp only [Act.put, pu]
    refine pw_value (by rfl) (.bool false) (exec_neq_k .i64 _ _ _ _ rfl 1 1 rfl rfl false rfl) ?_
    refine pw_mv (by rfl) rfl rfl ?_
    refine pw_mv (by rfl) rfl rfl ?_
    simp only [Act.put, pu]
    refine pw_value (by rfl) (.int .i64 0) (exec_len_s 48 _ rfl none 0 0 rfl sl_ll) ?_
    simp only [Act.put, pu]
    refine pw_value (by rfl) (.bool false) (exec_gt_i _ _ _ _ rfl 0 0 rfl rfl false (decide_eq_false (by decide))) ?_
    simp only [Act.put, pu]
    refine pw_pick (by rfl) false (v := .bool false) rfl rfl rfl ?_
    simp only [Act.put, pu]
    refine pw_pick (by rfl) true (v := .bool false) rfl rfl rfl ?_
    simp only [Act.put, pu]
    refine pw_pick (by rfl) false (v := .bool false) rfl rfl rfl ?_
    simp only [Act.put, pu]
    refine pw_nil ?_
    (repeat ((fail_if_success with_reducible refine rg ?_); go_step))
    refine wp_region_pw ?_
    refine pw_value (by rfl) (.agg (gpC 0 0 0 none none)) (exec_build0 _ rfl _ built_gp0) ?_
    simp only [Act.put, pu]
    refine pw_boxr (by rfl) 55 _ rfl (_) rfl ?_
    intro g104 z16001 n0 r104 k
    simp only [Act.put, pu]
    have b104 := Nat.le_trans sb.size n0
    clear n0
    replace sb := sb.trans (k.below w.heap.size sb.size (by simp <;> omega))
    clear k
    refine pw_litr (by rfl) 56 24 2 _ rfl #[.pointer none, .pointer (some ⟨g104, 0, none⟩)] ip _ Try.underlying56 hip hzp hp1 hp2 [(0, .pointer none), (1, .pointer (some ⟨g104, 0, none⟩))] rfl (hl _) ?_
    intro gT z16002 n0 rT k
    simp only [Act.put, pu]
    have d104xT := Nat.lt_of_lt_of_le r104.lt n0
    have bT := Nat.le_trans sb.size n0
    clear n0
    replace r104 := k.row r104 (by simp <;> omega)
    replace sb := sb.trans (k.below w.heap.size sb.size (by simp <;> omega))
    clear k
    refine pw_as (by rfl) rfl rfl ?_
    simp only [Act.put, pu]
    refine pw_nil ?_
    clear hl hp1 hp2 hzp hip
    (repeat ((fail_if_success with_reducible refine rg ?_); go_step))
    refine wp_region_pw ?_
    refine pw_value (by rfl) (.int .i64 0) (fun _ => rfl) ?_
    simp only [Act.put, pu]
    refine pw_nil ?_
    go_wp2_with fail
    go_loopg [14] 2 (fun y s14 wr => ∃ i : Nat, i + y = 2 ∧ s14 = .int .i64 i ∧ Row wr g104 (gpC 0 0 0 none none) 55 ∧ Row wr gT #[.pointer none, .pointer (some ⟨g104, 0, none⟩)] 24 ∧ Below w.heap.size w wr)
    case atStart => exact ⟨0, by omega, rfl, r104, rT, sb⟩
    case round =>
     clear r104 rT sb
     obtain ⟨i, hi, rfl, r104, rT, sb⟩ := hrel
     cases gk with
     | zero =>
      obtain rfl : i = 2 := by omega
      clear hi
      (repeat ((fail_if_success with_reducible refine rg ?_); go_step))
      refine wp_region_pw ?_
      refine pw_mv (by rfl) rfl rfl ?_
      refine pw_mv (by rfl) rfl rfl ?_
      simp only [Act.put, pu]
      refine pw_value (by rfl) (.int .i64 2) (exec_len_s 56 _ rfl (some ⟨gT, 0, none⟩) 2 2 rfl sl_grp) ?_
      simp only [Act.put, pu]
      refine pw_value (by rfl) (.bool false) (exec_lt_b _ _ _ _ rfl ((2 : Nat) : Int) 2 rfl rfl false rfl) ?_
      simp only [Act.put, pu]
      refine pw_nil ?_
      (repeat ((fail_if_success with_reducible refine rg ?_); go_step))
      refine wp_region_pw ?_
      refine pw_callB (by rfl) 5 _ _ rfl Try.func5 (by kernel_rfl) #[] rfl _ (haw _) ?_
      intro z25000 k
      simp only [Act.put, pu]
      replace sb := sb.trans (k.below w.heap.size sb.size (by simp <;> omega))
      clear k
      refine pw_as (by rfl) rfl rfl ?_
      simp only [Act.put, pu]
      refine pw_nil ?_
      go_wp2
      go_ret
      exact ⟨rfl, sb⟩
     | succ y =>
      clear haw
      have hv := v_at g104 i (by omega)
      (repeat ((fail_if_success with_reducible refine rg ?_); go_step))
      refine wp_region_pw ?_
      refine pw_mv (by rfl) rfl rfl ?_
      refine pw_mv (by rfl) rfl rfl ?_
      simp only [Act.put, pu]
      refine pw_value (by rfl) (.int .i64 2) (exec_len_s 56 _ rfl (some ⟨gT, 0, none⟩) 2 2 rfl sl_grp) ?_
      simp only [Act.put, pu]
      refine pw_value (by rfl) (.bool true) (exec_lt_b _ _ _ _ rfl i 2 rfl rfl true (decide_eq_true (by omega))) ?_
      simp only [Act.put, pu]
      refine pw_nil ?_
      (repeat ((fail_if_success with_reducible refine rg ?_); go_step))
      refine wp_region_pw ?_
      refine pw_mv (by rfl) rfl rfl ?_
      refine pw_mv (by rfl) rfl rfl ?_
      simp only [Act.put, pu]
      refine pw_value (by rfl) (.pointer (some ⟨gT, 0 + i * 1, none⟩)) (exec_index_s 56 _ _ rfl gT 0 2 2 rfl i rfl (by omega) _ Try.underlying56 1 Try.sizeOf24) ?_
      simp only [Act.put, pu]
      refine pw_loadk (by rfl) 24 _ rfl _ (0 + i * 1) rfl rT.r (.pointer (vOf g104 i)) hv Try.isAgg24 ?_
      refine pw_mv (by rfl) rfl rfl ?_
      simp only [Act.put, pu]
      refine pw_callB (by rfl) 10 _ _ rfl Try.func10 (by kernel_rfl) #[.pointer (vOf g104 i), .slice ae m ce, .int .i64 3] rfl _ (deal_nog (vOf g104 i) _ _ (v_no i r104)) ?_
      intro z20005 k
      simp only [Act.put, pu]
      replace r104 := k.row r104 (by simp <;> omega)
      replace rT := k.row rT (by simp <;> omega)
      replace sb := sb.trans (k.below w.heap.size sb.size (by simp <;> omega))
      clear k
      refine pw_mv (by rfl) rfl rfl ?_
      refine pw_ext (by rfl) rfl rfl rfl ?_
      refine pw_ext (by rfl) rfl rfl rfl ?_
      refine pw_as (by rfl) rfl rfl ?_
      refine pw_as (by rfl) rfl rfl ?_
      simp only [Act.put, pu]
      refine pw_nil ?_
      (repeat ((fail_if_success with_reducible refine rg ?_); go_step))
      refine wp_region_pw ?_
      refine pw_mv (by rfl) rfl rfl ?_
      refine pw_mv (by rfl) rfl rfl ?_
      simp only [Act.put, pu]
      refine pw_value (by rfl) (.pointer (some ⟨gT, 0 + i * 1, none⟩)) (exec_index_s 56 _ _ rfl gT 0 2 2 rfl i rfl (by omega) _ Try.underlying56 1 Try.sizeOf24) ?_
      simp only [Act.put, pu]
      refine pw_loadk (by rfl) 24 _ rfl _ (0 + i * 1) rfl rT.r (.pointer (vOf g104 i)) hv Try.isAgg24 ?_
      simp only [Act.put, pu]
      refine pw_value (by rfl) (.agg (shC 1 0)) (exec_buildv _ [(0, .const (.int .i64 1))] rfl [(0, .int .i64 1)] rfl (shC 1 0) (built_shi _)) ?_
      simp only [Act.put, pu]
      refine pw_litr (by rfl) 36 40 1 _ rfl (shC 1 0) ie _ Try.underlying36 hie hz hs1 hs2 [(0, .agg (shC 1 0))] rfl hls ?_
      intro gA z21005 n0 rA k
      simp only [Act.put, pu]
      have d104xA := Nat.lt_of_lt_of_le r104.lt n0
      have dTxA := Nat.lt_of_lt_of_le rT.lt n0
      have bA := Nat.le_trans sb.size n0
      clear n0
      replace r104 := k.row r104 (by simp <;> omega)
      replace rT := k.row rT (by simp <;> omega)
      replace sb := sb.trans (k.below w.heap.size sb.size (by simp <;> omega))
      clear k
      refine pw_callB (by rfl) 11 _ _ rfl Try.func11 (by kernel_rfl) #[.pointer (vOf g104 i), .int .i64 0, .slice (some ⟨gA, 0, none⟩) 1 1] rfl _ (rec_nog (vOf g104 i) _ _ _ _ (v_no i r104)) ?_
      intro z21006 k
      simp only [Act.put, pu]
      replace r104 := k.row r104 (by simp <;> omega)
      replace rT := k.row rT (by simp <;> omega)
      replace rA := k.row rA (by simp <;> omega)
      replace sb := sb.trans (k.below w.heap.size sb.size (by simp <;> omega))
      clear k
      refine pw_mv (by rfl) rfl rfl ?_
      refine pw_ext (by rfl) rfl rfl rfl ?_
      refine pw_ext (by rfl) rfl rfl rfl ?_
      refine pw_as (by rfl) rfl rfl ?_
      refine pw_as (by rfl) rfl rfl ?_
      simp only [Act.put, pu]
      refine pw_nil ?_
      clear rA
      (repeat ((fail_if_success with_reducible refine rg ?_); go_step))
      refine wp_region_pw ?_
      refine pw_mv (by rfl) rfl rfl ?_
      refine pw_mv (by rfl) rfl rfl ?_
      simp only [Act.put, pu]
      refine pw_value (by rfl) (.pointer (some ⟨gT, 0 + i * 1, none⟩)) (exec_index_s 56 _ _ rfl gT 0 2 2 rfl i rfl (by omega) _ Try.underlying56 1 Try.sizeOf24) ?_
      simp only [Act.put, pu]
      refine pw_loadk (by rfl) 24 _ rfl _ (0 + i * 1) rfl rT.r (.pointer (vOf g104 i)) hv Try.isAgg24 ?_
      simp only [Act.put, pu]
      refine pw_callB (by rfl) 14 _ _ rfl Try.func14 (by kernel_rfl) #[.pointer (vOf g104 i), .slice none 0 0] rfl _ (wts_nog (vOf g104 i) _ _ _ (v_no i r104)) ?_
      intro z22004 k
      simp only [Act.put, pu]
      replace r104 := k.row r104 (by simp <;> omega)
      replace rT := k.row rT (by simp <;> omega)
      replace sb := sb.trans (k.below w.heap.size sb.size (by simp <;> omega))
      clear k
      refine pw_mv (by rfl) rfl rfl ?_
      refine pw_ext (by rfl) rfl rfl rfl ?_
      refine pw_ext (by rfl) rfl rfl rfl ?_
      refine pw_as (by rfl) rfl rfl ?_
      refine pw_as (by rfl) rfl rfl ?_
      simp only [Act.put, pu]
      refine pw_nil ?_
      (repeat ((fail_if_success with_reducible refine rg ?_); go_step))
      refine wp_region_pw ?_
      refine pw_mv (by rfl) rfl rfl ?_
      simp only [Act.put, pu]
      refine pw_value (by rfl) (.int .i64 0) (exec_len_s 36 _ rfl none 0 0 rfl sl_shs) ?_
      simp only [Act.put, pu]
      refine pw_value (by rfl) (.bool false) (exec_gt_i _ _ _ _ rfl 0 0 rfl rfl false (decide_eq_false (by decide))) ?_
      refine pw_mv (by rfl) rfl rfl ?_
      refine pw_mv (by rfl) rfl rfl ?_
      simp only [Act.put, pu]
      refine pw_value (by rfl) (.bool false) (exec_neq_k .i64 _ _ _ _ rfl 1 1 rfl rfl false rfl) ?_
      simp only [Act.put, pu]
      refine pw_pick (by rfl) false (v := .bool false) rfl rfl rfl ?_
      refine pw_mv (by rfl) rfl rfl ?_
      refine pw_mv (by rfl) rfl rfl ?_
      simp only [Act.put, pu]
      refine pw_value (by rfl) (.int .i64 0) (exec_len_s 22 _ rfl none 0 0 rfl sl_natsX) ?_
      simp only [Act.put, pu]
      refine pw_value (by rfl) (.bool false) (exec_gt_i _ _ _ _ rfl 0 0 rfl rfl false (decide_eq_false (by decide))) ?_
      simp only [Act.put, pu]
      refine pw_pick (by rfl) false (v := .bool false) rfl rfl rfl ?_
      refine pw_mv (by rfl) rfl rfl ?_
      refine pw_mv (by rfl) rfl rfl ?_
      simp only [Act.put, pu]
      refine pw_value (by rfl) (.bool false) (exec_neq_k .i64 _ _ _ _ rfl 1 1 rfl rfl false rfl) ?_
      simp only [Act.put, pu]
      refine pw_pick (by rfl) false (v := .bool false) rfl rfl rfl ?_
      refine pw_mv (by rfl) rfl rfl ?_
      refine pw_mv (by rfl) rfl rfl ?_
      simp only [Act.put, pu]
      refine pw_value (by rfl) (.int .i64 0) (exec_len_s 48 _ rfl none 0 0 rfl sl_ll) ?_
      simp only [Act.put, pu]
      refine pw_value (by rfl) (.bool false) (exec_gt_i _ _ _ _ rfl 0 0 rfl rfl false (decide_eq_false (by decide))) ?_
      simp only [Act.put, pu]
      refine pw_pick (by rfl) false (v := .bool false) rfl rfl rfl ?_
      refine pw_mv (by rfl) rfl rfl ?_
      refine pw_mv (by rfl) rfl rfl ?_
      simp only [Act.put, pu]
      refine pw_value (by rfl) (.bool false) (exec_neq_k .i64 _ _ _ _ rfl 1 1 rfl rfl false rfl) ?_
      simp only [Act.put, pu]
      refine pw_pick (by rfl) false (v := .bool false) rfl rfl rfl ?_
      simp only [Act.put, pu]
      refine pw_nil ?_
      (repeat ((fail_if_success with_reducible refine rg ?_); go_step))
      refine wp_region_pw ?_
      refine pw_mv (by rfl) rfl rfl ?_
      simp only [Act.put, pu]
      refine pw_value (by rfl) (.int .i64 ((i + 1 : Nat) : Int)) (exec_add_in _ _ _ _ rfl i 1 rfl rfl (by omega)) ?_
      refine pw_as (by rfl) rfl rfl ?_
      simp only [Act.put, pu]
      refine pw_nil ?_
      go_wp2
      go_roundg y
      case measure => omega
      case rel => exact ⟨i + 1, by omega, rfl, r104, rT, sb⟩
  | succ x =>
   have hlt : i < n := by omega
   clear haw hsm hw1 hw0 hl hls
   (repeat ((fail_if_success with_reducible refine rg ?_); go_step))
   refine wp_region_pw ?_
   refine pw_mv (by rfl) rfl rfl ?_
   refine pw_mv (by rfl) rfl rfl ?_
   simp only [Act.put, pu]
   refine pw_value (by rfl) (.int .i64 n) (exec_len_s 45 _ rfl (ab) (n) (c) rfl sl_zs) ?_
   simp only [Act.put, pu]
   refine pw_value (by rfl) (.bool true) (exec_lt_b _ _ _ _ rfl i n rfl rfl true (decide_eq_true (by omega))) ?_
   simp only [Act.put, pu]
   refine pw_nil ?_
   obtain h1 | ⟨rfl, rS, hst⟩ := hzs.at'
   ·exact absurd h1 (by omega)
   have hsi0 := hst i hlt
   rw [Nat.mul_one] at hsi0
   clear hst
   cases hm0 : mO Z (decide (n ≤ 8)) i with
   | false =>
    have hbi : ((mO Z (decide (n ≤ 8)) i && decide (0 ≤ Z i)) && decide (Z i ≤ 7)) = false := by rw [hm0, Bool.false_and, Bool.false_and]
    have HBI : Hid (mI Z i ((mO Z (decide (n ≤ 8)) i && decide (0 ≤ Z i)) && decide (Z i ≤ 7)) = mI Z i false) := by show _ = _; rw [hbi]
    clear hbi
    (repeat ((fail_if_success with_reducible refine rg ?_); go_step))
    refine wp_region_pw ?_
    refine pw_mv (by rfl) rfl rfl ?_
    refine pw_mv (by rfl) rfl rfl ?_
    simp only [Act.put, pu]
    refine pw_skip (by rfl) ?_
    simp only [Act.put, pu]
    refine pw_skip (by rfl) ?_
    simp only [Act.put, pu]
    refine pw_skip (by rfl) ?_
    simp only [Act.put, pu]
    refine pw_skip (by rfl) ?_
    simp only [Act.put, pu]
    refine pw_skip (by rfl) ?_
    simp only [Act.put, pu]
    refine pw_pick (by rfl) false (v := .bool false) rfl rfl rfl ?_
    refine pw_mv (by rfl) rfl rfl ?_
    simp only [Act.put, pu]
    refine pw_skip (by rfl) ?_
    simp only [Act.put, pu]
    refine pw_skip (by rfl) ?_
    simp only [Act.put, pu]
    refine pw_skip (by rfl) ?_
    simp only [Act.put, pu]
    refine pw_skip (by rfl) ?_
    simp only [Act.put, pu]
    refine pw_skip (by rfl) ?_
    simp only [Act.put, pu]
    refine pw_pick (by rfl) false (v := .bool false) rfl rfl rfl ?_
    refine pw_as (by rfl) rfl rfl ?_
    simp only [Act.put, pu]
    refine pw_nil ?_
    clear rS
    (repeat ((fail_if_success with_reducible refine rg ?_); go_step))
    refine wp_region_pw ?_
    refine pw_value (by rfl) (.int .i64 0) (fun _ => rfl) ?_
    simp only [Act.put, pu]
    refine pw_nil ?_
    go_wp2_with fail
    go_loopg [5, 7] i (fun y s5 s7 wr => ∃ k : Nat, k + y = i ∧ s5 = .bool (mI Z i false k) ∧ s7 = .int .i64 k ∧ ZsAt wr (some ⟨gb, ob, none⟩) n Z gb ob bcs tb ∧ Below w.heap.size w wr)
    case atStart => exact ⟨0, by omega, rfl, rfl, hzs, sb⟩
    case round =>
     clear hzs sb
     obtain ⟨k, hk, rfl, rfl, hzs, sb⟩ := hrel
     cases gk with
     | zero =>
      obtain rfl : k = i := by omega
      clear hk
      have hnx : mI Z k false k = mO Z (decide (n ≤ 8)) (k + 1) := by rw [← HBI.out]; rfl
      (repeat ((fail_if_success with_reducible refine rg ?_); go_step))
      refine wp_region_pw ?_
      refine pw_mv (by rfl) rfl rfl ?_
      refine pw_mv (by rfl) rfl rfl ?_
      simp only [Act.put, pu]
      refine pw_value (by rfl) (.bool false) (exec_lt_b _ _ _ _ rfl k k rfl rfl false (decide_eq_false (Int.lt_irrefl _))) ?_
      simp only [Act.put, pu]
      refine pw_nil ?_
      (repeat ((fail_if_success with_reducible refine rg ?_); go_step))
      refine wp_region_pw ?_
      refine pw_mv (by rfl) rfl rfl ?_
      simp only [Act.put, pu]
      refine pw_value (by rfl) (.int .i64 ((k + 1 : Nat) : Int)) (exec_add_in _ _ _ _ rfl k 1 rfl rfl (by omega)) ?_
      refine pw_as (by rfl) rfl rfl ?_
      simp only [Act.put, pu]
      refine pw_nil ?_
      go_wp2
      go_roundg x
      case measure => omega
      case rel => exact ⟨k + 1, by omega, by rw [hnx], rfl, hzs, sb⟩
     | succ y =>
      have hltk : k < i := by omega
      have hkn : k < n := by omega
      (repeat ((fail_if_success with_reducible refine rg ?_); go_step))
      refine wp_region_pw ?_
      refine pw_mv (by rfl) rfl rfl ?_
      refine pw_mv (by rfl) rfl rfl ?_
      simp only [Act.put, pu]
      refine pw_value (by rfl) (.bool true) (exec_lt_b _ _ _ _ rfl k i rfl rfl true (decide_eq_true (by omega))) ?_
      simp only [Act.put, pu]
      refine pw_nil ?_
      obtain h1 | ⟨_, rS, hst⟩ := hzs.at'
      ·exact absurd h1 (by omega)
      have hsi := hst i hlt
      have hsk := hst k hkn
      clear hst
      have orS := rS
      cases hd : mI Z i false k with
      | false =>
       have hnx : mI Z i false (k + 1) = false := by
        show (mI Z i false k && _) = false
        rw [hd]; rfl
       (repeat ((fail_if_success with_reducible refine rg ?_); go_step))
       refine wp_region_ewb (by kernel_rfl) [] [(0, false), (1, false), (2, false), (3, false), (4, false), (5, false), (6, false), (7, false), (8, false), (9, false), (10, false), (11, false), (12, false)] ?_ (by kernel_rfl)
       have cb := below_self sb
       have osb := sb
       have ohzs := hzs
       refine ew_mv (by rfl) rfl rfl ?_
       refine ew_mv (by rfl) rfl rfl ?_
       simp only [Act.put, pu]
       refine ew_skip (by rfl) ?_
       simp only [Act.put, pu]
       refine ew_skip (by rfl) ?_
       simp only [Act.put, pu]
       refine ew_skip (by rfl) ?_
       simp only [Act.put, pu]
       refine ew_skip (by rfl) ?_
       simp only [Act.put, pu]
       refine ew_skip (by rfl) ?_
       simp only [Act.put, pu]
       refine ew_skip (by rfl) ?_
       simp only [Act.put, pu]
       refine ew_skip (by rfl) ?_
       simp only [Act.put, pu]
       refine ew_skip (by rfl) ?_
       simp only [Act.put, pu]
       refine ew_skip (by rfl) ?_
       simp only [Act.put, pu]
       refine ew_pick (by rfl) false (v := .bool false) rfl rfl rfl ?_
       refine ew_as (by rfl) rfl rfl ?_
       simp only [Act.put, pu]
       refine ew_nil ?_
       intro wz hqb
       replace hzs := hzs.below hqb
       replace sb := below_on sb (Nat.le_refl _) hqb
       clear hqb cb osb ohzs
       clear rS orS
       (repeat ((fail_if_success with_reducible refine rg ?_); go_step))
       refine wp_region_pw ?_
       refine pw_mv (by rfl) rfl rfl ?_
       simp only [Act.put, pu]
       refine pw_value (by rfl) (.int .i64 ((k + 1 : Nat) : Int)) (exec_add_in _ _ _ _ rfl k 1 rfl rfl (by omega)) ?_
       refine pw_as (by rfl) rfl rfl ?_
       simp only [Act.put, pu]
       refine pw_nil ?_
       go_wp2
       go_roundg y
       case measure => omega
       case rel => exact ⟨k + 1, by omega, by rw [hnx], rfl, hzs, sb⟩
      | true =>
       obtain ⟨bb, hbb⟩ : ∃ bb, (!decide (Z k = Z i)) = bb := ⟨_, rfl⟩
       have hnx : mI Z i false (k + 1) = bb := by
        show (mI Z i false k && !decide (Z k = Z i)) = bb
        rw [hd, hbb]; rfl
       (repeat ((fail_if_success with_reducible refine rg ?_); go_step))
       refine wp_region_ewb (by kernel_rfl) [] [(0, false), (1, false), (2, false), (3, false), (4, false), (5, false), (6, false), (7, false), (8, false), (9, false), (10, false), (11, false), (12, false)] ?_ (by kernel_rfl)
       have cb := below_self sb
       have osb := sb
       have ohzs := hzs
       refine ew_mv (by rfl) rfl rfl ?_
       refine ew_mv (by rfl) rfl rfl ?_
       refine ew_mv (by rfl) rfl rfl ?_
       refine ew_mv (by rfl) rfl rfl ?_
       simp only [Act.put, pu]
       refine ew_value (by rfl) (.pointer (some ⟨gb, ob + k * 1, none⟩)) ((exec_index_s 45 _ _ rfl gb ob (n) (c) rfl (k) rfl (hkn) _ Try.underlying45 1 Try.sizeOf3)) ?_
       simp only [Act.put, pu]
       refine ew_loadk (by rfl) 3 _ rfl _ (ob + k * 1) rfl (fun _ hb => (orS.belowAll hb)) (.int .i64 (Z k)) hsk Try.isAgg3 ?_
       refine ew_mv (by rfl) rfl rfl ?_
       refine ew_mv (by rfl) rfl rfl ?_
       simp only [Act.put, pu]
       refine ew_value (by rfl) (.pointer (some ⟨gb, ob + i * 1, none⟩)) ((exec_index_s 45 _ _ rfl gb ob (n) (c) rfl (i) rfl (hlt) _ Try.underlying45 1 Try.sizeOf3)) ?_
       simp only [Act.put, pu]
       refine ew_loadk (by rfl) 3 _ rfl _ (ob + i * 1) rfl (fun _ hb => (orS.belowAll hb)) (.int .i64 (Z i)) hsi Try.isAgg3 ?_
       simp only [Act.put, pu]
       refine ew_value (by rfl) (.bool bb) (exec_neq_k .i64 _ _ _ _ rfl (Z k) (Z i) rfl rfl bb hbb) ?_
       simp only [Act.put, pu]
       refine ew_pick (by rfl) true (v := .bool bb) rfl rfl rfl ?_
       refine ew_as (by rfl) rfl rfl ?_
       simp only [Act.put, pu]
       refine ew_nil ?_
       intro wz hqb
       replace hzs := hzs.below hqb
       replace sb := below_on sb (Nat.le_refl _) hqb
       clear hqb cb osb ohzs
       clear rS orS
       (repeat ((fail_if_success with_reducible refine rg ?_); go_step))
       refine wp_region_pw ?_
       refine pw_mv (by rfl) rfl rfl ?_
       simp only [Act.put, pu]
       refine pw_value (by rfl) (.int .i64 ((k + 1 : Nat) : Int)) (exec_add_in _ _ _ _ rfl k 1 rfl rfl (by omega)) ?_
       refine pw_as (by rfl) rfl rfl ?_
       simp only [Act.put, pu]
       refine pw_nil ?_
       go_wp2
       go_roundg y
       case measure => omega
       case rel => exact ⟨k + 1, by omega, by rw [hnx], rfl, hzs, sb⟩
   | true =>
    cases hg0 : decide (0 ≤ Z i) with
    | false =>
     have hbi : ((mO Z (decide (n ≤ 8)) i && decide (0 ≤ Z i)) && decide (Z i ≤ 7)) = false := by rw [hm0, hg0, Bool.and_false, Bool.false_and]
     have HBI : Hid (mI Z i ((mO Z (decide (n ≤ 8)) i && decide (0 ≤ Z i)) && decide (Z i ≤ 7)) = mI Z i false) := by show _ = _; rw [hbi]
     clear hbi
     (repeat ((fail_if_success with_reducible refine rg ?_); go_step))
     refine wp_region_pw ?_
     refine pw_mv (by rfl) rfl rfl ?_
     refine pw_mv (by rfl) rfl rfl ?_
     refine pw_mv (by rfl) rfl rfl ?_
     refine pw_mv (by rfl) rfl rfl ?_
     simp only [Act.put, pu]
     refine pw_value (by rfl) (.pointer (some ⟨gb, ob + i, none⟩)) ((fun w' => (exec_index_s 45 _ _ rfl gb ob n c rfl i rfl hlt _ Try.underlying45 1 Try.sizeOf3 w').trans (by rw [Nat.mul_one]))) ?_
     simp only [Act.put, pu]
     refine pw_loadk (by rfl) 3 _ rfl _ (ob + i) rfl rS (.int .i64 (Z i)) hsi0 Try.isAgg3 ?_
     simp only [Act.put, pu]
     refine pw_value (by rfl) (.bool false) (exec_geq_i _ _ _ _ rfl (Z i) 0 rfl rfl false hg0) ?_
     simp only [Act.put, pu]
     refine pw_pick (by rfl) true (v := .bool false) rfl rfl rfl ?_
     refine pw_mv (by rfl) rfl rfl ?_
     simp only [Act.put, pu]
     refine pw_skip (by rfl) ?_
     simp only [Act.put, pu]
     refine pw_skip (by rfl) ?_
     simp only [Act.put, pu]
     refine pw_skip (by rfl) ?_
     simp only [Act.put, pu]
     refine pw_skip (by rfl) ?_
     simp only [Act.put, pu]
     refine pw_skip (by rfl) ?_
     simp only [Act.put, pu]
     refine pw_pick (by rfl) false (v := .bool false) rfl rfl rfl ?_
     refine pw_as (by rfl) rfl rfl ?_
     simp only [Act.put, pu]
     refine pw_nil ?_
     clear rS
     (repeat ((fail_if_success with_reducible refine rg ?_); go_step))
     refine wp_region_pw ?_
     refine pw_value (by rfl) (.int .i64 0) (fun _ => rfl) ?_
     simp only [Act.put, pu]
     refine pw_nil ?_
     go_wp2_with fail
     go_loopg [5, 7] i (fun y s5 s7 wr => ∃ k : Nat, k + y = i ∧ s5 = .bool (mI Z i false k) ∧ s7 = .int .i64 k ∧ ZsAt wr (some ⟨gb, ob, none⟩) n Z gb ob bcs tb ∧ Below w.heap.size w wr)
     case atStart => exact ⟨0, by omega, rfl, rfl, hzs, sb⟩
     case round =>
      clear hzs sb
      obtain ⟨k, hk, rfl, rfl, hzs, sb⟩ := hrel
      cases gk with
      | zero =>
       obtain rfl : k = i := by omega
       clear hk
       have hnx : mI Z k false k = mO Z (decide (n ≤ 8)) (k + 1) := by rw [← HBI.out]; rfl
       (repeat ((fail_if_success with_reducible refine rg ?_); go_step))
       refine wp_region_pw ?_
       refine pw_mv (by rfl) rfl rfl ?_
       refine pw_mv (by rfl) rfl rfl ?_
       simp only [Act.put, pu]
       refine pw_value (by rfl) (.bool false) (exec_lt_b _ _ _ _ rfl k k rfl rfl false (decide_eq_false (Int.lt_irrefl _))) ?_
       simp only [Act.put, pu]
       refine pw_nil ?_
       (repeat ((fail_if_success with_reducible refine rg ?_); go_step))
       refine wp_region_pw ?_
       refine pw_mv (by rfl) rfl rfl ?_
       simp only [Act.put, pu]
       refine pw_value (by rfl) (.int .i64 ((k + 1 : Nat) : Int)) (exec_add_in _ _ _ _ rfl k 1 rfl rfl (by omega)) ?_
       refine pw_as (by rfl) rfl rfl ?_
       simp only [Act.put, pu]
       refine pw_nil ?_
       go_wp2
       go_roundg x
       case measure => omega
       case rel => exact ⟨k + 1, by omega, by rw [hnx], rfl, hzs, sb⟩
      | succ y =>
       have hltk : k < i := by omega
       have hkn : k < n := by omega
       (repeat ((fail_if_success with_reducible refine rg ?_); go_step))
       refine wp_region_pw ?_
       refine pw_mv (by rfl) rfl rfl ?_
       refine pw_mv (by rfl) rfl rfl ?_
       simp only [Act.put, pu]
       refine pw_value (by rfl) (.bool true) (exec_lt_b _ _ _ _ rfl k i rfl rfl true (decide_eq_true (by omega))) ?_
       simp only [Act.put, pu]
       refine pw_nil ?_
       obtain h1 | ⟨_, rS, hst⟩ := hzs.at'
       ·exact absurd h1 (by omega)
       have hsi := hst i hlt
       have hsk := hst k hkn
       clear hst
       have orS := rS
       cases hd : mI Z i false k with
       | false =>
        have hnx : mI Z i false (k + 1) = false := by
         show (mI Z i false k && _) = false
         rw [hd]; rfl
        (repeat ((fail_if_success with_reducible refine rg ?_); go_step))
        refine wp_region_ewb (by kernel_rfl) [] [(0, false), (1, false), (2, false), (3, false), (4, false), (5, false), (6, false), (7, false), (8, false), (9, false), (10, false), (11, false), (12, false)] ?_ (by kernel_rfl)
        have cb := below_self sb
        have osb := sb
        have ohzs := hzs
        refine ew_mv (by rfl) rfl rfl ?_
        refine ew_mv (by rfl) rfl rfl ?_
        simp only [Act.put, pu]
        refine ew_skip (by rfl) ?_
        simp only [Act.put, pu]
        refine ew_skip (by rfl) ?_
        simp only [Act.put, pu]
        refine ew_skip (by rfl) ?_
        simp only [Act.put, pu]
        refine ew_skip (by rfl) ?_
        simp only [Act.put, pu]
        refine ew_skip (by rfl) ?_
        simp only [Act.put, pu]
        refine ew_skip (by rfl) ?_
        simp only [Act.put, pu]
        refine ew_skip (by rfl) ?_
        simp only [Act.put, pu]
        refine ew_skip (by rfl) ?_
        simp only [Act.put, pu]
        refine ew_skip (by rfl) ?_
        simp only [Act.put, pu]
        refine ew_pick (by rfl) false (v := .bool false) rfl rfl rfl ?_
        refine ew_as (by rfl) rfl rfl ?_
        simp only [Act.put, pu]
        refine ew_nil ?_
        intro wz hqb
        replace hzs := hzs.below hqb
        replace sb := below_on sb (Nat.le_refl _) hqb
        clear hqb cb osb ohzs
        clear rS orS
        (repeat ((fail_if_success with_reducible refine rg ?_); go_step))
        refine wp_region_pw ?_
        refine pw_mv (by rfl) rfl rfl ?_
        simp only [Act.put, pu]
        refine pw_value (by rfl) (.int .i64 ((k + 1 : Nat) : Int)) (exec_add_in _ _ _ _ rfl k 1 rfl rfl (by omega)) ?_
        refine pw_as (by rfl) rfl rfl ?_
        simp only [Act.put, pu]
        refine pw_nil ?_
        go_wp2
        go_roundg y
        case measure => omega
        case rel => exact ⟨k + 1, by omega, by rw [hnx], rfl, hzs, sb⟩
       | true =>
        obtain ⟨bb, hbb⟩ : ∃ bb, (!decide (Z k = Z i)) = bb := ⟨_, rfl⟩
        have hnx : mI Z i false (k + 1) = bb := by
         show (mI Z i false k && !decide (Z k = Z i)) = bb
         rw [hd, hbb]; rfl
        (repeat ((fail_if_success with_reducible refine rg ?_); go_step))
        refine wp_region_ewb (by kernel_rfl) [] [(0, false), (1, false), (2, false), (3, false), (4, false), (5, false), (6, false), (7, false), (8, false), (9, false), (10, false), (11, false), (12, false)] ?_ (by kernel_rfl)
        have cb := below_self sb
        have osb := sb
        have ohzs := hzs
        refine ew_mv (by rfl) rfl rfl ?_
        refine ew_mv (by rfl) rfl rfl ?_
        refine ew_mv (by rfl) rfl rfl ?_
        refine ew_mv (by rfl) rfl rfl ?_
        simp only [Act.put, pu]
        refine ew_value (by rfl) (.pointer (some ⟨gb, ob + k * 1, none⟩)) ((exec_index_s 45 _ _ rfl gb ob (n) (c) rfl (k) rfl (hkn) _ Try.underlying45 1 Try.sizeOf3)) ?_
        simp only [Act.put, pu]
        refine ew_loadk (by rfl) 3 _ rfl _ (ob + k * 1) rfl (fun _ hb => (orS.belowAll hb)) (.int .i64 (Z k)) hsk Try.isAgg3 ?_
        refine ew_mv (by rfl) rfl rfl ?_
        refine ew_mv (by rfl) rfl rfl ?_
        simp only [Act.put, pu]
        refine ew_value (by rfl) (.pointer (some ⟨gb, ob + i * 1, none⟩)) ((exec_index_s 45 _ _ rfl gb ob (n) (c) rfl (i) rfl (hlt) _ Try.underlying45 1 Try.sizeOf3)) ?_
        simp only [Act.put, pu]
        refine ew_loadk (by rfl) 3 _ rfl _ (ob + i * 1) rfl (fun _ hb => (orS.belowAll hb)) (.int .i64 (Z i)) hsi Try.isAgg3 ?_
        simp only [Act.put, pu]
        refine ew_value (by rfl) (.bool bb) (exec_neq_k .i64 _ _ _ _ rfl (Z k) (Z i) rfl rfl bb hbb) ?_
        simp only [Act.put, pu]
        refine ew_pick (by rfl) true (v := .bool bb) rfl rfl rfl ?_
        refine ew_as (by rfl) rfl rfl ?_
        simp only [Act.put, pu]
        refine ew_nil ?_
        intro wz hqb
        replace hzs := hzs.below hqb
        replace sb := below_on sb (Nat.le_refl _) hqb
        clear hqb cb osb ohzs
        clear rS orS
        (repeat ((fail_if_success with_reducible refine rg ?_); go_step))
        refine wp_region_pw ?_
        refine pw_mv (by rfl) rfl rfl ?_
        simp only [Act.put, pu]
        refine pw_value (by rfl) (.int .i64 ((k + 1 : Nat) : Int)) (exec_add_in _ _ _ _ rfl k 1 rfl rfl (by omega)) ?_
        refine pw_as (by rfl) rfl rfl ?_
        simp only [Act.put, pu]
        refine pw_nil ?_
        go_wp2
        go_roundg y
        case measure => omega
        case rel => exact ⟨k + 1, by omega, by rw [hnx], rfl, hzs, sb⟩
    | true =>
     obtain ⟨b7, hb7⟩ : ∃ b7, decide (Z i ≤ 7) = b7 := ⟨_, rfl⟩
     have hbi : ((mO Z (decide (n ≤ 8)) i && decide (0 ≤ Z i)) && decide (Z i ≤ 7)) = b7 := by rw [hm0, hg0, hb7, Bool.and_true, Bool.true_and]
     have HBI : Hid (mI Z i ((mO Z (decide (n ≤ 8)) i && decide (0 ≤ Z i)) && decide (Z i ≤ 7)) = mI Z i b7) := by show _ = _; rw [hbi]
     clear hbi
     (repeat ((fail_if_success with_reducible refine rg ?_); go_step))
     refine wp_region_pw ?_
     refine pw_mv (by rfl) rfl rfl ?_
     refine pw_mv (by rfl) rfl rfl ?_
     refine pw_mv (by rfl) rfl rfl ?_
     refine pw_mv (by rfl) rfl rfl ?_
     simp only [Act.put, pu]
     refine pw_value (by rfl) (.pointer (some ⟨gb, ob + i, none⟩)) ((fun w' => (exec_index_s 45 _ _ rfl gb ob n c rfl i rfl hlt _ Try.underlying45 1 Try.sizeOf3 w').trans (by rw [Nat.mul_one]))) ?_
     simp only [Act.put, pu]
     refine pw_loadk (by rfl) 3 _ rfl _ (ob + i) rfl rS (.int .i64 (Z i)) hsi0 Try.isAgg3 ?_
     simp only [Act.put, pu]
     refine pw_value (by rfl) (.bool true) (exec_geq_i _ _ _ _ rfl (Z i) 0 rfl rfl true hg0) ?_
     simp only [Act.put, pu]
     refine pw_pick (by rfl) true (v := .bool true) rfl rfl rfl ?_
     refine pw_mv (by rfl) rfl rfl ?_
     refine pw_mv (by rfl) rfl rfl ?_
     refine pw_mv (by rfl) rfl rfl ?_
     simp only [Act.put, pu]
     refine pw_value (by rfl) (.pointer (some ⟨gb, ob + i, none⟩)) ((fun w' => (exec_index_s 45 _ _ rfl gb ob n c rfl i rfl hlt _ Try.underlying45 1 Try.sizeOf3 w').trans (by rw [Nat.mul_one]))) ?_
     simp only [Act.put, pu]
     refine pw_loadk (by rfl) 3 _ rfl _ (ob + i) rfl rS (.int .i64 (Z i)) hsi0 Try.isAgg3 ?_
     simp only [Act.put, pu]
     refine pw_value (by rfl) (.bool b7) (exec_leq_i _ _ _ _ rfl (Z i) 7 rfl rfl b7 hb7) ?_
     simp only [Act.put, pu]
     refine pw_pick (by rfl) true (v := .bool b7) rfl rfl rfl ?_
     refine pw_as (by rfl) rfl rfl ?_
     simp only [Act.put, pu]
     refine pw_nil ?_
     clear rS
     (repeat ((fail_if_success with_reducible refine rg ?_); go_step))
     refine wp_region_pw ?_
     refine pw_value (by rfl) (.int .i64 0) (fun _ => rfl) ?_
     simp only [Act.put, pu]
     refine pw_nil ?_
     go_wp2_with fail
     go_loopg [5, 7] i (fun y s5 s7 wr => ∃ k : Nat, k + y = i ∧ s5 = .bool (mI Z i b7 k) ∧ s7 = .int .i64 k ∧ ZsAt wr (some ⟨gb, ob, none⟩) n Z gb ob bcs tb ∧ Below w.heap.size w wr)
     case atStart => exact ⟨0, by omega, rfl, rfl, hzs, sb⟩
     case round =>
      clear hzs sb
      obtain ⟨k, hk, rfl, rfl, hzs, sb⟩ := hrel
      cases gk with
      | zero =>
       obtain rfl : k = i := by omega
       clear hk
       have hnx : mI Z k b7 k = mO Z (decide (n ≤ 8)) (k + 1) := by rw [← HBI.out]; rfl
       (repeat ((fail_if_success with_reducible refine rg ?_); go_step))
       refine wp_region_pw ?_
       refine pw_mv (by rfl) rfl rfl ?_
       refine pw_mv (by rfl) rfl rfl ?_
       simp only [Act.put, pu]
       refine pw_value (by rfl) (.bool false) (exec_lt_b _ _ _ _ rfl k k rfl rfl false (decide_eq_false (Int.lt_irrefl _))) ?_
       simp only [Act.put, pu]
       refine pw_nil ?_
       (repeat ((fail_if_success with_reducible refine rg ?_); go_step))
       refine wp_region_pw ?_
       refine pw_mv (by rfl) rfl rfl ?_
       simp only [Act.put, pu]
       refine pw_value (by rfl) (.int .i64 ((k + 1 : Nat) : Int)) (exec_add_in _ _ _ _ rfl k 1 rfl rfl (by omega)) ?_
       refine pw_as (by rfl) rfl rfl ?_
       simp only [Act.put, pu]
       refine pw_nil ?_
       go_wp2
       go_roundg x
       case measure => omega
       case rel => exact ⟨k + 1, by omega, by rw [hnx], rfl, hzs, sb⟩
      | succ y =>
       have hltk : k < i := by omega
       have hkn : k < n := by omega
       (repeat ((fail_if_success with_reducible refine rg ?_); go_step))
       refine wp_region_pw ?_
       refine pw_mv (by rfl) rfl rfl ?_
       refine pw_mv (by rfl) rfl rfl ?_
       simp only [Act.put, pu]
       refine pw_value (by rfl) (.bool true) (exec_lt_b _ _ _ _ rfl k i rfl rfl true (decide_eq_true (by omega))) ?_
       simp only [Act.put, pu]
       refine pw_nil ?_
       obtain h1 | ⟨_, rS, hst⟩ := hzs.at'
       ·exact absurd h1 (by omega)
       have hsi := hst i hlt
       have hsk := hst k hkn
       clear hst
       have orS := rS
       cases hd : mI Z i b7 k with
       | false =>
        have hnx : mI Z i b7 (k + 1) = false := by
         show (mI Z i b7 k && _) = false
         rw [hd]; rfl
        (repeat ((fail_if_success with_reducible refine rg ?_); go_step))
        refine wp_region_ewb (by kernel_rfl) [] [(0, false), (1, false), (2, false), (3, false), (4, false), (5, false), (6, false), (7, false), (8, false), (9, false), (10, false), (11, false), (12, false)] ?_ (by kernel_rfl)
        have cb := below_self sb
        have osb := sb
        have ohzs := hzs
        refine ew_mv (by rfl) rfl rfl ?_
        refine ew_mv (by rfl) rfl rfl ?_
        simp only [Act.put, pu]
        refine ew_skip (by rfl) ?_
        simp only [Act.put, pu]
        refine ew_skip (by rfl) ?_
        simp only [Act.put, pu]
        refine ew_skip (by rfl) ?_
        simp only [Act.put, pu]
        refine ew_skip (by rfl) ?_
        simp only [Act.put, pu]
        refine ew_skip (by rfl) ?_
        simp only [Act.put, pu]
        refine ew_skip (by rfl) ?_
        simp only [Act.put, pu]
        refine ew_skip (by rfl) ?_
        simp only [Act.put, pu]
        refine ew_skip (by rfl) ?_
        simp only [Act.put, pu]
        refine ew_skip (by rfl) ?_
        simp only [Act.put, pu]
        refine ew_pick (by rfl) false (v := .bool false) rfl rfl rfl ?_
        refine ew_as (by rfl) rfl rfl ?_
        simp only [Act.put, pu]
        refine ew_nil ?_
        intro wz hqb
        replace hzs := hzs.below hqb
        replace sb := below_on sb (Nat.le_refl _) hqb
        clear hqb cb osb ohzs
        clear rS orS
        (repeat ((fail_if_success with_reducible refine rg ?_); go_step))
        refine wp_region_pw ?_
        refine pw_mv (by rfl) rfl rfl ?_
        simp only [Act.put, pu]
        refine pw_value (by rfl) (.int .i64 ((k + 1 : Nat) : Int)) (exec_add_in _ _ _ _ rfl k 1 rfl rfl (by omega)) ?_
        refine pw_as (by rfl) rfl rfl ?_
        simp only [Act.put, pu]
        refine pw_nil ?_
        go_wp2
        go_roundg y
        case measure => omega
        case rel => exact ⟨k + 1, by omega, by rw [hnx], rfl, hzs, sb⟩
       | true =>
        obtain ⟨bb, hbb⟩ : ∃ bb, (!decide (Z k = Z i)) = bb := ⟨_, rfl⟩
        have hnx : mI Z i b7 (k + 1) = bb := by
         show (mI Z i b7 k && !decide (Z k = Z i)) = bb
         rw [hd, hbb]; rfl
        (repeat ((fail_if_success with_reducible refine rg ?_); go_step))
        refine wp_region_ewb (by kernel_rfl) [] [(0, false), (1, false), (2, false), (3, false), (4, false), (5, false), (6, false), (7, false), (8, false), (9, false), (10, false), (11, false), (12, false)] ?_ (by kernel_rfl)
        have cb := below_self sb
        have osb := sb
        have ohzs := hzs
        refine ew_mv (by rfl) rfl rfl ?_
        refine ew_mv (by rfl) rfl rfl ?_
        refine ew_mv (by rfl) rfl rfl ?_
        refine ew_mv (by rfl) rfl rfl ?_
        simp only [Act.put, pu]
        refine ew_value (by rfl) (.pointer (some ⟨gb, ob + k * 1, none⟩)) ((exec_index_s 45 _ _ rfl gb ob (n) (c) rfl (k) rfl (hkn) _ Try.underlying45 1 Try.sizeOf3)) ?_
        simp only [Act.put, pu]
        refine ew_loadk (by rfl) 3 _ rfl _ (ob + k * 1) rfl (fun _ hb => (orS.belowAll hb)) (.int .i64 (Z k)) hsk Try.isAgg3 ?_
        refine ew_mv (by rfl) rfl rfl ?_
        refine ew_mv (by rfl) rfl rfl ?_
        simp only [Act.put, pu]
        refine ew_value (by rfl) (.pointer (some ⟨gb, ob + i * 1, none⟩)) ((exec_index_s 45 _ _ rfl gb ob (n) (c) rfl (i) rfl (hlt) _ Try.underlying45 1 Try.sizeOf3)) ?_
        simp only [Act.put, pu]
        refine ew_loadk (by rfl) 3 _ rfl _ (ob + i * 1) rfl (fun _ hb => (orS.belowAll hb)) (.int .i64 (Z i)) hsi Try.isAgg3 ?_
        simp only [Act.put, pu]
        refine ew_value (by rfl) (.bool bb) (exec_neq_k .i64 _ _ _ _ rfl (Z k) (Z i) rfl rfl bb hbb) ?_
        simp only [Act.put, pu]
        refine ew_pick (by rfl) true (v := .bool bb) rfl rfl rfl ?_
        refine ew_as (by rfl) rfl rfl ?_
        simp only [Act.put, pu]
        refine ew_nil ?_
        intro wz hqb
        replace hzs := hzs.below hqb
        replace sb := below_on sb (Nat.le_refl _) hqb
        clear hqb cb osb ohzs
        clear rS orS
        (repeat ((fail_if_success with_reducible refine rg ?_); go_step))
        refine wp_region_pw ?_
        refine pw_mv (by rfl) rfl rfl ?_
        simp only [Act.put, pu]
        refine pw_value (by rfl) (.int .i64 ((k + 1 : Nat) : Int)) (exec_add_in _ _ _ _ rfl k 1 rfl rfl (by omega)) ?_
        refine pw_as (by rfl) rfl rfl ?_
        simp only [Act.put, pu]
        refine pw_nil ?_
        go_wp2
        go_roundg y
        case measure => omega
        case rel => exact ⟨k + 1, by omega, by rw [hnx], rfl, hzs, sb⟩
theorem walk (ab : Option Addr) (n c : Nat) (Z : Nat → Int) (gb ob : Nat) (bcs : Array Value) (tb : TypeId) (ae : Option Addr) (m ce : Nat) (E : Nat → Nat) (ge oe : Nat) (ecs : Array Value) (te : TypeId) (w : World) (hna : ZsAt w ab n Z gb ob bcs tb) (hnb : NatsAt w ae m E ge oe ecs te) :
  Calls Try.prog 4 #[.slice ab n c, .slice ae m ce] w fun e w' => e = .returned (.bool true) ∧ Below w.heap.size w w' := by
 by_cases h : 10 < n ∨ 8 < m
 ·exact core0 n c m ce ab ae w h
 have q := (sm_fd 1).1
 have hbig : 1000 < smQ 1 := by decide +kernel
 haveI : NeZero (smQ 1) := ⟨by omega⟩
 refine core1 n c m ce ab ae Z gb ob bcs tb w (by omega) (by omega) hna (smP 1) (smQ 1) (smG 1) (fun w' => sml13_any 1 w') (fun hA w' g gr gf hb hg => ?_) (fun hA w' g gr gf hb hg => wts_arg n c ab Z gb ob bcs tb (by omega) (hna.below hb) hg hA)
 obtain ⟨h1, h2⟩ := (apB_iff 0 Z n).1 hA
 have hZ : ∀ k, k < n → Z k = (((Z k).toNat : Nat) : Int) := fun k hk => by have := (h1 k hk).1; omega
 refine (wts_any n c ab (fun k => (Z k).toNat) gb ob bcs tb q (apB_8 hA) (fun k hk => by have := (h1 k hk).2; show (Z k).toNat < 1000; omega) (fun i j hi hj hne e => ?_) ((hna.below hb).congr hZ) hg (by rw [← apB_congr n hZ]; exact hA)).mono ?_
 ·have hi7 := (h1 i hi).2
  have hj7 := (h1 j hj).2
  have h3 := fi_inj e (by omega) (by omega)
  have h4 : Z i = Z j := by rw [hZ i hi, hZ j hj, h3]
  rcases Nat.lt_or_gt_of_ne hne with h5 | h5
  ·exact h2 i j h5 hj h4
  ·exact h2 j i h5 hi h4.symm
 ·rintro e w2 ⟨gW, R, rfl, _, _, hb2⟩
  exact ⟨gW, rfl, hb2⟩
set_option maxRecDepth 100000 in
theorem lifted (os : Os) (started : os.Started) (H : Type) (enc : TypeId × Value → H) :
  ReturnsInHanded {} Try.checked os 4 .any (Rows.shareRefusesSpec.pre6 enc Try.prog Try.f4 Rows.shareRefusesRow.domain false) (Rows.shareRefusesSpec.post enc Try.prog Try.f4 false true false false) := by
 refine returnsInHanded_of_change (C := Try.checked) own started (by kernel_rfl) Try.func4
  (ChangeSpec.witness6 (enc := enc) (C := Try.checked) false ⟨#[], #[.slice none 0 0, .slice none 0 0], []⟩ 8 (by kernel_rfl) (by kernel_rfl) (by kernel_rfl) (by kernel_rfl)) ?_
 intro W base args ds gs before hval0 hW hcnd _
 have hval : ∀ (j : Nat) t v, Try.f4.params[j]? = some t → args[j]? = some v → Value.okWide Try.prog W .any base t v := hval0
 have hW' := hW
 obtain ⟨p, q, hA0, hV, rfl, hfz, hnd⟩ := hW
 have hA : DataW.TrodAll enc Try.prog W 0 (fun _ => true) true Try.f4.params.toList args.toList ds p := hA0
 rw [Try.params4] at hA hval
 obtain ⟨v0, vs0, d0, ds0, p0, q0, hargs, rfl, rfl, h0, r0⟩ := trodAll_cons hA
 obtain ⟨v1, vs1, d1, ds1, p1, q1, rfl, rfl, rfl, h1, r1⟩ := trodAll_cons r0
 obtain ⟨rfl, rfl, rfl⟩ := trodAll_nil r1
 obtain rfl : args = #[v0, v1] := by cases args; simp_all
 obtain ⟨rfl, rfl⟩ := trodVars_none hV
 have k0 := h0
 have lt0 := lt_of_trod h0
 obtain ⟨ab0, n0, c0, Z0, gb0, ob0, bcs0, tb0, rfl, _, _, hn0⟩ := open_zs (hval 0 45 v0 rfl rfl) h0
 have k1 := h1
 have lt1 := lt_of_trod h1
 obtain ⟨ab1, n1, c1, F1, gb1, ob1, bcs1, tb1, rfl, _, _, hn1⟩ := open_nats (hval 1 22 v1 rfl rfl) h1
 clear hA0 hval0
 refine (walk ab0 n0 c0 Z0 gb0 ob0 bcs0 tb0 ab1 n1 c1 F1 gb1 ob1 bcs1 tb1 W hn0 hn1).mono fun e W' ⟨he, bel⟩ => ?_
 subst he
 exact ⟨_, rfl, _, _, _, [], _, [], hW', trodAll_mk1 (shut_bool Try.underlying4 _), (trodAll_cons_mk (Below.trod laidOut (by kernel_rfl) (of_decide_eq_true (by kernel_rfl)) k0 bel lt0) (trodAll_cons_mk (Below.trod laidOut (by kernel_rfl) (of_decide_eq_true (by kernel_rfl)) k1 bel lt1) trodAll_mk0)), rfl, bel.frame _, fun h => by cases h⟩
theorem over : Rows.shareRefusesRow.holds Try.pinned (OpenSpec.ofChange Rows.shareRefusesSpec) :=
 OpenClaim.holds_of_wide 4 Try.f4 rfl rfl rfl rfl rfl rfl rfl ⟨rfl, rfl, rfl, rfl, rfl⟩ rfl rfl rfl rfl rfl (by kernel_rfl) Try.func4 (by kernel_rfl)
  (of_decide_eq_true (by kernel_rfl)) (by unfold Func.isWrapper; first | (rw [if_pos (by decide +kernel)]; kernel_rfl) | (rw [if_neg (by decide +kernel)]; exact ⟨rfl, rfl⟩))
  (fun os started H enc _ => lifted os started H enc)
end shareRefusesP
/-- for every list of ints and list of naturals, of up to 10 and 8: weights of places that may not be there are not, and of others they are; without a group nothing is told, and nothing fails; no condition. -/
theorem shareRefuses_holds : Rows.ShareRefusesSaid := shareRefusesP.over
end Go.Proofs.Ytfhgdgnhcmakhaa
