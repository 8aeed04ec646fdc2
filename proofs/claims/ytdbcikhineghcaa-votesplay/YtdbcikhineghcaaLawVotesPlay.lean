/- VotesPlay: for any number of servers and any votes, up to 40 of few bytes: Put, Count and At answer as the document says; no condition. -/
import Derived.Test.YtdbcikhineghcaaVtOpen
namespace Go.Proofs.Ytdbcikhineghcaa
open Go.ChangeShapes Go.WideShapes Go.ChangeAt Go.RowKit
set_option linter.unusedVariables false
set_option linter.unusedSectionVars false
set_option linter.unusedSimpArgs false
namespace votesPlayP
/-- The document's votes as a slice that lies above a place. -/
structure MdAt (B : Nat) (w : World) (a : Option Addr) (M : List Rv) : Prop where
 out : ∃ gb ob bcs tb, ElsAt 4 w a M.length (lsC M) gb ob bcs tb ∧ (M.length = 0 ∨ B < gb)
theorem MdAt.below {B : Nat} {w w2 : World} {a : Option Addr} {M : List Rv} (h : MdAt B w a M) (hb : Below w.heap.size w w2) : MdAt B w2 a M := by
 obtain ⟨gb, ob, bcs, tb, h1, h2⟩ := h.out
 exact ⟨gb, ob, bcs, tb, h1.below hb, h2⟩
theorem MdAt.belowAll {B : Nat} {w w2 : World} {a : Option Addr} {M : List Rv} (h : MdAt B w a M) (hb : Below w.heap.size w w2) : MdAt B w2 a M := h.below hb
theorem MdAt.on {B : Nat} {w w2 : World} {a : Option Addr} {M : List Rv} {S : List Nat} (h : MdAt B w a M) (hk : Kept S w w2) (hS : ∀ j, j < 1 → ∀ b ∈ S, b ≤ B) : MdAt B w2 a M := by
 obtain ⟨gb, ob, bcs, tb, h1, h2⟩ := h.out
 refine ⟨gb, ob, bcs, tb, ⟨?_⟩, h2⟩
 rcases h1.at' with h0 | ⟨h3, h4, h5⟩
 ·exact .inl h0
 ·rcases h2 with h2 | h2
  ·exact .inl h2
  ·exact .inr ⟨h3, hk.rowR h4 fun hm => by have := hS 0 (Nat.one_pos) _ hm; omega, h5⟩
theorem rgo_len {v : Rv} : ∀ (l O R : List Rv), rgo v O l = some R → R.length ≤ O.length + l.length + 1
 | [], O, R, h => by
  obtain rfl : O ++ [v] = R := Option.some.inj h
  simp
 | x :: r, O, R, h => by
  rw [rgo_cons] at h
  split at h
  ·have := rgo_len r _ R h
   simp at this ⊢
   omega
  ·split at h
   ·cases h
   ·have := rgo_len r _ R h
    simp
    omega
theorem rputL_len (M : List Rv) (n : Int) (v : Rv) : (rputL M n v).length ≤ M.length + 1 := by
 unfold rputL
 split
 ·cases h : rgo v [] M with
  | none => exact Nat.le_succ _
  | some R => have := rgo_len M [] R h; simpa using this
 ·exact Nat.le_succ _
theorem mdp {B m : Nat} {w : World} {am : Option Addr} {cm : Nat} {M : List Rv} {V : Nat → Vt} (h : MdAt B w am M) (hr : VRel m V M) (hl : M.length ≤ 1000) (hB : B < w.heap.size) (x : Rv) :
  Calls Try.prog 9 #[.slice am M.length cm, .int .i64 m, .agg (rvA x)] w fun e w' => ∃ am' cm', e = .returned (.tuple #[.slice am' (rputL M m x).length cm', .bool (puB m V x.1 x.2.1 x.2.2.1)]) ∧ MdAt B w' am' (rputL M m x) ∧ Below w.heap.size w w' := by
 obtain ⟨gb, ob, bcs, tb, h1, h2⟩ : ∃ gb ob bcs tb, ElsAt 4 w am M.length (lsC M) gb ob bcs tb ∧ B < gb := by
  obtain ⟨gb, ob, bcs, tb, h1, h2⟩ := h.out
  rcases h2 with h2 | h2
  ·exact ⟨B + 1, 0, #[], 0, ⟨.inl h2⟩, Nat.lt_succ_self B⟩
  ·exact ⟨gb, ob, bcs, tb, h1, h2⟩
 refine (rput_any am cm M gb ob bcs tb m x w hl h1).mono ?_
 rintro e w' ⟨ab', c', gb', ob', bcs', tb', rfl, he, hg, hb⟩
 rw [(hr.put x).1]
 refine ⟨ab', c', rfl, ⟨gb', ob', bcs', tb', he, ?_⟩, hb⟩
 rcases hg with h3 | rfl | h3
 ·exact .inl h3
 ·exact .inr h2
 ·exact .inr (by omega)
theorem mdc {B m : Nat} {w : World} {am : Option Addr} {cm : Nat} {M : List Rv} {V : Nat → Vt} (h : MdAt B w am M) (hr : VRel m V M) (hl : M.length ≤ 1000) (s c : Int) (d : List UInt8) :
  Calls Try.prog 12 #[.slice am M.length cm, .agg (tsC s c), .string ⟨d.toArray⟩] w fun e w' => e = .returned (.int .i64 (cntN m V s c d : Nat)) ∧ Below w.heap.size w w' := by
 obtain ⟨gb, ob, bcs, tb, h1, h2⟩ := h.out
 rw [hr.cnt]
 exact rcnt_any am cm M gb ob bcs tb s c d w (by omega) h1
theorem mda {B m : Nat} {w : World} {am : Option Addr} {cm : Nat} {M : List Rv} {V : Nat → Vt} (h : MdAt B w am M) (hr : VRel m V M) (hl : M.length ≤ 1000) (k c : Int) (o : Nat) (ho : o < 2) :
  Calls Try.prog 14 #[.slice am M.length cm, .int .i64 k, .int .i64 c, .int .i64 o] w fun e w' => e = .returned (.tuple #[.agg (tsC (atV m V k c o).1 (atV m V k c o).2.1), .string ⟨(atV m V k c o).2.2.toArray⟩]) ∧ Below w.heap.size w w' := by
 obtain ⟨gb, ob, bcs, tb, h1, h2⟩ := h.out
 rw [hr.atv k c o (by omega)]
 exact rat_any am cm M gb ob bcs tb k c o w (by omega) h1
theorem md_nil (B : Nat) (w : World) : MdAt B w none [] := ⟨0, 0, #[], 0, ⟨.inl rfl⟩, .inl rfl⟩
set_option maxRecDepth 100000 in
set_option maxHeartbeats 2000000 in
theorem walk (n : Int) (ab : Option Addr) (c : Nat) (L : List Rv) (gb ob : Nat) (bcs : Array Value) (tb : TypeId) (w : World) (hw : -9223372036854775808 ≤ n ∧ n ≤ 9223372036854775807) (hm : L.length ≤ maxLen) (hz : ElsAt 4 w ab L.length (lsC L) gb ob bcs tb) :
  Calls Try.prog 3 #[.int .i64 n, .slice ab L.length c] w fun e w' => e = .returned (.bool true) ∧ Below w.heap.size w w' := by
 have hS := fun w' (hb : Below w.heap.size w w') => short_any ab c L gb ob bcs tb w' (hz.below hb)
 have HB : Hid (ElsAt 4 w ab L.length (lsC L) gb ob bcs tb) := hz
 clear hm hz
 cases hsh : shB L with
 | false =>
  rw [hsh] at hS
  clear hsh HB
  go_enter Try.func3, Try.ntmps3
  have sb := sbmk w
  (repeat ((fail_if_success with_reducible refine rg ?_); go_step))
  refine wp_region_pw ?_
  refine pw_value (by rfl) (.bool false) (fun _ => rfl) ?_
  simp only [Act.put, pu]
  refine pw_nil ?_
  (repeat ((fail_if_success with_reducible refine rg ?_); go_step))
  refine wp_region_pw ?_
  refine pw_mv (by rfl) rfl rfl ?_
  simp only [Act.put, pu]
  refine pw_callB (by rfl) 6 _ _ rfl Try.func6 (by kernel_rfl) #[.slice ab L.length c] rfl _ (hS _ sb) ?_
  intro z1001 k
  simp only [Act.put, pu]
  replace sb := sb.trans (k.below w.heap.size sb.size (by simp <;> omega))
  clear k
  refine pw_value (by rfl) (.bool true) (exec_not _ _ rfl false rfl) ?_
  simp only [Act.put, pu]
  refine pw_nil ?_
  (repeat ((fail_if_success with_reducible refine rg ?_); go_step))
  refine wp_region_pw ?_
  refine pw_callB (by rfl) 7 _ _ rfl Try.func7 (by kernel_rfl) #[] rfl _ (awake_any _) ?_
  intro z2000 k
  simp only [Act.put, pu]
  replace sb := sb.trans (k.below w.heap.size sb.size (by simp <;> omega))
  clear k
  refine pw_as (by rfl) rfl rfl ?_
  simp only [Act.put, pu]
  refine pw_nil ?_
  go_wp2
  go_ret
  exact ⟨rfl, sb⟩
 | true =>
  rw [hsh] at hS
  have hLn := (shB_yes hsh).1
  have HD40 : Hid (∀ j, j < L.length → (L.getD j rv0).2.2.2.length ≤ 40) := (shB_yes hsh).2
  clear hsh
  by_cases hn : n < 1 ∨ 7 < n
  ·have hN := fun w' => vnew_no n w' hn
   go_enter Try.func3, Try.ntmps3
   have sb := sbmk w
   (repeat ((fail_if_success with_reducible refine rg ?_); go_step))
   refine wp_region_pw ?_
   refine pw_value (by rfl) (.bool false) (fun _ => rfl) ?_
   simp only [Act.put, pu]
   refine pw_nil ?_
   (repeat ((fail_if_success with_reducible refine rg ?_); go_step))
   refine wp_region_pw ?_
   refine pw_mv (by rfl) rfl rfl ?_
   simp only [Act.put, pu]
   refine pw_callB (by rfl) 6 _ _ rfl Try.func6 (by kernel_rfl) #[.slice ab L.length c] rfl _ (hS _ sb) ?_
   intro z1001 k
   simp only [Act.put, pu]
   replace sb := sb.trans (k.below w.heap.size sb.size (by simp <;> omega))
   clear k
   refine pw_value (by rfl) (.bool false) (exec_not _ _ rfl true rfl) ?_
   simp only [Act.put, pu]
   refine pw_nil ?_
   (repeat ((fail_if_success with_reducible refine rg ?_); go_step))
   refine wp_region_pw ?_
   refine pw_mv (by rfl) rfl rfl ?_
   simp only [Act.put, pu]
   refine pw_callB (by rfl) 8 _ _ rfl Try.func8 (by kernel_rfl) #[.int .i64 n] rfl _ (hN _) ?_
   intro z3001 k
   simp only [Act.put, pu]
   replace sb := sb.trans (k.below w.heap.size sb.size (by simp <;> omega))
   clear k
   refine pw_mv (by rfl) rfl rfl ?_
   simp only [Act.put, pu]
   refine pw_ext (by rfl) rfl rfl rfl ?_
   simp only [Act.put, pu]
   refine pw_ext (by rfl) rfl rfl rfl ?_
   simp only [Act.put, pu]
   refine pw_as (by rfl) rfl rfl ?_
   simp only [Act.put, pu]
   refine pw_as (by rfl) rfl rfl ?_
   simp only [Act.put, pu]
   refine pw_nil ?_
   by_cases h1 : n < 1
   ·clear hn hN hS
    (repeat ((fail_if_success with_reducible refine rg ?_); go_step))
    refine wp_region_pw ?_
    refine pw_mv (by rfl) rfl rfl ?_
    simp only [Act.put, pu]
    refine pw_value (by rfl) (.bool true) (exec_lt_b _ _ _ _ rfl (n) (1) rfl rfl true (decide_eq_true (by omega))) ?_
    simp only [Act.put, pu]
    refine pw_mv (by rfl) rfl rfl ?_
    simp only [Act.put, pu]
    refine pw_skip (by rfl) ?_
    simp only [Act.put, pu]
    refine pw_skip (by rfl) ?_
    simp only [Act.put, pu]
    refine pw_pick (by rfl) true (v := .bool true) rfl rfl rfl ?_
    simp only [Act.put, pu]
    refine pw_nil ?_
    (repeat ((fail_if_success with_reducible refine rg ?_); go_step))
    refine wp_region_pw ?_
    refine pw_mv (by rfl) rfl rfl ?_
    simp only [Act.put, pu]
    refine pw_value (by rfl) (.bool true) (exec_eql_nilp _ _ _ _ rfl (none) rfl rfl ptr_vs) ?_
    simp only [Act.put, pu]
    refine pw_mv (by rfl) rfl rfl ?_
    simp only [Act.put, pu]
    refine pw_mv (by rfl) rfl rfl ?_
    simp only [Act.put, pu]
    refine pw_value (by rfl) (.bool true) (exec_eql_k .i64 _ _ _ _ rfl (1) (1) rfl rfl true (decide_eq_true rfl)) ?_
    simp only [Act.put, pu]
    refine pw_pick (by rfl) true (v := .bool true) rfl rfl rfl ?_
    simp only [Act.put, pu]
    refine pw_mv (by rfl) rfl rfl ?_
    simp only [Act.put, pu]
    refine pw_callB (by rfl) 7 _ _ rfl Try.func7 (by kernel_rfl) #[] rfl _ (awake_any _) ?_
    intro z5007 k
    simp only [Act.put, pu]
    replace sb := sb.trans (k.below w.heap.size sb.size (by simp <;> omega))
    clear k
    refine pw_pick (by rfl) true (v := .bool true) rfl rfl rfl ?_
    simp only [Act.put, pu]
    refine pw_as (by rfl) rfl rfl ?_
    simp only [Act.put, pu]
    refine pw_nil ?_
    go_wp2
    go_ret
    exact ⟨rfl, sb⟩
   ·have h7 : 7 < n := by omega
    clear hn hN hS
    (repeat ((fail_if_success with_reducible refine rg ?_); go_step))
    refine wp_region_pw ?_
    refine pw_mv (by rfl) rfl rfl ?_
    simp only [Act.put, pu]
    refine pw_value (by rfl) (.bool false) (exec_lt_b _ _ _ _ rfl (n) (1) rfl rfl false (decide_eq_false (by omega))) ?_
    simp only [Act.put, pu]
    refine pw_mv (by rfl) rfl rfl ?_
    simp only [Act.put, pu]
    refine pw_mv (by rfl) rfl rfl ?_
    simp only [Act.put, pu]
    refine pw_value (by rfl) (.bool true) (exec_gt_i _ _ _ _ rfl (n) (7) rfl rfl true (decide_eq_true (by omega))) ?_
    simp only [Act.put, pu]
    refine pw_pick (by rfl) false (v := .bool true) rfl rfl rfl ?_
    simp only [Act.put, pu]
    refine pw_nil ?_
    (repeat ((fail_if_success with_reducible refine rg ?_); go_step))
    refine wp_region_pw ?_
    refine pw_mv (by rfl) rfl rfl ?_
    simp only [Act.put, pu]
    refine pw_value (by rfl) (.bool true) (exec_eql_nilp _ _ _ _ rfl (none) rfl rfl ptr_vs) ?_
    simp only [Act.put, pu]
    refine pw_mv (by rfl) rfl rfl ?_
    simp only [Act.put, pu]
    refine pw_mv (by rfl) rfl rfl ?_
    simp only [Act.put, pu]
    refine pw_value (by rfl) (.bool true) (exec_eql_k .i64 _ _ _ _ rfl (1) (1) rfl rfl true (decide_eq_true rfl)) ?_
    simp only [Act.put, pu]
    refine pw_pick (by rfl) true (v := .bool true) rfl rfl rfl ?_
    simp only [Act.put, pu]
    refine pw_mv (by rfl) rfl rfl ?_
    simp only [Act.put, pu]
    refine pw_callB (by rfl) 7 _ _ rfl Try.func7 (by kernel_rfl) #[] rfl _ (awake_any _) ?_
    intro z5007 k
    simp only [Act.put, pu]
    replace sb := sb.trans (k.below w.heap.size sb.size (by simp <;> omega))
    clear k
    refine pw_pick (by rfl) true (v := .bool true) rfl rfl rfl ?_
    simp only [Act.put, pu]
    refine pw_as (by rfl) rfl rfl ?_
    simp only [Act.put, pu]
    refine pw_nil ?_
    go_wp2
    go_ret
    exact ⟨rfl, sb⟩
  obtain ⟨m, rfl⟩ : ∃ m : Nat, n = m := ⟨n.toNat, by omega⟩
  have hm1 : 1 ≤ m := by omega
  have hm7 : m ≤ 7 := by omega
  have hN := fun w' => vnew_yes (m : Nat) w' (by omega) (by omega)
  clear hn
  go_enter Try.func3, Try.ntmps3
  have sb := sbmk w
  (repeat ((fail_if_success with_reducible refine rg ?_); go_step))
  refine wp_region_pw ?_
  refine pw_value (by rfl) (.bool false) (fun _ => rfl) ?_
  simp only [Act.put, pu]
  refine pw_nil ?_
  (repeat ((fail_if_success with_reducible refine rg ?_); go_step))
  refine wp_region_pw ?_
  refine pw_mv (by rfl) rfl rfl ?_
  simp only [Act.put, pu]
  refine pw_callB (by rfl) 6 _ _ rfl Try.func6 (by kernel_rfl) #[.slice ab L.length c] rfl _ (hS _ sb) ?_
  intro z1001 k
  simp only [Act.put, pu]
  replace sb := sb.trans (k.below w.heap.size sb.size (by simp <;> omega))
  clear k
  refine pw_value (by rfl) (.bool false) (exec_not _ _ rfl true rfl) ?_
  simp only [Act.put, pu]
  refine pw_nil ?_
  (repeat ((fail_if_success with_reducible refine rg ?_); go_step))
  refine wp_region_pw ?_
  refine pw_mv (by rfl) rfl rfl ?_
  simp only [Act.put, pu]
  refine pw_callE (by rfl) 8 _ _ rfl Try.func8 (by kernel_rfl) #[.int .i64 (m : Nat)] rfl (hN _) ?_
  rintro _ z3001 ⟨g5, rfl, n5, r5, hb⟩
  refine ⟨_, rfl, ?_⟩
  simp only [Act.put, pu]
  have b5 := Nat.le_trans sb.size n5
  clear n5
  have k := Kept.ofBelow hb
  clear hb
  replace sb := sb.trans (k.below w.heap.size sb.size (by simp <;> omega))
  clear k
  refine pw_mv (by rfl) rfl rfl ?_
  simp only [Act.put, pu]
  refine pw_ext (by rfl) rfl rfl rfl ?_
  simp only [Act.put, pu]
  refine pw_ext (by rfl) rfl rfl rfl ?_
  simp only [Act.put, pu]
  refine pw_as (by rfl) rfl rfl ?_
  simp only [Act.put, pu]
  refine pw_as (by rfl) rfl rfl ?_
  simp only [Act.put, pu]
  refine pw_nil ?_
  clear hN hS
  (repeat ((fail_if_success with_reducible refine rg ?_); go_step))
  refine wp_region_pw ?_
  refine pw_mv (by rfl) rfl rfl ?_
  simp only [Act.put, pu]
  refine pw_value (by rfl) (.bool false) (exec_lt_b _ _ _ _ rfl (((m : Nat) : Int)) (1) rfl rfl false (decide_eq_false (by omega))) ?_
  simp only [Act.put, pu]
  refine pw_mv (by rfl) rfl rfl ?_
  simp only [Act.put, pu]
  refine pw_mv (by rfl) rfl rfl ?_
  simp only [Act.put, pu]
  refine pw_value (by rfl) (.bool false) (exec_gt_i _ _ _ _ rfl (((m : Nat) : Int)) (7) rfl rfl false (decide_eq_false (by omega))) ?_
  simp only [Act.put, pu]
  refine pw_pick (by rfl) false (v := .bool false) rfl rfl rfl ?_
  simp only [Act.put, pu]
  refine pw_nil ?_
  (repeat ((fail_if_success with_reducible refine rg ?_); go_step))
  refine wp_region_pw ?_
  refine pw_mv (by rfl) rfl rfl ?_
  simp only [Act.put, pu]
  refine pw_value (by rfl) (.bool false) (exec_neq_k .i64 _ _ _ _ rfl (0) (0) rfl rfl false (by rw [decide_eq_true (by omega)]; rfl)) ?_
  simp only [Act.put, pu]
  refine pw_mv (by rfl) rfl rfl ?_
  simp only [Act.put, pu]
  refine pw_mv (by rfl) rfl rfl ?_
  simp only [Act.put, pu]
  refine pw_value (by rfl) (.bool false) (exec_eql_nilp _ _ _ _ rfl (some ⟨g5, 0, none⟩) rfl rfl ptr_vs) ?_
  simp only [Act.put, pu]
  refine pw_pick (by rfl) false (v := .bool false) rfl rfl rfl ?_
  simp only [Act.put, pu]
  refine pw_nil ?_
  (repeat ((fail_if_success with_reducible refine rg ?_); go_step))
  refine wp_region_pw ?_
  refine pw_value (by rfl) (.slice none 0 0) (fun _ => rfl) ?_
  simp only [Act.put, pu]
  refine pw_nil ?_
  (repeat ((fail_if_success with_reducible refine rg ?_); go_step))
  refine wp_region_pw ?_
  refine pw_value (by rfl) (.int .i64 0) (fun _ => rfl) ?_
  simp only [Act.put, pu]
  refine pw_nil ?_
  go_wp2_with fail
  go_loopg [4, 7, 8, 9, 10, 11, 12, 13, 14, 15, 16] L.length (fun x s4 s7 s8 s9 s10 s11 s12 s13 s14 s15 s16 wr => ∃ (i : Nat) (V : Nat → Vt) (M : List Rv) (am : Option Addr) (cm : Nat), i + x = L.length ∧ s7 = .slice am M.length cm ∧ s8 = .int .i64 i ∧ Row wr g5 (voC (m : Nat) V) 51 ∧ MdAt g5 wr am M ∧ VRel m V M ∧ M.length ≤ i ∧ Below w.heap.size w wr)
  case atStart => exact ⟨0, fun _ => vt0, [], none, 0, by omega, rfl, rfl, r5, md_nil _ _, VRel.nil _, Nat.le_refl _, sb⟩
  case round =>
   clear sb r5
   obtain ⟨i, V, M, am, cm, hi, rfl, rfl, r5, hM, hrel', hMi, sb⟩ := hrel
   have HV : Hid (VRel m V M) := hrel'
   clear hrel'
   cases gk with
   | zero =>
    have h1 : ¬ (i : Int) < (L.length : Int) := by omega
    clear hi HV hM hMi r5
    (repeat ((fail_if_success with_reducible refine rg ?_); go_step))
    refine wp_region_pw ?_
    refine pw_mv (by rfl) rfl rfl ?_
    simp only [Act.put, pu]
    refine pw_mv (by rfl) rfl rfl ?_
    simp only [Act.put, pu]
    refine pw_value (by rfl) (.int .i64 (L.length : Nat)) (exec_len_s 22 _ rfl (ab) (L.length) (c) rfl sl_rv) ?_
    simp only [Act.put, pu]
    refine pw_value (by rfl) (.bool false) (exec_lt_b _ _ _ _ rfl ((i : Nat)) ((L.length : Nat)) rfl rfl false (decide_eq_false h1)) ?_
    simp only [Act.put, pu]
    refine pw_nil ?_
    (repeat ((fail_if_success with_reducible refine rg ?_); go_step))
    refine wp_region_pw ?_
    refine pw_callB (by rfl) 7 _ _ rfl Try.func7 (by kernel_rfl) #[] rfl _ (awake_any _) ?_
    intro z28000 k
    simp only [Act.put, pu]
    replace sb := sb.trans (k.below w.heap.size sb.size (by simp <;> omega))
    clear k
    refine pw_as (by rfl) rfl rfl ?_
    simp only [Act.put, pu]
    refine pw_nil ?_
    go_wp2
    go_ret
    exact ⟨rfl, sb⟩
   | succ y =>
    have hlt : i < L.length := by omega
    have hg5 := r5.lt
    obtain ⟨x, hxg, hx, _⟩ := ls_at hlt
    have hx40 := HD40.out i hlt
    rw [hxg] at hx40
    have HXg : Hid (lsC L i = rvA x) := hx
    have hP := fun w' (hb : Below w.heap.size w w') (h : MdAt g5 w' am M) (hg : g5 < w'.heap.size) => mdp (cm := cm) h HV.out (by omega) hg x
    have hv2 := (HV.out.put x).2
    have hlen2 := rputL_len M m x
    have hPut := fun w' r => put_any g5 (m : Nat) V x.1 x.2.1 x.2.2.1 x.2.2.2 w' r (by omega) (by omega)
    obtain ⟨B, hB⟩ : ∃ B, puB (m : Nat) V x.1 x.2.1 x.2.2.1 = B := ⟨_, rfl⟩
    obtain ⟨M2, hM2⟩ : ∃ M2, rputL M m x = M2 := ⟨_, rfl⟩
    obtain ⟨V2, hV2⟩ : ∃ V2, puV (m : Nat) V x.1 x.2.1 x.2.2.1 x.2.2.2 = V2 := ⟨_, rfl⟩
    rw [hB] at hP hPut
    rw [hM2] at hP hv2 hlen2
    rw [hV2] at hv2 hPut
    have HV2 : Hid (VRel m V2 M2) := hv2
    have hBB : (B != B) = false := by cases B <;> rfl
    have hMi2 : M2.length ≤ i + 1 := by omega
    clear hB hM2 hV2 hv2 hlen2 hx hxg hx40 HV
    obtain h0 | ⟨rfl, rW, _⟩ := HB.out.at'
    ·exact absurd h0 (by omega)
    have hgw := rW.lt
    clear rW
    obtain h0 | ⟨_, rB, hbt⟩ := (HB.out.below sb).at'
    ·exact absurd h0 (by omega)
    have hbx := hbt i hlt
    rw [HXg.out] at hbx
    clear hbt
    (repeat ((fail_if_success with_reducible refine rg ?_); go_step))
    refine wp_region_pw ?_
    refine pw_mv (by rfl) rfl rfl ?_
    simp only [Act.put, pu]
    refine pw_mv (by rfl) rfl rfl ?_
    simp only [Act.put, pu]
    refine pw_value (by rfl) (.int .i64 (L.length : Nat)) (exec_len_s 22 _ rfl (some ⟨gb, ob, none⟩) (L.length) (c) rfl sl_rv) ?_
    simp only [Act.put, pu]
    refine pw_value (by rfl) (.bool true) (exec_lt_b _ _ _ _ rfl ((i : Nat)) ((L.length : Nat)) rfl rfl true (decide_eq_true (by omega))) ?_
    simp only [Act.put, pu]
    refine pw_nil ?_
    (repeat ((fail_if_success with_reducible refine rg ?_); go_step))
    refine wp_region_pw ?_
    refine pw_mv (by rfl) rfl rfl ?_
    simp only [Act.put, pu]
    refine pw_mv (by rfl) rfl rfl ?_
    simp only [Act.put, pu]
    refine pw_mv (by rfl) rfl rfl ?_
    simp only [Act.put, pu]
    refine pw_mv (by rfl) rfl rfl ?_
    simp only [Act.put, pu]
    refine pw_value (by rfl) (.pointer (some ⟨gb, ob + i * 4, none⟩)) ((exec_index_s 22 _ _ rfl gb ob (L.length) (c) rfl (i) rfl (hlt) _ Try.underlying22 4 Try.sizeOf34)) ?_
    simp only [Act.put, pu]
    refine pw_loadm (by rfl) 34 _ rfl _ (ob + i * 4) rfl rB ((rvA x)) hbx _ Try.underlying34 rfl size_rv ?_
    simp only [Act.put, pu]
    refine pw_callE (by rfl) 9 _ _ rfl Try.func9 (by kernel_rfl) #[.slice am M.length cm, .int .i64 (m : Nat), .agg (rvA x)] rfl (hP _ sb hM hg5) ?_
    rintro _ z12006 ⟨a2, c2, rfl, hM2, hb⟩
    refine ⟨_, rfl, ?_⟩
    simp only [Act.put, pu]
    have k := Kept.ofBelow hb
    clear hb
    replace r5 := k.row r5 (by simp <;> omega)
    replace sb := sb.trans (k.below w.heap.size sb.size (by simp <;> omega))
    clear k
    refine pw_mv (by rfl) rfl rfl ?_
    simp only [Act.put, pu]
    refine pw_ext (by rfl) rfl rfl rfl ?_
    simp only [Act.put, pu]
    refine pw_ext (by rfl) rfl rfl rfl ?_
    simp only [Act.put, pu]
    refine pw_as (by rfl) rfl rfl ?_
    simp only [Act.put, pu]
    refine pw_as (by rfl) rfl rfl ?_
    simp only [Act.put, pu]
    refine pw_nil ?_
    clear rB hP hM
    obtain h0 | ⟨_, rB, _⟩ := (HB.out.below sb).at'
    ·exact absurd h0 (by omega)
    obtain ⟨hk, hsq, hcl, hdg, hst⟩ := rv_part rfl hbx
    have hM2x5 : ∀ j : Nat, j < 1 → g5 ≤ g5 := fun _ _ => Nat.le_refl _
    (repeat ((fail_if_success with_reducible refine rg ?_); go_step))
    apply wp_region_mix (by kernel_rfl) [(g5, 51, voC (m : Nat) V)] [_, _, _, _, _, _, _, _, _, _, _, _, _, _, _, _, _, _, _] ⟨r5, trivial⟩ (by simp <;> omega)
    ·intro p
     refine mx_move rfl rfl ?_
     simp only [Act.put, pu]
     refine mx_move rfl rfl ?_
     simp only [Act.put, pu]
     refine mx_move rfl rfl ?_
     simp only [Act.put, pu]
     refine mx_val (.pointer (some ⟨gb, ob + i * 4, none⟩)) ((exec_index_s 22 _ _ rfl gb ob (L.length) (c) rfl (i) rfl (hlt) _ Try.underlying22 4 Try.sizeOf34)) ?_
     simp only [Act.put, pu]
     refine mx_val (.pointer (some ⟨gb, ob + i * 4, none⟩)) (exec_field 34 _ 0 rfl gb (ob + i * 4) rfl _ Try.underlying34 _ rfl 0 Try.sizeOf3) ?_
     simp only [Act.put, pu]
     refine mx_loadcR 3 _ rfl _ (ob + i * 4) rfl rB (by simp <;> omega) (.int .i64 x.1) hk Try.isAgg3 ?_
     simp only [Act.put, pu]
     refine mx_move rfl rfl ?_
     simp only [Act.put, pu]
     refine mx_move rfl rfl ?_
     simp only [Act.put, pu]
     refine mx_val (.pointer (some ⟨gb, ob + i * 4, none⟩)) ((exec_index_s 22 _ _ rfl gb ob (L.length) (c) rfl (i) rfl (hlt) _ Try.underlying22 4 Try.sizeOf34)) ?_
     simp only [Act.put, pu]
     refine mx_val (.pointer (some ⟨gb, ob + i * 4 + 1, none⟩)) (exec_field 34 _ 1 rfl gb (ob + i * 4) rfl _ Try.underlying34 _ rfl 1 Try.sizeOf32) ?_
     simp only [Act.put, pu]
     refine mx_loadmR 32 _ rfl _ (ob + i * 4 + 1) rfl rB (by simp <;> omega) ((tsC x.2.1 x.2.2.1)) hst _ Try.underlying32 rfl size_st ?_
     simp only [Act.put, pu]
     refine mx_move rfl rfl ?_
     simp only [Act.put, pu]
     refine mx_move rfl rfl ?_
     simp only [Act.put, pu]
     refine mx_val (.pointer (some ⟨gb, ob + i * 4, none⟩)) ((exec_index_s 22 _ _ rfl gb ob (L.length) (c) rfl (i) rfl (hlt) _ Try.underlying22 4 Try.sizeOf34)) ?_
     simp only [Act.put, pu]
     refine mx_val (.pointer (some ⟨gb, ob + i * 4 + 3, none⟩)) (exec_field 34 _ 2 rfl gb (ob + i * 4) rfl _ Try.underlying34 _ rfl 0 Try.sizeOf9) ?_
     simp only [Act.put, pu]
     refine mx_loadcR 9 _ rfl _ (ob + i * 4 + 3) rfl rB (by simp <;> omega) (.string ⟨x.2.2.2.toArray⟩) hdg Try.isAgg9 ?_
     simp only [Act.put, pu]
     refine mx_callF 10 _ _ rfl Try.func10 (by kernel_rfl) #[.pointer (some ⟨g5, 0, none⟩), .int .i64 x.1, .agg (tsC x.2.1 x.2.2.1), .string ⟨x.2.2.2.toArray⟩] rfl (.bool B) 0 (voC (m : Nat) V2) rfl (fun w' _ r => hPut w' r) ?_
     simp only [Act.put, pu]
     refine mx_move rfl rfl ?_
     simp only [Act.put, pu]
     refine mx_val (.bool false) (x_nb _ _ _ _ rfl B B rfl rfl Try.underlying4 false hBB) ?_
     simp only [Act.put, pu]
     refine mx_end ?_
     intro w7 hkw hrw hnew hdis
     have zr5 : Row w7 (g5) (voC (m : Nat) V2) 51 := hrw 0 (51, voC (m : Nat) V2) rfl
     replace hM2 := hM2.on hkw (fun j hj => by simp [hM2x5 j hj])
     replace sb := sb.trans (hkw.below w.heap.size sb.size (by simp <;> omega))
     clear hkw hrw hnew hdis r5
     have r5 := zr5
     clear zr5
     (repeat ((fail_if_success with_reducible refine rg ?_); go_step))
     refine wp_region_pw ?_
     refine pw_mv (by rfl) rfl rfl ?_
     simp only [Act.put, pu]
     refine pw_as (by rfl) rfl rfl ?_
     simp only [Act.put, pu]
     refine pw_nil ?_
     (repeat ((fail_if_success with_reducible refine rg ?_); go_step))
     refine wp_region_pw ?_
     refine pw_value (by rfl) (.int .i64 0) (fun _ => rfl) ?_
     simp only [Act.put, pu]
     refine pw_nil ?_
     clear hk hsq hcl hdg hst rB hPut hBB hbx HXg
     go_wp2_with fail
     go_loopg [4, 11, 12, 13, 14, 15, 16] (i + 1) (fun x s4 s11 s12 s13 s14 s15 s16 wr => ∃ k : Nat, k + x = i + 1 ∧ s11 = .int .i64 k ∧ Row wr g5 (voC (m : Nat) V2) 51 ∧ MdAt g5 wr a2 M2 ∧ Below w.heap.size w wr)
     case atStart => exact ⟨0, by omega, rfl, r5, hM2, sb⟩
     case round =>
      clear sb r5 hM2
      obtain ⟨k, hk1, rfl, r5, hM2, sb⟩ := hrel
      cases gk with
      | zero =>
       have h1 : ¬ (k : Int) ≤ (i : Int) := by omega
       (repeat ((fail_if_success with_reducible refine rg ?_); go_step))
       refine wp_region_pw ?_
       refine pw_mv (by rfl) rfl rfl ?_
       simp only [Act.put, pu]
       refine pw_mv (by rfl) rfl rfl ?_
       simp only [Act.put, pu]
       refine pw_value (by rfl) (.bool false) (exec_leq_i _ _ _ _ rfl ((k : Nat)) ((i : Nat)) rfl rfl false (decide_eq_false h1)) ?_
       simp only [Act.put, pu]
       refine pw_nil ?_
       (repeat ((fail_if_success with_reducible refine rg ?_); go_step))
       refine wp_region_pw ?_
       refine pw_mv (by rfl) rfl rfl ?_
       simp only [Act.put, pu]
       refine pw_value (by rfl) (.int .i64 (((i + 1 : Nat) : Int))) (x_addz _ _ _ _ rfl ((i : Nat)) (1) (((i + 1 : Nat) : Int)) rfl rfl (by omega) (by omega) (by omega)) ?_
       simp only [Act.put, pu]
       refine pw_as (by rfl) rfl rfl ?_
       simp only [Act.put, pu]
       refine pw_nil ?_
       go_wp2
       go_roundg y
       case measure => omega
       case rel => exact ⟨i + 1, V2, M2, a2, c2, by omega, rfl, rfl, r5, hM2, HV2.out, hMi2, sb⟩
      | succ y2 =>
       have hkl : k < L.length := by omega
       have h1 : (k : Int) ≤ (i : Int) := by omega
       obtain ⟨z, hzg, hzc, _⟩ := ls_at hkl
       have hC := fun w' (r : Row w' g5 (voC (m : Nat) V2) 51) => cnt_any g5 m V2 z.2.1 z.2.2.1 z.2.2.2 w' r hm1 hm7
       have hD := fun w' (h : MdAt g5 w' a2 M2) => mdc (cm := c2) h HV2.out (by omega) z.2.1 z.2.2.1 z.2.2.2
       have hA := fun (o : Nat) w' (r : Row w' g5 (voC (m : Nat) V2) 51) => at_any g5 (m : Nat) V2 z.1 z.2.2.1 o w' r (by omega)
       have hE := fun (o : Nat) (ho : o < 2) w' (h : MdAt g5 w' a2 M2) => mda (cm := c2) h HV2.out (by omega) z.1 z.2.2.1 o ho
       generalize cntN m V2 z.2.1 z.2.2.1 z.2.2.2 = u at *
       obtain h0 | ⟨_, rB, hbt⟩ := (HB.out.below sb).at'
       ·exact absurd h0 (by omega)
       have hbz := hbt k hkl
       rw [hzc] at hbz
       clear hbt hzg hzc
       obtain ⟨hk, hsq, hcl, hdg, hst⟩ := rv_part rfl hbz
       clear hbz
       (repeat ((fail_if_success with_reducible refine rg ?_); go_step))
       refine wp_region_pw ?_
       refine pw_mv (by rfl) rfl rfl ?_
       simp only [Act.put, pu]
       refine pw_mv (by rfl) rfl rfl ?_
       simp only [Act.put, pu]
       refine pw_value (by rfl) (.bool true) (exec_leq_i _ _ _ _ rfl ((k : Nat)) ((i : Nat)) rfl rfl true (decide_eq_true h1)) ?_
       simp only [Act.put, pu]
       refine pw_nil ?_
       (repeat ((fail_if_success with_reducible refine rg ?_); go_step))
       refine wp_region_qw (by kernel_rfl) (by kernel_rfl) ?_
       refine qw_move (by rfl) rfl rfl ?_
       simp only [Act.put, pu]
       refine qw_move (by rfl) rfl rfl ?_
       simp only [Act.put, pu]
       refine qw_move (by rfl) rfl rfl ?_
       simp only [Act.put, pu]
       refine qw_value (by rfl) (.pointer (some ⟨gb, ob + k * 4, none⟩)) ((exec_index_s 22 _ _ rfl gb ob (L.length) (c) rfl (k) rfl (hkl) _ Try.underlying22 4 Try.sizeOf34)) ?_
       simp only [Act.put, pu]
       refine qw_value (by rfl) (.pointer (some ⟨gb, ob + k * 4 + 1, none⟩)) (exec_field 34 _ 1 rfl gb (ob + k * 4) rfl _ Try.underlying34 _ rfl 1 Try.sizeOf32) ?_
       simp only [Act.put, pu]
       refine qw_loadmR (by rfl) 32 _ rfl _ (ob + k * 4 + 1) rfl rB ((tsC z.2.1 z.2.2.1)) hst _ Try.underlying32 rfl size_st ?_
       simp only [Act.put, pu]
       refine qw_move (by rfl) rfl rfl ?_
       simp only [Act.put, pu]
       refine qw_move (by rfl) rfl rfl ?_
       simp only [Act.put, pu]
       refine qw_value (by rfl) (.pointer (some ⟨gb, ob + k * 4, none⟩)) ((exec_index_s 22 _ _ rfl gb ob (L.length) (c) rfl (k) rfl (hkl) _ Try.underlying22 4 Try.sizeOf34)) ?_
       simp only [Act.put, pu]
       refine qw_value (by rfl) (.pointer (some ⟨gb, ob + k * 4 + 3, none⟩)) (exec_field 34 _ 2 rfl gb (ob + k * 4) rfl _ Try.underlying34 _ rfl 0 Try.sizeOf9) ?_
       simp only [Act.put, pu]
       refine qw_loadcR (by rfl) 9 _ rfl _ (ob + k * 4 + 3) rfl rB (.string ⟨z.2.2.2.toArray⟩) hdg Try.isAgg9 ?_
       simp only [Act.put, pu]
       refine qw_callK (by rfl) 11 _ _ rfl Try.func11 (by kernel_rfl) #[.pointer (some ⟨g5, 0, none⟩), .agg (tsC z.2.1 z.2.2.1), .string ⟨z.2.2.2.toArray⟩] rfl _ (fun w' hb => hC w' (r5.belowAll hb)) ?_
       simp only [Act.put, pu]
       refine qw_move (by rfl) rfl rfl ?_
       simp only [Act.put, pu]
       refine qw_move (by rfl) rfl rfl ?_
       simp only [Act.put, pu]
       refine qw_move (by rfl) rfl rfl ?_
       simp only [Act.put, pu]
       refine qw_value (by rfl) (.pointer (some ⟨gb, ob + k * 4, none⟩)) ((exec_index_s 22 _ _ rfl gb ob (L.length) (c) rfl (k) rfl (hkl) _ Try.underlying22 4 Try.sizeOf34)) ?_
       simp only [Act.put, pu]
       refine qw_value (by rfl) (.pointer (some ⟨gb, ob + k * 4 + 1, none⟩)) (exec_field 34 _ 1 rfl gb (ob + k * 4) rfl _ Try.underlying34 _ rfl 1 Try.sizeOf32) ?_
       simp only [Act.put, pu]
       refine qw_loadmR (by rfl) 32 _ rfl _ (ob + k * 4 + 1) rfl rB ((tsC z.2.1 z.2.2.1)) hst _ Try.underlying32 rfl size_st ?_
       simp only [Act.put, pu]
       refine qw_move (by rfl) rfl rfl ?_
       simp only [Act.put, pu]
       refine qw_move (by rfl) rfl rfl ?_
       simp only [Act.put, pu]
       refine qw_value (by rfl) (.pointer (some ⟨gb, ob + k * 4, none⟩)) ((exec_index_s 22 _ _ rfl gb ob (L.length) (c) rfl (k) rfl (hkl) _ Try.underlying22 4 Try.sizeOf34)) ?_
       simp only [Act.put, pu]
       refine qw_value (by rfl) (.pointer (some ⟨gb, ob + k * 4 + 3, none⟩)) (exec_field 34 _ 2 rfl gb (ob + k * 4) rfl _ Try.underlying34 _ rfl 0 Try.sizeOf9) ?_
       simp only [Act.put, pu]
       refine qw_loadcR (by rfl) 9 _ rfl _ (ob + k * 4 + 3) rfl rB (.string ⟨z.2.2.2.toArray⟩) hdg Try.isAgg9 ?_
       simp only [Act.put, pu]
       refine qw_callK (by rfl) 12 _ _ rfl Try.func12 (by kernel_rfl) #[.slice a2 M2.length c2, .agg (tsC z.2.1 z.2.2.1), .string ⟨z.2.2.2.toArray⟩] rfl _ (fun w' hb => hD w' (hM2.below hb)) ?_
       simp only [Act.put, pu]
       refine qw_value (by rfl) (.bool false) (exec_neq_k .i64 _ _ _ _ rfl (((u : Nat) : Int)) (((u : Nat) : Int)) rfl rfl false (by rw [decide_eq_true rfl]; rfl)) ?_
       simp only [Act.put, pu]
       refine qw_nil ?_
       intro w9 hqb
       replace r5 := r5.belowAll hqb
       replace hM2 := hM2.belowAll hqb
       replace sb := below_on sb (Nat.le_refl _) hqb
       clear hqb
       clear rB hC hD
       (repeat ((fail_if_success with_reducible refine rg ?_); go_step))
       refine wp_region_pw ?_
       refine pw_value (by rfl) (.int .i64 0) (fun _ => rfl) ?_
       simp only [Act.put, pu]
       refine pw_nil ?_
       go_wp2_with fail
       go_loopg [4, 12, 13, 14, 15, 16] 2 (fun x s4 s12 s13 s14 s15 s16 wr => ∃ o : Nat, o + x = 2 ∧ s12 = .int .i64 o ∧ Row wr g5 (voC (m : Nat) V2) 51 ∧ MdAt g5 wr a2 M2 ∧ Below w.heap.size w wr)
       case atStart => exact ⟨0, by omega, rfl, r5, hM2, sb⟩
       case round =>
        clear sb r5 hM2
        obtain ⟨o, ho, rfl, r5, hM2, sb⟩ := hrel
        cases gk with
        | zero =>
         have h2 : ¬ (o : Int) < 2 := by omega
         (repeat ((fail_if_success with_reducible refine rg ?_); go_step))
         refine wp_region_pw ?_
         refine pw_mv (by rfl) rfl rfl ?_
         simp only [Act.put, pu]
         refine pw_value (by rfl) (.bool false) (exec_lt_b _ _ _ _ rfl (((o : Nat) : Int)) (2) rfl rfl false (decide_eq_false h2)) ?_
         simp only [Act.put, pu]
         refine pw_nil ?_
         (repeat ((fail_if_success with_reducible refine rg ?_); go_step))
         refine wp_region_pw ?_
         refine pw_mv (by rfl) rfl rfl ?_
         simp only [Act.put, pu]
         refine pw_value (by rfl) (.int .i64 (((k + 1 : Nat) : Int))) (x_addz _ _ _ _ rfl ((k : Nat)) (1) (((k + 1 : Nat) : Int)) rfl rfl (by omega) (by omega) (by omega)) ?_
         simp only [Act.put, pu]
         refine pw_as (by rfl) rfl rfl ?_
         simp only [Act.put, pu]
         refine pw_nil ?_
         go_wp2
         go_roundg y2
         case measure => omega
         case rel => exact ⟨k + 1, by omega, rfl, r5, hM2, sb⟩
        | succ y3 =>
         have ho2 : o < 2 := by omega
         have hA' := fun w' r => hA o w' r
         have hE' := fun w' h => hE o ho2 w' h
         obtain ⟨T, hT⟩ : ∃ T, atV (m : Nat) V2 z.1 z.2.2.1 o = T := ⟨_, rfl⟩
         rw [hT] at hA' hE'
         clear hA hE hT
         obtain h0 | ⟨_, rB, _⟩ := (HB.out.below sb).at'
         ·exact absurd h0 (by omega)
         (repeat ((fail_if_success with_reducible refine rg ?_); go_step))
         refine wp_region_pw ?_
         refine pw_mv (by rfl) rfl rfl ?_
         simp only [Act.put, pu]
         refine pw_value (by rfl) (.bool true) (exec_lt_b _ _ _ _ rfl (((o : Nat) : Int)) (2) rfl rfl true (decide_eq_true (by omega))) ?_
         simp only [Act.put, pu]
         refine pw_nil ?_
         (repeat ((fail_if_success with_reducible refine rg ?_); go_step))
         apply wp_region_mix (by kernel_rfl) [] [_, _, _, _, _, _, _, _, _, _, _, _, _, _, _, _, _, _, _, _] trivial List.nodup_nil
         ·intro p
          refine mx_move rfl rfl ?_
          simp only [Act.put, pu]
          refine mx_move rfl rfl ?_
          simp only [Act.put, pu]
          refine mx_move rfl rfl ?_
          simp only [Act.put, pu]
          refine mx_val (.pointer (some ⟨gb, ob + k * 4, none⟩)) ((exec_index_s 22 _ _ rfl gb ob (L.length) (c) rfl (k) rfl (hkl) _ Try.underlying22 4 Try.sizeOf34)) ?_
          simp only [Act.put, pu]
          refine mx_val (.pointer (some ⟨gb, ob + k * 4, none⟩)) (exec_field 34 _ 0 rfl gb (ob + k * 4) rfl _ Try.underlying34 _ rfl 0 Try.sizeOf3) ?_
          simp only [Act.put, pu]
          refine mx_loadcR 3 _ rfl _ (ob + k * 4) rfl rB (by simp <;> omega) (.int .i64 z.1) hk Try.isAgg3 ?_
          simp only [Act.put, pu]
          refine mx_move rfl rfl ?_
          simp only [Act.put, pu]
          refine mx_move rfl rfl ?_
          simp only [Act.put, pu]
          refine mx_val (.pointer (some ⟨gb, ob + k * 4, none⟩)) ((exec_index_s 22 _ _ rfl gb ob (L.length) (c) rfl (k) rfl (hkl) _ Try.underlying22 4 Try.sizeOf34)) ?_
          simp only [Act.put, pu]
          refine mx_val (.pointer (some ⟨gb, ob + k * 4 + 1, none⟩)) (exec_field 34 _ 1 rfl gb (ob + k * 4) rfl _ Try.underlying34 _ rfl 1 Try.sizeOf32) ?_
          simp only [Act.put, pu]
          refine mx_val (.pointer (some ⟨gb, ob + k * 4 + 1 + 1, none⟩)) (exec_field 32 _ 1 rfl gb (ob + k * 4 + 1) rfl _ Try.underlying32 _ rfl 0 Try.sizeOf3) ?_
          simp only [Act.put, pu]
          refine mx_loadcR 3 _ rfl _ (ob + k * 4 + 2) rfl rB (by simp <;> omega) (.int .i64 z.2.2.1) hcl Try.isAgg3 ?_
          simp only [Act.put, pu]
          refine mx_move rfl rfl ?_
          simp only [Act.put, pu]
          refine mx_callK 13 _ _ rfl Try.func13 (by kernel_rfl) #[.pointer (some ⟨g5, 0, none⟩), .int .i64 z.1, .int .i64 z.2.2.1, .int .i64 o] rfl _ (fun w' hk => hA' w' (hk.row r5 (by simp <;> omega))) ?_
          simp only [Act.put, pu]
          refine mx_move rfl rfl ?_
          simp only [Act.put, pu]
          refine mx_ext rfl rfl rfl ?_
          simp only [Act.put, pu]
          refine mx_ext rfl rfl rfl ?_
          simp only [Act.put, pu]
          refine mx_new 32 rfl _ zero_st ?_
          simp only [Act.put, pu]
          refine mx_put 35 32 _ _ rfl rfl rfl (tsC T.1 T.2.1) rfl (by exact size_st) (by rfl) (st_one _ _) ?_
          simp only [Act.put]
          refine mx_asg rfl rfl ?_
          simp only [Act.put, pu]
          refine mx_end ?_
          intro w9 hkw hrw hnew hdis
          have n13 := hnew 17 rfl
          have zr13 : Row w9 (p 17) (tsC T.1 T.2.1) 32 := hrw 35 (32, tsC T.1 T.2.1) rfl
          have d5x13 := Nat.lt_of_lt_of_le r5.lt n13
          replace r5 := hkw.row r5 (by simp <;> omega)
          replace hM2 := hM2.below hkw.nil
          have b13 := Nat.le_trans sb.size n13
          replace sb := sb.trans (hkw.below w.heap.size sb.size (by simp <;> omega))
          clear hkw hrw hnew hdis n13
          generalize p 17 = g13 at *
          have r13 := zr13
          clear zr13
          clear rB
          obtain h0 | ⟨_, rB, _⟩ := (HB.out.below sb).at'
          ·exact absurd h0 (by omega)
          (repeat ((fail_if_success with_reducible refine rg ?_); go_step))
          apply wp_region_mix (by kernel_rfl) [] [_, _, _, _, _, _, _, _, _, _, _, _, _, _, _, _, _, _, _, _] trivial List.nodup_nil
          ·intro p
           refine mx_move rfl rfl ?_
           simp only [Act.put, pu]
           refine mx_move rfl rfl ?_
           simp only [Act.put, pu]
           refine mx_move rfl rfl ?_
           simp only [Act.put, pu]
           refine mx_val (.pointer (some ⟨gb, ob + k * 4, none⟩)) ((exec_index_s 22 _ _ rfl gb ob (L.length) (c) rfl (k) rfl (hkl) _ Try.underlying22 4 Try.sizeOf34)) ?_
           simp only [Act.put, pu]
           refine mx_val (.pointer (some ⟨gb, ob + k * 4, none⟩)) (exec_field 34 _ 0 rfl gb (ob + k * 4) rfl _ Try.underlying34 _ rfl 0 Try.sizeOf3) ?_
           simp only [Act.put, pu]
           refine mx_loadcR 3 _ rfl _ (ob + k * 4) rfl rB (by simp <;> omega) (.int .i64 z.1) hk Try.isAgg3 ?_
           simp only [Act.put, pu]
           refine mx_move rfl rfl ?_
           simp only [Act.put, pu]
           refine mx_move rfl rfl ?_
           simp only [Act.put, pu]
           refine mx_val (.pointer (some ⟨gb, ob + k * 4, none⟩)) ((exec_index_s 22 _ _ rfl gb ob (L.length) (c) rfl (k) rfl (hkl) _ Try.underlying22 4 Try.sizeOf34)) ?_
           simp only [Act.put, pu]
           refine mx_val (.pointer (some ⟨gb, ob + k * 4 + 1, none⟩)) (exec_field 34 _ 1 rfl gb (ob + k * 4) rfl _ Try.underlying34 _ rfl 1 Try.sizeOf32) ?_
           simp only [Act.put, pu]
           refine mx_val (.pointer (some ⟨gb, ob + k * 4 + 1 + 1, none⟩)) (exec_field 32 _ 1 rfl gb (ob + k * 4 + 1) rfl _ Try.underlying32 _ rfl 0 Try.sizeOf3) ?_
           simp only [Act.put, pu]
           refine mx_loadcR 3 _ rfl _ (ob + k * 4 + 2) rfl rB (by simp <;> omega) (.int .i64 z.2.2.1) hcl Try.isAgg3 ?_
           simp only [Act.put, pu]
           refine mx_move rfl rfl ?_
           simp only [Act.put, pu]
           refine mx_callK 14 _ _ rfl Try.func14 (by kernel_rfl) #[.slice a2 M2.length c2, .int .i64 z.1, .int .i64 z.2.2.1, .int .i64 o] rfl _ (fun w' hk => hE' w' (hM2.below hk.nil)) ?_
           simp only [Act.put, pu]
           refine mx_move rfl rfl ?_
           simp only [Act.put, pu]
           refine mx_ext rfl rfl rfl ?_
           simp only [Act.put, pu]
           refine mx_ext rfl rfl rfl ?_
           simp only [Act.put, pu]
           refine mx_new 32 rfl _ zero_st ?_
           simp only [Act.put, pu]
           refine mx_put 35 32 _ _ rfl rfl rfl (tsC T.1 T.2.1) rfl (by exact size_st) (by rfl) (st_one _ _) ?_
           simp only [Act.put]
           refine mx_asg rfl rfl ?_
           simp only [Act.put, pu]
           refine mx_end ?_
           intro w6 hkw hrw hnew hdis
           have n15 := hnew 17 rfl
           have zr15 : Row w6 (p 17) (tsC T.1 T.2.1) 32 := hrw 35 (32, tsC T.1 T.2.1) rfl
           have d5x15 := Nat.lt_of_lt_of_le r5.lt n15
           have d13x15 := Nat.lt_of_lt_of_le r13.lt n15
           replace r5 := hkw.row r5 (by simp <;> omega)
           replace r13 := hkw.row r13 (by simp <;> omega)
           replace hM2 := hM2.below hkw.nil
           have b15 := Nat.le_trans sb.size n15
           replace sb := sb.trans (hkw.below w.heap.size sb.size (by simp <;> omega))
           clear hkw hrw hnew hdis n15
           generalize p 17 = g15 at *
           have r15 := zr15
           clear zr15
           (repeat ((fail_if_success with_reducible refine rg ?_); go_step))
           refine wp_region_pw ?_
           refine pw_loadm (by rfl) 32 _ rfl _ 0 rfl r13.r _ (part_all _) _ Try.underlying32 rfl size_st ?_
           simp only [Act.put, pu]
           refine pw_loadm (by rfl) 32 _ rfl _ 0 rfl r15.r _ (part_all _) _ Try.underlying32 rfl size_st ?_
           simp only [Act.put, pu]
           refine pw_value (by rfl) (.bool false) (exec_neq_st _ _ _ rfl T.1 T.2.1 T.1 T.2.1 rfl rfl false (by simp)) ?_
           simp only [Act.put, pu]
           refine pw_mv (by rfl) rfl rfl ?_
           simp only [Act.put, pu]
           refine pw_mv (by rfl) rfl rfl ?_
           simp only [Act.put, pu]
           refine pw_mv (by rfl) rfl rfl ?_
           simp only [Act.put, pu]
           refine pw_value (by rfl) (.bool false) (y_neS _ _ _ _ rfl T.2.2 T.2.2 rfl rfl false (decide_eq_true rfl)) ?_
           simp only [Act.put, pu]
           refine pw_pick (by rfl) false (v := .bool false) rfl rfl rfl ?_
           simp only [Act.put, pu]
           refine pw_nil ?_
           (repeat ((fail_if_success with_reducible refine rg ?_); go_step))
           refine wp_region_pw ?_
           refine pw_mv (by rfl) rfl rfl ?_
           simp only [Act.put, pu]
           refine pw_value (by rfl) (.int .i64 (((o + 1 : Nat) : Int))) (x_addz _ _ _ _ rfl (((o : Nat) : Int)) (1) (((o + 1 : Nat) : Int)) rfl rfl (by omega) (by omega) (by omega)) ?_
           simp only [Act.put, pu]
           refine pw_as (by rfl) rfl rfl ?_
           simp only [Act.put, pu]
           refine pw_nil ?_
           go_wp2
           go_roundg y3
           case measure => omega
           case rel => exact ⟨o + 1, by omega, rfl, r5, hM2, sb⟩
          ·kernel_rfl
         ·kernel_rfl
    ·kernel_rfl
set_option maxRecDepth 100000 in
theorem lifted (os : Os) (started : os.Started) (H : Type) (enc : TypeId × Value → H) :
  ReturnsInHanded {} Try.checked os 3 .any (Rows.votesPlaySpec.pre6 enc Try.prog Try.f3 Rows.votesPlayRow.domain false) (Rows.votesPlaySpec.post enc Try.prog Try.f3 false true false false) := by
 refine returnsInHanded_of_change (C := Try.checked) own started (by kernel_rfl) Try.func3
  (ChangeSpec.witness6 (enc := enc) (C := Try.checked) false ⟨#[], #[.int .i64 0, .slice none 0 0], []⟩ 8 (by kernel_rfl) (by kernel_rfl) (by kernel_rfl) (by kernel_rfl)) ?_
 intro W base args ds gs before hval0 hW hcnd _
 have hval : ∀ (j : Nat) t v, Try.f3.params[j]? = some t → args[j]? = some v → Value.okWide Try.prog W .any base t v := hval0
 have hW' := hW
 obtain ⟨p, q, hA0, hV, rfl, hfz, hnd⟩ := hW
 have hA : DataW.TrodAll enc Try.prog W 0 (fun _ => true) true Try.f3.params.toList args.toList ds p := hA0
 rw [Try.params3] at hA hval
 obtain ⟨v0, vs0, d0, ds0, p0, q0, hargs, rfl, rfl, h0, r0⟩ := trodAll_cons hA
 obtain ⟨v1, vs1, d1, ds1, p1, q1, rfl, rfl, rfl, h1, r1⟩ := trodAll_cons r0
 obtain ⟨rfl, rfl, rfl⟩ := trodAll_nil r1
 obtain rfl : args = #[v0, v1] := by cases args; simp_all
 obtain ⟨rfl, rfl⟩ := trodVars_none hV
 have k0 := h0
 have lt0 := lt_of_trod h0
 obtain ⟨a0, rfl, rfl, rfl, w0⟩ := open_int Try.underlying3 (hval 0 3 v0 rfl rfl) h0
 have k1 := h1
 have lt1 := lt_of_trod h1
 obtain ⟨ab1, c1, L1, gb1, ob1, bcs1, tb1, rfl, hn1, hz1⟩ := open_rvs (hval 1 22 v1 rfl rfl) h1
 clear hA0 hval0
 refine (walk a0 ab1 c1 L1 gb1 ob1 bcs1 tb1 W (bounds_i64 w0) hn1 hz1).mono fun e W' ⟨he, bel⟩ => ?_
 subst he
 exact ⟨_, rfl, _, _, _, [], _, [], hW', trodAll_mk1 (shut_bool Try.underlying4 _), (trodAll_cons_mk (Below.trod laidOut (by kernel_rfl) (of_decide_eq_true (by kernel_rfl)) k0 bel lt0) (trodAll_cons_mk (Below.trod laidOut (by kernel_rfl) (of_decide_eq_true (by kernel_rfl)) k1 bel lt1) trodAll_mk0)), rfl, bel.frame _, fun h => by cases h⟩
theorem over : Rows.votesPlayRow.holds Try.pinned (OpenSpec.ofChange Rows.votesPlaySpec) :=
 OpenClaim.holds_of_wide 3 Try.f3 rfl rfl rfl rfl rfl rfl rfl ⟨rfl, rfl, rfl, rfl, rfl⟩ rfl rfl rfl rfl rfl (by kernel_rfl) Try.func3 (by kernel_rfl)
  (of_decide_eq_true (by kernel_rfl)) (by unfold Func.isWrapper; first | (rw [if_pos (by decide +kernel)]; kernel_rfl) | (rw [if_neg (by decide +kernel)]; exact ⟨rfl, rfl⟩))
  (fun os started H enc _ => lifted os started H enc)
end votesPlayP
/-- for any number of servers and any votes, up to 40 of few bytes: Put, Count and At answer as the document says; no condition. -/
theorem votesPlay_holds : Rows.VotesPlaySaid := votesPlayP.over
end Go.Proofs.Ytdbcikhineghcaa
