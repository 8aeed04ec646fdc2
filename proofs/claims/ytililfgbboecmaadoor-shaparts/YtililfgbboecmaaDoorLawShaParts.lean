/- The law ShaParts of layer 5 holds for every input: however bytes are parted, the digest is the same, told at any time. No condition (the constants are tied to the program's text). -/
import Derived.Test.YtililfgbboecmaaDoorSFew
import Derived.Test.YtililfgbboecmaaDoorSRSum
namespace Go.Proofs.YtililfgbboecmaaDoor.shaPartsP
open Go.ChangeShapes Go.WideShapes Go.ChangeAt Go.RowKit
set_option linter.unusedVariables false

/-- The texts, one behind the other. -/
def catS (S : Nat → List UInt8) : Nat → List UInt8
  | 0 => []
  | i + 1 => catS S i ++ S i
theorem catS_length (S : Nat → List UInt8) (n : Nat) (h : ∀ i, i < n → (S i).length ≤ 256) : ∀ i, i ≤ n → (catS S i).length ≤ 256 * i
  | 0, _ => Nat.zero_le _
  | i + 1, hi => by
    show (catS S i ++ S i).length ≤ _
    rw [List.length_append]
    have h1 := catS_length S n h i (by omega)
    have h2 := h i (by omega)
    omega
set_option maxRecDepth 100000 in
set_option maxHeartbeats 2000000 in
theorem walk (ab : Option Addr) (n cb : Nat) (S : Nat → List UInt8) (gb ob : Nat) (bcs : Array Value) (tb : TypeId) (w : World) (hn : n ≤ maxLen) (hS : StrsAt w ab n S gb ob bcs tb) (kT : KT w) :
    Calls Tryd.prog 4 #[.slice ab n cb] w fun e w' => e = .returned (.bool true) ∧ Below w.heap.size w w' := by
  have k0 := kT.lt
  go_enter Tryd.func4, Tryd.ntmps4
  go_wp2_with fail
  refine (few_any ab n cb S gb ob bcs tb _ hn hS).mono ?_
  rintro _ w2 ⟨b, rfl, hfew, sb⟩
  dsimp only
  cases b with
  | false =>
    clear hfew
    go_wp2_with fail
    refine (awake5_any _ (kT.below sb)).mono ?_
    rintro _ w3 ⟨rfl, bb⟩
    replace sb := below_on sb (Nat.le_refl _) bb
    dsimp only
    go_wp2
    go_ret
    exact ⟨rfl, sb⟩
  | true =>
    have HF : Hid (n ≤ 20 ∧ ∀ i, i < n → (S i).length ≤ 256) := hfew rfl
    clear hfew hn
    go_wp2_with fail
    refine (new_any _).mono ?_
    rintro _ w3 ⟨g0, rfl, hg0, r0, bb⟩
    have hg : w.heap.size ≤ g0 := Nat.le_trans sb.size hg0
    replace sb := below_on sb (Nat.le_refl _) bb
    clear bb hg0
    dsimp only
    (repeat ((fail_if_success (with_reducible show Code.wp _ (Code.region _ _ _) _ _ _)); go_step))
    refine wp_region_qp ?_
    refine qw_move (by rfl) rfl rfl ?_
    simp only [Act.put, pb, pc, pd]
    refine qw_value (by rfl) (.bool false) (x_nilp _ _ _ _ rfl (some ⟨g0, 0, none⟩) rfl rfl _ Tryd.underlying27) ?_
    simp only [Act.put, pb, pc, pd]
    refine qw_nil ?_
    intro w4 hqb
    replace r0 := r0.belowAll hqb
    replace sb := below_on sb (Nat.le_refl _) hqb
    clear hqb
    have H0 : Row w4 g0 (hC true (sw (catS S 0)) (fun _ => 0) (catS S 0).length) 39 := r0
    have H1 := sb
    have HZ : Hid (StrsAt w ab n S gb ob bcs tb) := hS
    have HK : Hid (KT w ∧ w.heap.size ≤ g0 ∧ 0 < w.heap.size) := ⟨kT, hg, k0⟩
    clear r0 sb hS kT hg k0
    go_wp2_with fail
    go_loopg [4, 5] n (fun g s4 s5 wr => ∃ i B, i + g = n ∧ s5 = .int .i64 (i : Nat) ∧ s4 = .string ⟨(catS S i).toArray⟩ ∧ HS (catS S i) B ∧ Row wr g0 (hC true (sw (catS S i)) B (catS S i).length) 39 ∧ Below w.heap.size w wr)
    case atStart => exact ⟨0, _, by omega, rfl, rfl, hs_nil, H0, H1⟩
    case round =>
      obtain ⟨i, B, hi, rfl, rfl, hB, r0, sb⟩ := hrel
      obtain ⟨kT, hg, k0⟩ := HK.out
      obtain ⟨hn20, hlen⟩ := HF.out
      have hci := catS_length S n hlen i (by omega)
      clear H0 H1
      cases gk with
      | zero =>
        obtain rfl : i = n := by omega
        clear hi
        (repeat ((fail_if_success (with_reducible show Code.wp _ (Code.region _ _ _) _ _ _)); go_step))
        refine wp_region_qp ?_
        refine qw_move (by rfl) rfl rfl ?_
        simp only [Act.put, pb, pc, pd]
        refine qw_move (by rfl) rfl rfl ?_
        simp only [Act.put, pb, pc, pd]
        refine qw_value (by rfl) (.int .i64 (i : Nat)) (x_lenL _ _ rfl _ _ _ rfl Tryd.underlying25) ?_
        simp only [Act.put, pb, pc, pd]
        refine qw_value (by rfl) (.bool false) (x_lt _ _ _ _ rfl i i rfl rfl false (decide_eq_false (by omega))) ?_
        simp only [Act.put, pb, pc, pd]
        refine qw_nil ?_
        intro w5 hqb
        replace r0 := r0.belowAll hqb
        replace sb := below_on sb (Nat.le_refl _) hqb
        clear hqb
        have kT2 := kT.below sb
        generalize catS S i = l at *
        (repeat ((fail_if_success (with_reducible show Code.wp _ (Code.region _ _ _) _ _ _)); go_step))
        refine wp_region_qp ?_
        refine qw_move (by rfl) rfl rfl ?_
        simp only [Act.put, pb, pc, pd]
        refine qw_callK (by rfl) 13 _ _ rfl Tryd.func13 (by kernel_rfl) #[.pointer (some ⟨g0, 0, none⟩)] rfl _ (fun w' hb => hsum_any l B g0 w' (by omega) hB (r0.belowAll hb) (kT2.below hb)) ?_
        simp only [Act.put, pb, pc, pd]
        refine qw_move (by rfl) rfl rfl ?_
        simp only [Act.put, pb, pc, pd]
        refine qw_callK (by rfl) 8 _ _ rfl Tryd.func8 (by kernel_rfl) #[.string ⟨(l).toArray⟩] rfl _ (fun w' hb => ssum_any l w' (by omega) (kT2.below hb)) ?_
        simp only [Act.put, pb, pc, pd]
        refine qw_value (by rfl) (.bool true) (exec_eql_str _ _ _ _ rfl _ rfl rfl) ?_
        simp only [Act.put, pb, pc, pd]
        refine qw_move (by rfl) rfl rfl ?_
        simp only [Act.put, pb, pc, pd]
        refine qw_move (by rfl) rfl rfl ?_
        simp only [Act.put, pb, pc, pd]
        refine qw_callK (by rfl) 13 _ _ rfl Tryd.func13 (by kernel_rfl) #[.pointer (some ⟨g0, 0, none⟩)] rfl _ (fun w' hb => hsum_any l B g0 w' (by omega) hB (r0.belowAll hb) (kT2.below hb)) ?_
        simp only [Act.put, pb, pc, pd]
        refine qw_move (by rfl) rfl rfl ?_
        simp only [Act.put, pb, pc, pd]
        refine qw_callK (by rfl) 8 _ _ rfl Tryd.func8 (by kernel_rfl) #[.string ⟨(l).toArray⟩] rfl _ (fun w' hb => ssum_any l w' (by omega) (kT2.below hb)) ?_
        simp only [Act.put, pb, pc, pd]
        refine qw_value (by rfl) (.bool true) (exec_eql_str _ _ _ _ rfl _ rfl rfl) ?_
        simp only [Act.put, pb, pc, pd]
        refine qw_pick true (v := .bool true) (by rfl) rfl rfl rfl ?_
        simp only [Act.put, pb, pc, pd]
        refine qw_move (by rfl) rfl rfl ?_
        simp only [Act.put, pb, pc, pd]
        refine qw_callK (by rfl) 7 _ _ rfl Tryd.func7 (by kernel_rfl) #[] rfl _ (fun w' hb => awake5_any w' (kT2.below hb)) ?_
        simp only [Act.put, pb, pc, pd]
        refine qw_pick true (v := .bool true) (by rfl) rfl rfl rfl ?_
        simp only [Act.put, pb, pc, pd]
        refine qw_asg (by rfl) rfl rfl ?_
        simp only [Act.put, pb, pc, pd]
        refine qw_nil ?_
        intro w6 hqb
        replace sb := below_on sb (Nat.le_refl _) hqb
        clear hqb
        go_wp2
        go_ret
        exact ⟨rfl, sb⟩
      | succ g =>
        have hin : i < n := by omega
        have hsi := hlen i hin
        have hcat : catS S (i + 1) = catS S i ++ S i := rfl
        (repeat ((fail_if_success (with_reducible show Code.wp _ (Code.region _ _ _) _ _ _)); go_step))
        refine wp_region_qp ?_
        refine qw_move (by rfl) rfl rfl ?_
        simp only [Act.put, pb, pc, pd]
        refine qw_move (by rfl) rfl rfl ?_
        simp only [Act.put, pb, pc, pd]
        refine qw_value (by rfl) (.int .i64 (n : Nat)) (x_lenL _ _ rfl _ _ _ rfl Tryd.underlying25) ?_
        simp only [Act.put, pb, pc, pd]
        refine qw_value (by rfl) (.bool true) (x_lt _ _ _ _ rfl i n rfl rfl true (decide_eq_true (by omega))) ?_
        simp only [Act.put, pb, pc, pd]
        refine qw_nil ?_
        intro w5 hqb
        replace r0 := r0.belowAll hqb
        replace sb := below_on sb (Nat.le_refl _) hqb
        clear hqb
        obtain h0 | ⟨rfl, rB, hat⟩ := (HZ.out.below sb).out
        · omega
        have lB : gb < w.heap.size := by
          obtain h0 | ⟨_, rB0, _⟩ := HZ.out.out
          · omega
          · exact rB0.lt
        have hne : gb ≠ g0 := by omega
        (repeat ((fail_if_success (with_reducible show Code.wp _ (Code.region _ _ _) _ _ _)); go_step))
        refine wp_region_pw ?_
        refine pw_move (by rfl) (.inl rfl) rfl ?_
        simp only [Act.put, pb, pc, pd]
        refine pw_move (by rfl) (.inl rfl) rfl ?_
        simp only [Act.put, pb, pc, pd]
        refine pw_move (by rfl) (.inl rfl) rfl ?_
        simp only [Act.put, pb, pc, pd]
        refine pw_value (by rfl) (.pointer (some ⟨gb, ob + i, none⟩)) (x_idxS _ _ _ rfl gb ob n cb rfl i rfl hin _ Tryd.underlying25 Tryd.sizeOf9 _ rfl) ?_
        simp only [Act.put, pb, pc, pd]
        refine pw_loadc (by rfl) 9 _ rfl gb (ob + i) rfl rB (.string ⟨(S i).toArray⟩) (hat i hin) Tryd.isAgg9 ?_
        simp only [Act.put, pb, pc, pd]
        refine pw_callP (by rfl) 12 _ _ rfl Tryd.func12 (by kernel_rfl) #[.pointer (some ⟨g0, 0, none⟩), .string ⟨(S i).toArray⟩] rfl _ (add_any (catS S i) (S i) B g0 _ (by rw [List.length_append]; omega) hB r0 (kT.below sb) (by omega)) ?_
        rintro _ w7 ⟨rfl, B2, hB2, r2, sk⟩
        refine ⟨_, rfl, ?_⟩
        replace rB := sk.rowR rB (by simpa using hne)
        replace sb := sb.trans (sk.below w.heap.size sb.size (by simpa using hg))
        clear sk r0 hB
        simp only [Act.put, pb, pc, pd]
        refine pw_nil ?_
        (repeat ((fail_if_success (with_reducible show Code.wp _ (Code.region _ _ _) _ _ _)); go_step))
        refine wp_region_qp ?_
        refine qw_move (by rfl) rfl rfl ?_
        simp only [Act.put, pb, pc, pd]
        refine qw_move (by rfl) rfl rfl ?_
        simp only [Act.put, pb, pc, pd]
        refine qw_move (by rfl) rfl rfl ?_
        simp only [Act.put, pb, pc, pd]
        refine qw_value (by rfl) (.pointer (some ⟨gb, ob + i, none⟩)) (x_idxS _ _ _ rfl gb ob n cb rfl i rfl hin _ Tryd.underlying25 Tryd.sizeOf9 _ rfl) ?_
        simp only [Act.put, pb, pc, pd]
        refine qw_loadcR (by rfl) 9 _ rfl _ (ob + i) rfl rB (.string ⟨(S i).toArray⟩) (hat i hin) Tryd.isAgg9 ?_
        simp only [Act.put, pb, pc, pd]
        refine qw_value (by rfl) (.string ⟨(catS S i ++ S i).toArray⟩) (x_cat _ _ _ _ rfl (catS S i) (S i) rfl rfl (by omega)) ?_
        simp only [Act.put, pb, pc, pd]
        refine qw_asg (by rfl) rfl rfl ?_
        simp only [Act.put, pb, pc, pd]
        refine qw_nil ?_
        intro w8 hqb
        replace r2 := r2.belowAll hqb
        replace sb := below_on sb (Nat.le_refl _) hqb
        clear hqb
        have kT2 := kT.below sb
        have hl2 : (catS S i ++ S i).length ≤ 5120 := by rw [List.length_append]; omega
        generalize hL : catS S i ++ S i = l at *
        by_cases h3 : i % 3 = 0
        · (repeat ((fail_if_success (with_reducible show Code.wp _ (Code.region _ _ _) _ _ _)); go_step))
          refine wp_region_qp ?_
          refine qw_move (by rfl) rfl rfl ?_
          simp only [Act.put, pb, pc, pd]
          refine qw_value (by rfl) (.int .i64 (i % 3 : Nat)) (exec_rem_i _ _ _ _ rfl i 3 rfl rfl (by omega)) ?_
          simp only [Act.put, pb, pc, pd]
          refine qw_value (by rfl) (.bool true) (x_eqI _ _ _ _ rfl .i64 (i % 3 : Nat) 0 rfl rfl true (decide_eq_true (by omega))) ?_
          simp only [Act.put, pb, pc, pd]
          refine qw_move (by rfl) rfl rfl ?_
          simp only [Act.put, pb, pc, pd]
          refine qw_move (by rfl) rfl rfl ?_
          simp only [Act.put, pb, pc, pd]
          refine qw_callK (by rfl) 13 _ _ rfl Tryd.func13 (by kernel_rfl) #[.pointer (some ⟨g0, 0, none⟩)] rfl _ (fun w' hb => hsum_any l B2 g0 w' (by omega) hB2 (r2.belowAll hb) (kT2.below hb)) ?_
          simp only [Act.put, pb, pc, pd]
          refine qw_move (by rfl) rfl rfl ?_
          simp only [Act.put, pb, pc, pd]
          refine qw_callK (by rfl) 8 _ _ rfl Tryd.func8 (by kernel_rfl) #[.string ⟨(l).toArray⟩] rfl _ (fun w' hb => ssum_any l w' (by omega) (kT2.below hb)) ?_
          simp only [Act.put, pb, pc, pd]
          refine qw_value (by rfl) (.bool false) (x_neS _ _ _ _ rfl _ rfl rfl) ?_
          simp only [Act.put, pb, pc, pd]
          refine qw_pick true (v := .bool false) (by rfl) rfl rfl rfl ?_
          simp only [Act.put, pb, pc, pd]
          refine qw_nil ?_
          intro w9 hqb
          replace r2 := r2.belowAll hqb
          replace sb := below_on sb (Nat.le_refl _) hqb
          clear hqb
          (repeat ((fail_if_success (with_reducible show Code.wp _ (Code.region _ _ _) _ _ _)); go_step))
          refine wp_region_qp ?_
          refine qw_move (by rfl) rfl rfl ?_
          simp only [Act.put, pb, pc, pd]
          refine qw_value (by rfl) (.int .i64 (i + 1 : Nat)) (xi_add _ _ _ _ rfl i 1 rfl rfl (by omega)) ?_
          simp only [Act.put, pb, pc, pd]
          refine qw_asg (by rfl) rfl rfl ?_
          simp only [Act.put, pb, pc, pd]
          refine qw_nil ?_
          intro w10 hqb
          replace r2 := r2.belowAll hqb
          replace sb := below_on sb (Nat.le_refl _) hqb
          clear hqb
          clear hn20 hlen hin hsi h3 hl2 hci
          go_wp2
          go_roundg g
          case measure => omega
          case rel => exact ⟨i + 1, B2, by omega, rfl, by rw [hcat], by rw [hcat]; exact hB2, by rw [hcat]; exact r2, sb⟩
        · (repeat ((fail_if_success (with_reducible show Code.wp _ (Code.region _ _ _) _ _ _)); go_step))
          refine wp_region_qp ?_
          refine qw_move (by rfl) rfl rfl ?_
          simp only [Act.put, pb, pc, pd]
          refine qw_value (by rfl) (.int .i64 (i % 3 : Nat)) (exec_rem_i _ _ _ _ rfl i 3 rfl rfl (by omega)) ?_
          simp only [Act.put, pb, pc, pd]
          refine qw_value (by rfl) (.bool false) (x_eqI _ _ _ _ rfl .i64 (i % 3 : Nat) 0 rfl rfl false (decide_eq_false (by omega))) ?_
          simp only [Act.put, pb, pc, pd]
          refine qw_move (by rfl) rfl rfl ?_
          simp only [Act.put, pb, pc, pd]
          refine qw_skip (by rfl) ?_
          simp only [Act.put, pb, pc, pd]
          refine qw_skip (by rfl) ?_
          simp only [Act.put, pb, pc, pd]
          refine qw_skip (by rfl) ?_
          simp only [Act.put, pb, pc, pd]
          refine qw_skip (by rfl) ?_
          simp only [Act.put, pb, pc, pd]
          refine qw_skip (by rfl) ?_
          simp only [Act.put, pb, pc, pd]
          refine qw_pick false (v := .bool false) (by rfl) rfl rfl rfl ?_
          simp only [Act.put, pb, pc, pd]
          refine qw_nil ?_
          intro w9 hqb
          replace r2 := r2.belowAll hqb
          replace sb := below_on sb (Nat.le_refl _) hqb
          clear hqb
          (repeat ((fail_if_success (with_reducible show Code.wp _ (Code.region _ _ _) _ _ _)); go_step))
          refine wp_region_qp ?_
          refine qw_move (by rfl) rfl rfl ?_
          simp only [Act.put, pb, pc, pd]
          refine qw_value (by rfl) (.int .i64 (i + 1 : Nat)) (xi_add _ _ _ _ rfl i 1 rfl rfl (by omega)) ?_
          simp only [Act.put, pb, pc, pd]
          refine qw_asg (by rfl) rfl rfl ?_
          simp only [Act.put, pb, pc, pd]
          refine qw_nil ?_
          intro w10 hqb
          replace r2 := r2.belowAll hqb
          replace sb := below_on sb (Nat.le_refl _) hqb
          clear hqb
          clear hn20 hlen hin hsi h3 hl2 hci
          go_wp2
          go_roundg g
          case measure => omega
          case rel => exact ⟨i + 1, B2, by omega, rfl, by rw [hcat], by rw [hcat]; exact hB2, by rw [hcat]; exact r2, sb⟩
set_option maxRecDepth 100000 in
theorem lifted (os : Os) (started : os.Started) (H : Type) (enc : TypeId × Value → H) :
    ReturnsInHanded {} Tryd.checked os 4 .any (fun w args => (Rows.shaPartsSpec.pre enc Tryd.prog Tryd.f4 [] false w args ∧ laidMetH Tryd.prog lk w) ∧ sizedMet enc Tryd.prog Tryd.f4 (OpenSpec.ofChange Rows.shaPartsSpec) false w args)
      (Rows.shaPartsSpec.post enc Tryd.prog Tryd.f4 false true false false) := by
  refine returnsInHanded_of_change_and (C := Tryd.checked) (X := fun w _ => laidMetH Tryd.prog lk w) (fun _ _ _ hh h => h.of_heap hh) own started (by kernel_rfl) Tryd.func4
    (ChangeSpec.witness_shaped (enc := enc) (C := Tryd.checked) (os := os) (X := fun w _ => laidMetH Tryd.prog lk w) false (World.doorLaid Tryd.prog 14 os) #[.slice none 0 0] 8 rfl (World.shaped_of_RefB (by kernel_rfl) (by kernel_rfl)) (by kernel_rfl) (by kernel_rfl) (by kernel_rfl) (door_met os _)) ?_
  intro W base args ds gs before hval0 hW _ _ hL _
  have hval : ∀ (j : Nat) t v, Tryd.f4.params[j]? = some t → args[j]? = some v → Value.okWide Tryd.prog W .any base t v := hval0
  have hW' := hW
  obtain ⟨p, q, hA0, hV, rfl, hfz, hnd⟩ := hW
  have hA : DataW.TrodAll enc Tryd.prog W 0 (fun _ => true) true Tryd.f4.params.toList args.toList ds p := hA0
  rw [Tryd.params4] at hA hval
  obtain ⟨v0, vs0, d0, ds0, p0, q0, hargs, rfl, rfl, h0, r0⟩ := trodAll_cons hA
  obtain ⟨rfl, rfl, rfl⟩ := trodAll_nil r0
  obtain rfl : args = #[v0] := by cases args; simp_all
  obtain ⟨rfl, rfl⟩ := trodVars_none hV
  have k0 := h0
  have lt0 := lt_of_trod h0
  obtain ⟨ab, m0, c0, rfl, hmm, S, gb, ob, bcs, tb, hst⟩ := open_strs (hval 0 25 v0 rfl rfl) h0
  clear hA0 hval0
  refine (walk ab m0 c0 S gb ob bcs tb W hmm hst (kt_of_laid hL)).mono fun e W' ⟨he, bel⟩ => ?_
  subst he
  exact ⟨_, rfl, _, _, _, [], _, [], hW', trodAll_mk1 (shut_bool Tryd.underlying4 _), (trodAll_cons_mk (Below.trod laidOut (by kernel_rfl) (of_decide_eq_true (by kernel_rfl)) k0 bel lt0) trodAll_mk0), rfl, bel.frame _, fun h => by cases h⟩

theorem over : Rows.shaPartsRow.holds Tryd.pinned (OpenSpec.ofChange Rows.shaPartsSpec) :=
  OpenClaim.holds_of_wide 4 Tryd.f4 rfl rfl rfl rfl rfl rfl rfl ⟨rfl, rfl, rfl, rfl, rfl⟩ rfl rfl rfl rfl rfl (by kernel_rfl) Tryd.func4 (by kernel_rfl)
    (of_decide_eq_true (by kernel_rfl)) (by unfold Func.isWrapper; first | (rw [if_pos (by decide +kernel)]; kernel_rfl) | (rw [if_neg (by decide +kernel)]; exact ⟨rfl, rfl⟩))
    (fun os started H enc _ => lifted os started H enc)
theorem card : Claim7.holds Tryd.pinned (.plain (OpenSpec.ofChange Rows.shaPartsSpec)) Rows.shaPartsCard :=
  Claim7.holds_tied_plain_at .later [] [.data] true (true, "55ac4c8893cee18253393530f53de7e00f0cbd6ba2f675234ff54c3dfea35bdd") false
    over (fun _ h => by cases h) (by kernel_rfl) (fun _ h => by cases h) shaParts_row_tie rfl ⟨rfl, rfl⟩ (by kernel_rfl) rfl
    (fun f fn hf hfn => by
      obtain rfl : f = 4 := Option.some.inj ((show Tryd.prog.funcNamed "sacristy/sacristylaw05.ShaParts" = some 4 by kernel_rfl).symm.trans hf) |>.symm
      obtain rfl : fn = Tryd.f4 := (Option.some.inj (Tryd.func4.symm.trans hfn)).symm
      exact ⟨by kernel_rfl, fun j t ht => by
        rw [Tryd.params4] at ht
        have hm : t ∈ [25] := by simpa using Array.mem_of_getElem? ht
        have hall : ([25].all fun u => !Tryd.prog.wantsStandIn u) = true := by kernel_rfl
        exact (show Tryd.prog.wantsStandIn t = false by simpa using List.all_eq_true.1 hall t hm)⟩)
    (by kernel_rfl)
end Go.Proofs.YtililfgbboecmaaDoor.shaPartsP
namespace Go.Proofs.YtililfgbboecmaaDoor
theorem shaParts_holds : Rows.ShaPartsCardSaid := shaPartsP.card
end Go.Proofs.YtililfgbboecmaaDoor
