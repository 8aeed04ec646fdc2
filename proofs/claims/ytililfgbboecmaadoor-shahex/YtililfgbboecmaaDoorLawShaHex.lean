/- The law ShaHex of layer 5 holds for every input: sha.Hex answers the document's digits; a digest of nobody tells nothing. No condition (the constants are tied to the program's text). -/
import Derived.Test.YtililfgbboecmaaDoorSLaid
import Derived.Test.YtililfgbboecmaaDoorSRHex
namespace Go.Proofs.YtililfgbboecmaaDoor.shaHexP
open Go.ChangeShapes Go.WideShapes Go.ChangeAt Go.RowKit
open Go.ChangeMaps (open_string shut_string)
set_option linter.unusedVariables false

set_option maxRecDepth 100000 in
set_option maxHeartbeats 2000000 in
theorem add_nil (s : ByteArray)  (w : World)  : Calls Tryd.prog 12 #[.pointer none, .string s] w fun e w' => e = .returned (.tuple #[]) ∧ Below w.heap.size w w' := by
  have sb := Below.refl w.heap.size w
  go_enter Tryd.func12, Tryd.ntmps12
  (repeat ((fail_if_success (with_reducible show Code.wp _ (Code.region _ _ _) _ _ _)); go_step))
  refine wp_region_qp ?_
  refine qw_move (by rfl) rfl rfl ?_
  simp only [Act.put, pb, pc, pd]
  refine qw_value (by rfl) (.bool true) (x_nilp _ _ _ _ rfl none rfl rfl _ Tryd.underlying27) ?_
  simp only [Act.put, pb, pc, pd]
  refine qw_move (by rfl) rfl rfl ?_
  simp only [Act.put, pb, pc, pd]
  refine qw_skip (by rfl) ?_
  simp only [Act.put, pb, pc, pd]
  refine qw_skip (by rfl) ?_
  simp only [Act.put, pb, pc, pd]
  refine qw_skip (by rfl) ?_
  simp only [Act.put, pb, pc, pd]
  refine qw_skip (by rfl) ?_
  simp only [Act.put, pb, pc, pd]
  refine qw_skip (by rfl) ?_
  simp only [Act.put, pb, pc, pd]
  refine qw_pick true (v := .bool true) (by rfl) rfl rfl rfl ?_
  simp only [Act.put, pb, pc, pd]
  refine qw_nil ?_
  intro w2 hqb
  replace sb := below_on sb (Nat.le_refl _) hqb
  clear hqb
  go_wp2
  (try simp only [Exit.inBlock, Exit.then])
  refine bodyPost_ret (results_none rfl _ _ _) rfl ?_
  exact ⟨rfl, sb⟩
set_option maxRecDepth 100000 in
set_option maxHeartbeats 2000000 in
theorem sum_nil  (w : World)  : Calls Tryd.prog 13 #[.pointer none] w fun e w' => e = .returned (.string ⟨#[]⟩) ∧ Below w.heap.size w w' := by
  go_enter Tryd.func13, Tryd.ntmps13
  (repeat ((fail_if_success (with_reducible show Code.wp _ (Code.region _ _ _) _ _ _)); go_step))
  apply wp_region_mixp [] [_] trivial List.nodup_nil
  · intro p
    refine mx_val (.string ⟨#[]⟩) (fun _ => rfl) ?_
    simp only [Act.put, pb, pc, pd]
    refine mx_end ?_
    intro w2 hkw hrw hnew hdis
    have sb := hkw.below w.heap.size (Nat.le_refl _) (by simp)
    clear hkw hrw hnew hdis
    (repeat ((fail_if_success (with_reducible show Code.wp _ (Code.region _ _ _) _ _ _)); go_step))
    refine wp_region_qp ?_
    refine qw_move (by rfl) rfl rfl ?_
    simp only [Act.put, pb, pc, pd]
    refine qw_value (by rfl) (.bool true) (x_nilp _ _ _ _ rfl none rfl rfl _ Tryd.underlying27) ?_
    simp only [Act.put, pb, pc, pd]
    refine qw_move (by rfl) rfl rfl ?_
    simp only [Act.put, pb, pc, pd]
    refine qw_skip (by rfl) ?_
    simp only [Act.put, pb, pc, pd]
    refine qw_skip (by rfl) ?_
    simp only [Act.put, pb, pc, pd]
    refine qw_skip (by rfl) ?_
    simp only [Act.put, pb, pc, pd]
    refine qw_skip (by rfl) ?_
    simp only [Act.put, pb, pc, pd]
    refine qw_skip (by rfl) ?_
    simp only [Act.put, pb, pc, pd]
    refine qw_pick true (v := .bool true) (by rfl) rfl rfl rfl ?_
    simp only [Act.put, pb, pc, pd]
    refine qw_nil ?_
    intro w3 hqb
    replace sb := below_on sb (Nat.le_refl _) hqb
    clear hqb
    go_wp2
    go_ret
    exact ⟨rfl, sb⟩
  · rfl
set_option maxRecDepth 100000 in
set_option maxHeartbeats 2000000 in
theorem add_un (s : ByteArray) (g0 : Nat) (w : World) (r0 : Row w g0 (hC false (fun _ => 0) (fun _ => 0) 0) 39) : Calls Tryd.prog 12 #[.pointer (some ⟨g0, 0, none⟩), .string s] w fun e w' => e = .returned (.tuple #[]) ∧ Below w.heap.size w w' := by
  have sb := Below.refl w.heap.size w
  go_enter Tryd.func12, Tryd.ntmps12
  (repeat ((fail_if_success (with_reducible show Code.wp _ (Code.region _ _ _) _ _ _)); go_step))
  refine wp_region_qp ?_
  refine qw_move (by rfl) rfl rfl ?_
  simp only [Act.put, pb, pc, pd]
  refine qw_value (by rfl) (.bool false) (x_nilp _ _ _ _ rfl (some ⟨g0, 0, none⟩) rfl rfl _ Tryd.underlying27) ?_
  simp only [Act.put, pb, pc, pd]
  refine qw_move (by rfl) rfl rfl ?_
  simp only [Act.put, pb, pc, pd]
  refine qw_move (by rfl) rfl rfl ?_
  simp only [Act.put, pb, pc, pd]
  refine qw_value (by rfl) (.pointer (some ⟨g0, 0, none⟩)) (exec_nil _ rfl g0 0 rfl) ?_
  simp only [Act.put, pb, pc, pd]
  refine qw_value (by rfl) (.pointer (some ⟨g0, 0, none⟩)) (exec_field 39 _ 0 rfl g0 0 rfl _ Tryd.underlying39 _ rfl 0 Tryd.sizeOf4) ?_
  simp only [Act.put, pb, pc, pd]
  refine qw_loadc (by rfl) 4 _ rfl _ (0) rfl r0 (.bool false) (hC_get _ _ _ _ 0 (by omega)) Tryd.isAgg4 ?_
  simp only [Act.put, pb, pc, pd]
  refine qw_value (by rfl) (.bool true) (exec_not _ _ rfl false rfl) ?_
  simp only [Act.put, pb, pc, pd]
  refine qw_pick false (v := .bool true) (by rfl) rfl rfl rfl ?_
  simp only [Act.put, pb, pc, pd]
  refine qw_nil ?_
  intro w2 hqb
  replace r0 := r0.belowAll hqb
  replace sb := below_on sb (Nat.le_refl _) hqb
  clear hqb
  go_wp2
  (try simp only [Exit.inBlock, Exit.then])
  refine bodyPost_ret (results_none rfl _ _ _) rfl ?_
  exact ⟨rfl, sb⟩
set_option maxRecDepth 100000 in
set_option maxHeartbeats 2000000 in
theorem sum_un (g0 : Nat) (w : World) (r0 : Row w g0 (hC false (fun _ => 0) (fun _ => 0) 0) 39) : Calls Tryd.prog 13 #[.pointer (some ⟨g0, 0, none⟩)] w fun e w' => e = .returned (.string ⟨#[]⟩) ∧ Below w.heap.size w w' := by
  go_enter Tryd.func13, Tryd.ntmps13
  (repeat ((fail_if_success (with_reducible show Code.wp _ (Code.region _ _ _) _ _ _)); go_step))
  apply wp_region_mixp [] [_] trivial List.nodup_nil
  · intro p
    refine mx_val (.string ⟨#[]⟩) (fun _ => rfl) ?_
    simp only [Act.put, pb, pc, pd]
    refine mx_end ?_
    intro w2 hkw hrw hnew hdis
    replace r0 := hkw.row r0 (by simp <;> omega)
    have sb := hkw.below w.heap.size (Nat.le_refl _) (by simp)
    clear hkw hrw hnew hdis
    (repeat ((fail_if_success (with_reducible show Code.wp _ (Code.region _ _ _) _ _ _)); go_step))
    refine wp_region_qp ?_
    refine qw_move (by rfl) rfl rfl ?_
    simp only [Act.put, pb, pc, pd]
    refine qw_value (by rfl) (.bool false) (x_nilp _ _ _ _ rfl (some ⟨g0, 0, none⟩) rfl rfl _ Tryd.underlying27) ?_
    simp only [Act.put, pb, pc, pd]
    refine qw_move (by rfl) rfl rfl ?_
    simp only [Act.put, pb, pc, pd]
    refine qw_move (by rfl) rfl rfl ?_
    simp only [Act.put, pb, pc, pd]
    refine qw_value (by rfl) (.pointer (some ⟨g0, 0, none⟩)) (exec_nil _ rfl g0 0 rfl) ?_
    simp only [Act.put, pb, pc, pd]
    refine qw_value (by rfl) (.pointer (some ⟨g0, 0, none⟩)) (exec_field 39 _ 0 rfl g0 0 rfl _ Tryd.underlying39 _ rfl 0 Tryd.sizeOf4) ?_
    simp only [Act.put, pb, pc, pd]
    refine qw_loadc (by rfl) 4 _ rfl _ (0) rfl r0 (.bool false) (hC_get _ _ _ _ 0 (by omega)) Tryd.isAgg4 ?_
    simp only [Act.put, pb, pc, pd]
    refine qw_value (by rfl) (.bool true) (exec_not _ _ rfl false rfl) ?_
    simp only [Act.put, pb, pc, pd]
    refine qw_pick false (v := .bool true) (by rfl) rfl rfl rfl ?_
    simp only [Act.put, pb, pc, pd]
    refine qw_nil ?_
    intro w3 hqb
    replace r0 := r0.belowAll hqb
    replace sb := below_on sb (Nat.le_refl _) hqb
    clear hqb
    go_wp2
    go_ret
    exact ⟨rfl, sb⟩
  · rfl
theorem info_ptr : ∃ i, Tryd.prog.info? 27 = some i ∧ i.zero = some (.pointer none) ∧ i.size = 1 := by
  have h : (Tryd.prog.info? 27).map (fun i => (i.zero, i.size)) = some (some (.pointer none), 1) := by kernel_rfl
  cases hq : Tryd.prog.info? 27 with
  | none => simp [hq] at h
  | some i =>
    simp [hq] at h
    exact ⟨i, rfl, h.1, h.2⟩
theorem built_un : Tryd.prog.built 39 [] = some (hC false (fun _ => 0) (fun _ => 0) 0) := by kernel_rfl
theorem fill_ptrs (g k : Nat) (hk : k = 1) : Instr.fill (fun i => some (i * k, k)) ((Array.range (2 * k)).map ((Value.pointer none).cells[· % (Value.pointer none).cells.size]!)) [(0, .pointer none), (1, .pointer (some ⟨g, 0, none⟩))] = some #[.pointer none, .pointer (some ⟨g, 0, none⟩)] := by
  subst hk
  kernel_rfl
theorem pw_box {P : Program} {ops : Array Oper} {Q : Exit → Act → World → Prop} {rest : List Oper} {o : Oper} {a : Act} {w : World} (hw : Region.wanted o (yielded ops a.tmps) = true) (t : TypeId) (x : Operand) (ho : o.op = .box t x) (c : Array Value) (hx : a.eval x = .agg c)
    (h : PW P ops Q rest (a.put o.dst (.pointer (some ⟨w.heap.size, 0, none⟩))) (w.alloc (.cells c t))) : PW P ops Q (o :: rest) a w := by
  refine pw_run hw _ _ ?_ h
  unfold execOp
  simp only [ho, hx, Instr.box, Sem.run_bind, newVar, newRow]
  rfl
set_option maxRecDepth 100000 in
set_option maxHeartbeats 2000000 in
theorem long (l : List UInt8) (w : World) (kT : KT w) (hl : 1024 < l.length) :
    Calls Tryd.prog 6 #[.string ⟨l.toArray⟩] w fun e w' => e = .returned (.bool true) ∧ Below w.heap.size w w' := by
  have hsz : (⟨l.toArray⟩ : ByteArray).size = l.length := by simp [ByteArray.size]
  go_enter Tryd.func6, Tryd.ntmps6
  (repeat ((fail_if_success (with_reducible show Code.wp _ (Code.region _ _ _) _ _ _)); go_step))
  apply wp_region_mixp [] [_] trivial List.nodup_nil
  · intro p
    refine mx_val (.bool false) (fun _ => rfl) ?_
    simp only [Act.put, pb, pc, pd]
    refine mx_end ?_
    intro w2 hkw hrw hnew hdis
    have sb := hkw.below w.heap.size (Nat.le_refl _) (by simp)
    clear hkw hrw hnew hdis
    (repeat ((fail_if_success (with_reducible show Code.wp _ (Code.region _ _ _) _ _ _)); go_step))
    refine wp_region_qp ?_
    refine qw_move (by rfl) rfl rfl ?_
    simp only [Act.put, pb, pc, pd]
    refine qw_value (by rfl) (.int .i64 (l.length : Nat)) (fun w' => (x_lenS _ _ rfl ⟨l.toArray⟩ rfl Tryd.underlying9 w').trans (by rw [hsz])) ?_
    simp only [Act.put, pb, pc, pd]
    refine qw_value (by rfl) (.bool true) (x_gt _ _ _ _ rfl l.length 1024 rfl rfl true (decide_eq_true (by omega))) ?_
    simp only [Act.put, pb, pc, pd]
    refine qw_nil ?_
    intro w3 hqb
    replace sb := below_on sb (Nat.le_refl _) hqb
    clear hqb
    replace kT := kT.below sb
    (repeat ((fail_if_success (with_reducible show Code.wp _ (Code.region _ _ _) _ _ _)); go_step))
    refine wp_region_qp ?_
    refine qw_callK (by rfl) 7 _ _ rfl Tryd.func7 (by kernel_rfl) #[] rfl _ (fun w' hb => awake5_any w' (kT.below hb)) ?_
    simp only [Act.put, pb, pc, pd]
    refine qw_asg (by rfl) rfl rfl ?_
    simp only [Act.put, pb, pc, pd]
    refine qw_nil ?_
    intro w4 hqb
    replace sb := below_on sb (Nat.le_refl _) hqb
    clear hqb
    go_wp2
    go_ret
    exact ⟨rfl, sb⟩
  · rfl
set_option maxRecDepth 100000 in
set_option maxHeartbeats 2000000 in
theorem short (l : List UInt8) (w : World) (kT : KT w) (hl : l.length ≤ 1024) :
    Calls Tryd.prog 6 #[.string ⟨l.toArray⟩] w fun e w' => e = .returned (.bool true) ∧ Below w.heap.size w w' := by
  obtain ⟨ie, hie, hze, hse⟩ := info_ptr
  have hsz : (⟨l.toArray⟩ : ByteArray).size = l.length := by simp [ByteArray.size]
  go_enter Tryd.func6, Tryd.ntmps6
  (repeat ((fail_if_success (with_reducible show Code.wp _ (Code.region _ _ _) _ _ _)); go_step))
  apply wp_region_mixp [] [_] trivial List.nodup_nil
  · intro p
    refine mx_val (.bool false) (fun _ => rfl) ?_
    simp only [Act.put, pb, pc, pd]
    refine mx_end ?_
    intro w2 hkw hrw hnew hdis
    have sb := hkw.below w.heap.size (Nat.le_refl _) (by simp)
    clear hkw hrw hnew hdis
    (repeat ((fail_if_success (with_reducible show Code.wp _ (Code.region _ _ _) _ _ _)); go_step))
    refine wp_region_qp ?_
    refine qw_move (by rfl) rfl rfl ?_
    simp only [Act.put, pb, pc, pd]
    refine qw_value (by rfl) (.int .i64 (l.length : Nat)) (fun w' => (x_lenS _ _ rfl ⟨l.toArray⟩ rfl Tryd.underlying9 w').trans (by rw [hsz])) ?_
    simp only [Act.put, pb, pc, pd]
    refine qw_value (by rfl) (.bool false) (x_gt _ _ _ _ rfl l.length 1024 rfl rfl false (decide_eq_false (by omega))) ?_
    simp only [Act.put, pb, pc, pd]
    refine qw_nil ?_
    intro w3 hqb
    replace sb := below_on sb (Nat.le_refl _) hqb
    clear hqb
    (repeat ((fail_if_success (with_reducible show Code.wp _ (Code.region _ _ _) _ _ _)); go_step))
    refine wp_region_pw ?_
    refine pw_value (by rfl) (.agg (hC false (fun _ => 0) (fun _ => 0) 0)) (exec_build _ [] rfl _ rfl _ built_un) ?_
    simp only [Act.put, pb, pc, pd]
    refine pw_box (by rfl) 39 _ rfl (hC false (fun _ => 0) (fun _ => 0) 0) rfl ?_
    have r10 := Row.new w3 (hC false (fun _ => 0) (fun _ => 0) 0) 39
    replace sb := sb.alloc sb.size (.cells (hC false (fun _ => 0) (fun _ => 0) 0) 39)
    generalize hw4 : w3.alloc (.cells (hC false (fun _ => 0) (fun _ => 0) 0) 39) = w4 at *
    generalize hg1 : w3.heap.size = g1 at *
    simp only [Act.put, pb, pc, pd]
    refine pw_lits (by rfl) 40 27 2 _ rfl #[.pointer none, .pointer (some ⟨g1, 0, none⟩)] ie _ Tryd.underlying40 hie hze (by rw [hse]; decide) (by rw [hse]; decide) [(0, .pointer none), (1, .pointer (some ⟨g1, 0, none⟩))] rfl (fill_ptrs _ _ hse) ?_
    have rL := Row.new w4 #[.pointer none, .pointer (some ⟨g1, 0, none⟩)] 27
    replace r10 := r10.alloc (.cells #[.pointer none, .pointer (some ⟨g1, 0, none⟩)] 27)
    replace sb := sb.alloc sb.size (.cells #[.pointer none, .pointer (some ⟨g1, 0, none⟩)] 27)
    generalize w4.alloc (.cells #[.pointer none, .pointer (some ⟨g1, 0, none⟩)] 27) = w5 at *
    generalize w4.heap.size = g2 at *
    simp only [Act.put, pb, pc, pd]
    refine pw_move (by rfl) (.inr rfl) rfl ?_
    simp only [Act.put, pb, pc, pd]
    refine pw_nil ?_
    have HK : Hid (KT w ∧ l.length ≤ 1024) := ⟨kT, hl⟩
    have H0 := rL
    have H1 := r10
    have H2 := sb
    clear rL r10 sb kT hl hsz hie hze hse hw4 hg1
    go_wp2_with fail
    go_loopg [4] 2 (fun g s4 wr => ∃ i : Nat, i + g = 2 ∧ s4 = .int .i64 (i : Nat) ∧ Row wr g2 #[.pointer none, .pointer (some ⟨g1, 0, none⟩)] 27 ∧ Row wr g1 (hC false (fun _ => 0) (fun _ => 0) 0) 39 ∧ Below w.heap.size w wr)
    case atStart => exact ⟨0, by omega, rfl, H0, H1, H2⟩
    case round =>
      obtain ⟨i, hi, rfl, rL, r10, sb⟩ := hrel
      obtain ⟨kT, hl⟩ := HK.out
      clear H0 H1 H2
      cases gk with
      | zero =>
        obtain rfl : i = 2 := by omega
        clear hi
        (repeat ((fail_if_success (with_reducible show Code.wp _ (Code.region _ _ _) _ _ _)); go_step))
        refine wp_region_qp ?_
        refine qw_move (by rfl) rfl rfl ?_
        simp only [Act.put, pb, pc, pd]
        refine qw_move (by rfl) rfl rfl ?_
        simp only [Act.put, pb, pc, pd]
        refine qw_value (by rfl) (.int .i64 2) (x_lenL _ _ rfl _ _ _ rfl Tryd.underlying40) ?_
        simp only [Act.put, pb, pc, pd]
        refine qw_value (by rfl) (.bool false) (x_lt _ _ _ _ rfl 2 2 rfl rfl false rfl) ?_
        simp only [Act.put, pb, pc, pd]
        refine qw_nil ?_
        intro w7 hqb
        replace sb := below_on sb (Nat.le_refl _) hqb
        clear hqb
        have kT2 := kT.below sb
        (repeat ((fail_if_success (with_reducible show Code.wp _ (Code.region _ _ _) _ _ _)); go_step))
        refine wp_region_qp ?_
        refine qw_move (by rfl) rfl rfl ?_
        simp only [Act.put, pb, pc, pd]
        refine qw_call (by rfl) 14 _ _ rfl Tryd.func14 (by kernel_rfl) #[.string ⟨l.toArray⟩] rfl _ (fun w' => hex_any l w' (by omega)) ?_
        simp only [Act.put, pb, pc, pd]
        refine qw_move (by rfl) rfl rfl ?_
        simp only [Act.put, pb, pc, pd]
        refine qw_call (by rfl) 15 _ _ rfl Tryd.func15 (by kernel_rfl) #[.string ⟨l.toArray⟩] rfl _ (fun w' => rhex_any l w' (by omega)) ?_
        simp only [Act.put, pb, pc, pd]
        refine qw_value (by rfl) (.bool true) (exec_eql_str _ _ _ _ rfl _ rfl rfl) ?_
        simp only [Act.put, pb, pc, pd]
        refine qw_move (by rfl) rfl rfl ?_
        simp only [Act.put, pb, pc, pd]
        refine qw_callK (by rfl) 7 _ _ rfl Tryd.func7 (by kernel_rfl) #[] rfl _ (fun w' hb => awake5_any w' (kT2.below hb)) ?_
        simp only [Act.put, pb, pc, pd]
        refine qw_pick true (v := .bool true) (by rfl) rfl rfl rfl ?_
        simp only [Act.put, pb, pc, pd]
        refine qw_asg (by rfl) rfl rfl ?_
        simp only [Act.put, pb, pc, pd]
        refine qw_nil ?_
        intro w8 hqb
        replace sb := below_on sb (Nat.le_refl _) hqb
        clear hqb
        go_wp2
        go_ret
        exact ⟨rfl, sb⟩
      | succ g =>
        obtain rfl | rfl : i = 0 ∨ i = 1 := by omega
        · have h0 := hi
          (repeat ((fail_if_success (with_reducible show Code.wp _ (Code.region _ _ _) _ _ _)); go_step))
          refine wp_region_qp ?_
          refine qw_move (by rfl) rfl rfl ?_
          simp only [Act.put, pb, pc, pd]
          refine qw_move (by rfl) rfl rfl ?_
          simp only [Act.put, pb, pc, pd]
          refine qw_value (by rfl) (.int .i64 2) (x_lenL _ _ rfl _ _ _ rfl Tryd.underlying40) ?_
          simp only [Act.put, pb, pc, pd]
          refine qw_value (by rfl) (.bool true) (x_lt _ _ _ _ rfl 0 2 rfl rfl true rfl) ?_
          simp only [Act.put, pb, pc, pd]
          refine qw_nil ?_
          intro w7 hqb
          replace rL := rL.belowAll hqb
          replace r10 := r10.belowAll hqb
          replace sb := below_on sb (Nat.le_refl _) hqb
          clear hqb
          (repeat ((fail_if_success (with_reducible show Code.wp _ (Code.region _ _ _) _ _ _)); go_step))
          refine wp_region_pw ?_
          refine pw_move (by rfl) (.inl rfl) rfl ?_
          simp only [Act.put, pb, pc, pd]
          refine pw_move (by rfl) (.inl rfl) rfl ?_
          simp only [Act.put, pb, pc, pd]
          refine pw_value (by rfl) (.pointer (some ⟨g2, 0, none⟩)) (x_idxS _ _ _ rfl g2 0 2 2 rfl 0 rfl (by omega) _ Tryd.underlying40 Tryd.sizeOf27 _ rfl) ?_
          simp only [Act.put, pb, pc, pd]
          refine pw_loadc (by rfl) 27 _ rfl g2 0 rfl rL.r (.pointer none) rfl Tryd.isAgg27 ?_
          simp only [Act.put, pb, pc, pd]
          refine pw_move (by rfl) (.inl rfl) rfl ?_
          simp only [Act.put, pb, pc, pd]
          refine pw_call (by rfl) 12 _ _ rfl Tryd.func12 (by kernel_rfl) #[.pointer none, .string ⟨l.toArray⟩] rfl _ (add_nil _ w7) ?_
          intro w8 bb
          replace rL := rL.belowAll bb
          replace r10 := r10.belowAll bb
          replace sb := below_on sb (Nat.le_refl _) bb
          clear bb
          simp only [Act.put, pb, pc, pd]
          refine pw_nil ?_
          (repeat ((fail_if_success (with_reducible show Code.wp _ (Code.region _ _ _) _ _ _)); go_step))
          refine wp_region_qp ?_
          refine qw_move (by rfl) rfl rfl ?_
          simp only [Act.put, pb, pc, pd]
          refine qw_move (by rfl) rfl rfl ?_
          simp only [Act.put, pb, pc, pd]
          refine qw_value (by rfl) (.pointer (some ⟨g2, 0, none⟩)) (x_idxS _ _ _ rfl g2 0 2 2 rfl 0 rfl (by omega) _ Tryd.underlying40 Tryd.sizeOf27 _ rfl) ?_
          simp only [Act.put, pb, pc, pd]
          refine qw_loadc (by rfl) 27 _ rfl _ (0) rfl rL (.pointer none) rfl Tryd.isAgg27 ?_
          simp only [Act.put, pb, pc, pd]
          refine qw_call (by rfl) 13 _ _ rfl Tryd.func13 (by kernel_rfl) #[.pointer none] rfl _ (fun w' => sum_nil w') ?_
          simp only [Act.put, pb, pc, pd]
          refine qw_value (by rfl) (.bool false) (x_neS _ _ _ _ rfl _ rfl rfl) ?_
          simp only [Act.put, pb, pc, pd]
          refine qw_nil ?_
          intro w9 hqb
          replace rL := rL.belowAll hqb
          replace r10 := r10.belowAll hqb
          replace sb := below_on sb (Nat.le_refl _) hqb
          clear hqb
          (repeat ((fail_if_success (with_reducible show Code.wp _ (Code.region _ _ _) _ _ _)); go_step))
          refine wp_region_qp ?_
          refine qw_move (by rfl) rfl rfl ?_
          simp only [Act.put, pb, pc, pd]
          refine qw_value (by rfl) (.int .i64 (1 : Nat)) (xi_add _ _ _ _ rfl 0 1 rfl rfl (by omega)) ?_
          simp only [Act.put, pb, pc, pd]
          refine qw_asg (by rfl) rfl rfl ?_
          simp only [Act.put, pb, pc, pd]
          refine qw_nil ?_
          intro w10 hqb
          replace rL := rL.belowAll hqb
          replace r10 := r10.belowAll hqb
          replace sb := below_on sb (Nat.le_refl _) hqb
          clear hqb
          go_wp2
          go_roundg g
          case measure => omega
          case rel => exact ⟨1, by omega, rfl, rL, r10, sb⟩
        · have h0 := hi
          (repeat ((fail_if_success (with_reducible show Code.wp _ (Code.region _ _ _) _ _ _)); go_step))
          refine wp_region_qp ?_
          refine qw_move (by rfl) rfl rfl ?_
          simp only [Act.put, pb, pc, pd]
          refine qw_move (by rfl) rfl rfl ?_
          simp only [Act.put, pb, pc, pd]
          refine qw_value (by rfl) (.int .i64 2) (x_lenL _ _ rfl _ _ _ rfl Tryd.underlying40) ?_
          simp only [Act.put, pb, pc, pd]
          refine qw_value (by rfl) (.bool true) (x_lt _ _ _ _ rfl 1 2 rfl rfl true rfl) ?_
          simp only [Act.put, pb, pc, pd]
          refine qw_nil ?_
          intro w7 hqb
          replace rL := rL.belowAll hqb
          replace r10 := r10.belowAll hqb
          replace sb := below_on sb (Nat.le_refl _) hqb
          clear hqb
          (repeat ((fail_if_success (with_reducible show Code.wp _ (Code.region _ _ _) _ _ _)); go_step))
          refine wp_region_pw ?_
          refine pw_move (by rfl) (.inl rfl) rfl ?_
          simp only [Act.put, pb, pc, pd]
          refine pw_move (by rfl) (.inl rfl) rfl ?_
          simp only [Act.put, pb, pc, pd]
          refine pw_value (by rfl) (.pointer (some ⟨g2, 1, none⟩)) (x_idxS _ _ _ rfl g2 0 2 2 rfl 1 rfl (by omega) _ Tryd.underlying40 Tryd.sizeOf27 _ rfl) ?_
          simp only [Act.put, pb, pc, pd]
          refine pw_loadc (by rfl) 27 _ rfl g2 1 rfl rL.r (.pointer (some ⟨g1, 0, none⟩)) rfl Tryd.isAgg27 ?_
          simp only [Act.put, pb, pc, pd]
          refine pw_move (by rfl) (.inl rfl) rfl ?_
          simp only [Act.put, pb, pc, pd]
          refine pw_call (by rfl) 12 _ _ rfl Tryd.func12 (by kernel_rfl) #[.pointer (some ⟨g1, 0, none⟩), .string ⟨l.toArray⟩] rfl _ (add_un _ g1 w7 r10) ?_
          intro w8 bb
          replace rL := rL.belowAll bb
          replace r10 := r10.belowAll bb
          replace sb := below_on sb (Nat.le_refl _) bb
          clear bb
          simp only [Act.put, pb, pc, pd]
          refine pw_nil ?_
          (repeat ((fail_if_success (with_reducible show Code.wp _ (Code.region _ _ _) _ _ _)); go_step))
          refine wp_region_qp ?_
          refine qw_move (by rfl) rfl rfl ?_
          simp only [Act.put, pb, pc, pd]
          refine qw_move (by rfl) rfl rfl ?_
          simp only [Act.put, pb, pc, pd]
          refine qw_value (by rfl) (.pointer (some ⟨g2, 1, none⟩)) (x_idxS _ _ _ rfl g2 0 2 2 rfl 1 rfl (by omega) _ Tryd.underlying40 Tryd.sizeOf27 _ rfl) ?_
          simp only [Act.put, pb, pc, pd]
          refine qw_loadc (by rfl) 27 _ rfl _ (1) rfl rL (.pointer (some ⟨g1, 0, none⟩)) rfl Tryd.isAgg27 ?_
          simp only [Act.put, pb, pc, pd]
          refine qw_callK (by rfl) 13 _ _ rfl Tryd.func13 (by kernel_rfl) #[.pointer (some ⟨g1, 0, none⟩)] rfl _ (fun w' hb => sum_un g1 w' (r10.belowAll hb)) ?_
          simp only [Act.put, pb, pc, pd]
          refine qw_value (by rfl) (.bool false) (x_neS _ _ _ _ rfl _ rfl rfl) ?_
          simp only [Act.put, pb, pc, pd]
          refine qw_nil ?_
          intro w9 hqb
          replace rL := rL.belowAll hqb
          replace r10 := r10.belowAll hqb
          replace sb := below_on sb (Nat.le_refl _) hqb
          clear hqb
          (repeat ((fail_if_success (with_reducible show Code.wp _ (Code.region _ _ _) _ _ _)); go_step))
          refine wp_region_qp ?_
          refine qw_move (by rfl) rfl rfl ?_
          simp only [Act.put, pb, pc, pd]
          refine qw_value (by rfl) (.int .i64 (2 : Nat)) (xi_add _ _ _ _ rfl 1 1 rfl rfl (by omega)) ?_
          simp only [Act.put, pb, pc, pd]
          refine qw_asg (by rfl) rfl rfl ?_
          simp only [Act.put, pb, pc, pd]
          refine qw_nil ?_
          intro w10 hqb
          replace rL := rL.belowAll hqb
          replace r10 := r10.belowAll hqb
          replace sb := below_on sb (Nat.le_refl _) hqb
          clear hqb
          go_wp2
          go_roundg g
          case measure => omega
          case rel => exact ⟨2, by omega, rfl, rL, r10, sb⟩
  · rfl
theorem walk (l : List UInt8) (w : World) (kT : KT w) :
    Calls Tryd.prog 6 #[.string ⟨l.toArray⟩] w fun e w' => e = .returned (.bool true) ∧ Below w.heap.size w w' := by
  by_cases hl : 1024 < l.length
  · exact long l w kT hl
  · exact short l w kT (by omega)
set_option maxRecDepth 100000 in
theorem lifted (os : Os) (started : os.Started) (H : Type) (enc : TypeId × Value → H) :
    ReturnsInHanded {} Tryd.checked os 6 .any (fun w args => (Rows.shaHexSpec.pre enc Tryd.prog Tryd.f6 [] false w args ∧ laidMetH Tryd.prog lk w) ∧ sizedMet enc Tryd.prog Tryd.f6 (OpenSpec.ofChange Rows.shaHexSpec) false w args)
      (Rows.shaHexSpec.post enc Tryd.prog Tryd.f6 false true false false) := by
  refine returnsInHanded_of_change_and (C := Tryd.checked) (X := fun w _ => laidMetH Tryd.prog lk w) (fun _ _ _ hh h => h.of_heap hh) own started (by kernel_rfl) Tryd.func6
    (ChangeSpec.witness_shaped (enc := enc) (C := Tryd.checked) (os := os) (X := fun w _ => laidMetH Tryd.prog lk w) false (World.doorLaid Tryd.prog 14 os) #[.string ⟨#[]⟩] 8 rfl (World.shaped_of_RefB (by kernel_rfl) (by kernel_rfl)) (by kernel_rfl) (by kernel_rfl) (by kernel_rfl) (door_met os _)) ?_
  intro W base args ds gs before hval0 hW _ _ hL _
  have hval : ∀ (j : Nat) t v, Tryd.f6.params[j]? = some t → args[j]? = some v → Value.okWide Tryd.prog W .any base t v := hval0
  have hW' := hW
  obtain ⟨p, q, hA0, hV, rfl, hfz, hnd⟩ := hW
  have hA : DataW.TrodAll enc Tryd.prog W 0 (fun _ => true) true Tryd.f6.params.toList args.toList ds p := hA0
  rw [Tryd.params6] at hA hval
  obtain ⟨v0, vs0, d0, ds0, p0, q0, hargs, rfl, rfl, h0, r0⟩ := trodAll_cons hA
  obtain ⟨rfl, rfl, rfl⟩ := trodAll_nil r0
  obtain rfl : args = #[v0] := by cases args; simp_all
  obtain ⟨rfl, rfl⟩ := trodVars_none hV
  have k0 := h0
  have lt0 := lt_of_trod h0
  obtain ⟨⟨⟨s0⟩⟩, rfl, rfl, rfl, w0⟩ := open_string Tryd.underlying9 (hval 0 9 v0 rfl rfl) h0
  clear hA0 hval0
  refine (walk s0 W (kt_of_laid hL)).mono fun e W' ⟨he, bel⟩ => ?_
  subst he
  exact ⟨_, rfl, _, _, _, [], _, [], hW', trodAll_mk1 (shut_bool Tryd.underlying4 _), (trodAll_cons_mk (Below.trod laidOut (by kernel_rfl) (of_decide_eq_true (by kernel_rfl)) k0 bel lt0) trodAll_mk0), rfl, bel.frame _, fun h => by cases h⟩

theorem over : Rows.shaHexRow.holds Tryd.pinned (OpenSpec.ofChange Rows.shaHexSpec) :=
  OpenClaim.holds_of_wide 6 Tryd.f6 rfl rfl rfl rfl rfl rfl rfl ⟨rfl, rfl, rfl, rfl, rfl⟩ rfl rfl rfl rfl rfl (by kernel_rfl) Tryd.func6 (by kernel_rfl)
    (of_decide_eq_true (by kernel_rfl)) (by unfold Func.isWrapper; first | (rw [if_pos (by decide +kernel)]; kernel_rfl) | (rw [if_neg (by decide +kernel)]; exact ⟨rfl, rfl⟩))
    (fun os started H enc _ => lifted os started H enc)
theorem card : Claim7.holds Tryd.pinned (.plain (OpenSpec.ofChange Rows.shaHexSpec)) Rows.shaHexCard :=
  Claim7.holds_tied_plain_at .later [] [.data] true (true, "55ac4c8893cee18253393530f53de7e00f0cbd6ba2f675234ff54c3dfea35bdd") false
    over (fun _ h => by cases h) (by kernel_rfl) (fun _ h => by cases h) shaHex_row_tie rfl ⟨rfl, rfl⟩ (by kernel_rfl) rfl
    (fun f fn hf hfn => by
      obtain rfl : f = 6 := Option.some.inj ((show Tryd.prog.funcNamed "sacristy/sacristylaw05.ShaHex" = some 6 by kernel_rfl).symm.trans hf) |>.symm
      obtain rfl : fn = Tryd.f6 := (Option.some.inj (Tryd.func6.symm.trans hfn)).symm
      exact ⟨by kernel_rfl, fun j t ht => by
        rw [Tryd.params6] at ht
        have hm : t ∈ [9] := by simpa using Array.mem_of_getElem? ht
        have hall : ([9].all fun u => !Tryd.prog.wantsStandIn u) = true := by kernel_rfl
        exact (show Tryd.prog.wantsStandIn t = false by simpa using List.all_eq_true.1 hall t hm)⟩)
    (by kernel_rfl)
end Go.Proofs.YtililfgbboecmaaDoor.shaHexP
namespace Go.Proofs.YtililfgbboecmaaDoor
theorem shaHex_holds : Rows.ShaHexCardSaid := shaHexP.card
end Go.Proofs.YtililfgbboecmaaDoor
