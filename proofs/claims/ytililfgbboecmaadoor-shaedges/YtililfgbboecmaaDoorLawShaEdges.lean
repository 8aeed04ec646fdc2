/- The law ShaEdges of layer 5 holds for every input: sha.Sum answers the document's digest of so many equal bytes. No condition (the constants are tied to the program's text). -/
import Derived.Test.YtililfgbboecmaaDoorSLaid
import Derived.Test.YtililfgbboecmaaDoorSRSum
namespace Go.Proofs.YtililfgbboecmaaDoor.shaEdgesP
open Go.ChangeShapes Go.WideShapes Go.ChangeAt Go.RowKit
set_option linter.unusedVariables false

theorem qw_valK {P : Program} {ops : Array Oper} {W : World} {Q : Act → Prop} {rest : List Oper} {o : Oper} {a : Act} (hw : Region.wanted o (yielded ops a.tmps) = true) (v : Value) (hr : ∀ w, Below W.heap.size W w → (execOp a.eval o).run P w = .ok (.value v) w)
    (h : QW P ops W Q rest (a.put o.dst v)) : QW P ops W Q (o :: rest) a := by
  refine ⟨?_⟩
  unfold wpQuiet
  rw [if_pos hw]
  exact ⟨v, fun w hC => by unfold Oper.quietAt; rw [hr w hC]; exact ⟨rfl, rfl⟩, h.out⟩
theorem bf_rep (n c j : Nat) (hc : c < 256) (h : j < n) : bf (List.replicate n (UInt8.ofNat c)) j = c := by
  unfold bf
  rw [List.getD_eq_getElem?_getD, List.getElem?_replicate, if_pos h]
  exact UInt8.toNat_ofNat_of_lt' hc
set_option maxRecDepth 100000 in
set_option maxHeartbeats 2000000 in
theorem walk (c n : Nat) (w : World) (hc : c < 256) (hn : n < 256) (kT : KT w) :
    Calls Tryd.prog 5 #[.int .u8 c, .int .u8 n] w fun e w' => e = .returned (.bool true) ∧ Below w.heap.size w w' := by
  go_enter Tryd.func5, Tryd.ntmps5
  (repeat ((fail_if_success (with_reducible show Code.wp _ (Code.region _ _ _) _ _ _)); go_step))
  apply wp_region_mixp [] [_] trivial List.nodup_nil
  · intro p
    refine mx_val (.bool false) (fun _ => rfl) ?_
    simp only [Act.put, pb, pc, pd]
    refine mx_end ?_
    intro w2 hkw hrw hnew hdis
    have sb := hkw.below w.heap.size (Nat.le_refl _) (by simp)
    clear hkw hrw hnew hdis
    (repeat ((fail_if_success (with_reducible show Code.wp _ (Code.region _ _ _) _ _ _)); go_step))
    apply wp_region_mixp [] [_, _, _] trivial List.nodup_nil
    · intro p
      refine mx_move rfl rfl ?_
      simp only [Act.put, pb, pc, pd]
      refine mx_makeB _ _ rfl .u8 n rfl rfl (by omega) ?_
      simp only [Act.put, pb, pc, pd]
      refine mx_asgP 1 (fun g => .slice (some ⟨g, 0, none⟩) n n) (.inl rfl) (by omega) rfl ?_
      simp only [Act.put, pb, pc, pd]
      refine mx_end ?_
      intro w3 hkw hrw hnew hdis
      have n8 := hnew 1 rfl
      have zr8 : Row w3 (p 1) (rC .u8 n fun _ => 0) 5 := hrw 3 (5, rC .u8 n fun _ => 0) rfl
      have b8 := Nat.le_trans sb.size n8
      replace sb := sb.trans (hkw.below w.heap.size sb.size (by simp <;> omega))
      clear hkw hrw hnew hdis n8
      generalize p 1 = g8 at *
      have r8 := zr8
      clear zr8
      have H0 : Row w3 g8 (rC .u8 n (upto (fun _ => c) 0)) 5 := by rw [upto_zero]; exact r8
      have H1 := sb
      have HB : Hid (w.heap.size ≤ g8) := b8
      clear r8 sb b8
      go_wp2_with fail
      go_loopg [6] n (fun g s6 wr => ∃ i : Nat, i + g = n ∧ s6 = .int .i64 i ∧ Row wr g8 (rC .u8 n (upto (fun _ => c) i)) 5 ∧ Below w.heap.size w wr)
      case atStart => exact ⟨0, by omega, rfl, H0, H1⟩
      case round =>
        obtain ⟨i, hi, rfl, r8, sb⟩ := hrel
        have hg8 := HB.out
        clear H0 H1
        cases gk with
        | zero =>
          obtain rfl : i = n := by omega
          clear hi
          (repeat ((fail_if_success (with_reducible show Code.wp _ (Code.region _ _ _) _ _ _)); go_step))
          apply wp_region_mixp [] [_, _, _, _] trivial List.nodup_nil
          · intro p
            refine mx_move rfl rfl ?_
            simp only [Act.put, pb, pc, pd]
            refine mx_move rfl rfl ?_
            simp only [Act.put, pb, pc, pd]
            refine mx_val (.int .i64 (i : Nat)) (x_lenL _ _ rfl _ _ _ rfl Tryd.underlying32) ?_
            simp only [Act.put, pb, pc, pd]
            refine mx_val (.bool false) (x_lt _ _ _ _ rfl i i rfl rfl false (decide_eq_false (by omega))) ?_
            simp only [Act.put, pb, pc, pd]
            refine mx_end ?_
            intro w5 hkw hrw hnew hdis
            replace r8 := hkw.row r8 (by simp <;> omega)
            replace sb := sb.trans (hkw.below w.heap.size sb.size (by simp <;> omega))
            clear hkw hrw hnew hdis
            replace kT := kT.below sb
            have hcs : ∀ j, j < (List.replicate i (UInt8.ofNat c)).length → (rC .u8 i (upto (fun _ => c) i))[0 + j]? = some (.int .u8 (bf (List.replicate i (UInt8.ofNat c)) j : Nat)) := by
              intro j hj
              rw [List.length_replicate] at hj
              rw [Nat.zero_add, rC_get _ _ _ _ hj, upto_lt _ _ _ hj, bf_rep i c j hc hj]
            have hls : (List.replicate i (UInt8.ofNat c)).length < 4294967296 := by rw [List.length_replicate]; omega
            (repeat ((fail_if_success (with_reducible show Code.wp _ (Code.region _ _ _) _ _ _)); go_step))
            refine wp_region_qw (by kernel_rfl) (by kernel_rfl) ?_
            refine qw_move (by rfl) rfl rfl ?_
            simp only [Act.put, pb, pc, pd]
            refine qw_valK (by rfl) (.string ⟨(List.replicate i (UInt8.ofNat c)).toArray⟩) (fun w' hb => x_str _ rfl g8 0 i i (List.replicate i (UInt8.ofNat c)) rfl List.length_replicate w' (r8.belowAll hb).r hcs) ?_
            simp only [Act.put, pb, pc, pd]
            refine qw_callK (by rfl) 8 _ _ rfl Tryd.func8 (by kernel_rfl) #[.string ⟨(List.replicate i (UInt8.ofNat c)).toArray⟩] rfl _ (fun w' hb => ssum_any _ w' (by omega) (kT.below hb)) ?_
            simp only [Act.put, pb, pc, pd]
            refine qw_move (by rfl) rfl rfl ?_
            simp only [Act.put, pb, pc, pd]
            refine qw_valK (by rfl) (.string ⟨(List.replicate i (UInt8.ofNat c)).toArray⟩) (fun w' hb => x_str _ rfl g8 0 i i (List.replicate i (UInt8.ofNat c)) rfl List.length_replicate w' (r8.belowAll hb).r hcs) ?_
            simp only [Act.put, pb, pc, pd]
            refine qw_call (by rfl) 9 _ _ rfl Tryd.func9 (by kernel_rfl) #[.string ⟨(List.replicate i (UInt8.ofNat c)).toArray⟩] rfl _ (fun w' => rsum_any _ w' hls) ?_
            simp only [Act.put, pb, pc, pd]
            refine qw_value (by rfl) (.bool true) (exec_eql_str _ _ _ _ rfl _ rfl rfl) ?_
            simp only [Act.put, pb, pc, pd]
            refine qw_move (by rfl) rfl rfl ?_
            simp only [Act.put, pb, pc, pd]
            refine qw_callK (by rfl) 7 _ _ rfl Tryd.func7 (by kernel_rfl) #[] rfl _ (fun w' hb => awake5_any w' (kT.below hb)) ?_
            simp only [Act.put, pb, pc, pd]
            refine qw_pick true (v := .bool true) (by rfl) rfl rfl rfl ?_
            simp only [Act.put, pb, pc, pd]
            refine qw_asg (by rfl) rfl rfl ?_
            simp only [Act.put, pb, pc, pd]
            refine qw_nil ?_
            intro w6 hqb
            replace sb := below_on sb (Nat.le_refl _) hqb
            clear hqb
            go_wp2
            go_ret
            exact ⟨rfl, sb⟩
          · rfl
        | succ g =>
          (repeat ((fail_if_success (with_reducible show Code.wp _ (Code.region _ _ _) _ _ _)); go_step))
          apply wp_region_mixp [] [_, _, _, _] trivial List.nodup_nil
          · intro p
            refine mx_move rfl rfl ?_
            simp only [Act.put, pb, pc, pd]
            refine mx_move rfl rfl ?_
            simp only [Act.put, pb, pc, pd]
            refine mx_val (.int .i64 (n : Nat)) (x_lenL _ _ rfl _ _ _ rfl Tryd.underlying32) ?_
            simp only [Act.put, pb, pc, pd]
            refine mx_val (.bool true) (x_lt _ _ _ _ rfl i n rfl rfl true (decide_eq_true (by omega))) ?_
            simp only [Act.put, pb, pc, pd]
            refine mx_end ?_
            intro w5 hkw hrw hnew hdis
            replace r8 := hkw.row r8 (by simp <;> omega)
            replace sb := sb.trans (hkw.below w.heap.size sb.size (by simp <;> omega))
            clear hkw hrw hnew hdis
            (repeat ((fail_if_success (with_reducible show Code.wp _ (Code.region _ _ _) _ _ _)); go_step))
            apply wp_region_mixp [(g8, 5, rC .u8 n (upto (fun _ => c) i))] [_, _, _, _, _] ⟨r8, trivial⟩ (by simp <;> omega)
            · intro p
              refine mx_move rfl rfl ?_
              simp only [Act.put, pb, pc, pd]
              refine mx_move rfl rfl ?_
              simp only [Act.put, pb, pc, pd]
              refine mx_move rfl rfl ?_
              simp only [Act.put, pb, pc, pd]
              refine mx_val (.pointer (some ⟨g8, i, none⟩)) (x_idxS _ _ _ rfl g8 0 n n rfl i rfl (by omega) _ Tryd.underlying32 Tryd.sizeOf5 _ (by omega)) ?_
              simp only [Act.put, pb, pc, pd]
              refine mx_putc 0 5 _ _ rfl (i) rfl rfl .u8 (((c : Nat) : Int)) rfl Tryd.sizeOf5 (by rw [rC_size]; omega) (rC .u8 n (upto (fun _ => c) (i + 1))) (rC_put _ _ _ _ _ _ (upto_put _ _ _ rfl _)) ?_
              simp only [Act.put]
              refine mx_end ?_
              intro w6 hkw hrw hnew hdis
              have zr8 : Row w6 (g8) (rC .u8 n (upto (fun _ => c) (i + 1))) 5 := hrw 0 (5, rC .u8 n (upto (fun _ => c) (i + 1))) rfl
              replace sb := sb.trans (hkw.below w.heap.size sb.size (by simp <;> omega))
              clear hkw hrw hnew hdis r8
              have r8 := zr8
              clear zr8
              (repeat ((fail_if_success (with_reducible show Code.wp _ (Code.region _ _ _) _ _ _)); go_step))
              apply wp_region_mixp [] [_, _, _] trivial List.nodup_nil
              · intro p
                refine mx_move rfl rfl ?_
                simp only [Act.put, pb, pc, pd]
                refine mx_val (.int .i64 (i + 1 : Nat)) (xi_add _ _ _ _ rfl i 1 rfl rfl (by omega)) ?_
                simp only [Act.put, pb, pc, pd]
                refine mx_asg rfl rfl ?_
                simp only [Act.put, pb, pc, pd]
                refine mx_end ?_
                intro w7 hkw hrw hnew hdis
                replace r8 := hkw.row r8 (by simp <;> omega)
                replace sb := sb.trans (hkw.below w.heap.size sb.size (by simp <;> omega))
                clear hkw hrw hnew hdis
                go_wp2
                go_roundg g
                case measure => omega
                case rel => exact ⟨i + 1, by omega, rfl, r8, sb⟩
              · rfl
            · rfl
          · rfl
    · rfl
  · rfl
set_option maxRecDepth 100000 in
theorem lifted (os : Os) (started : os.Started) (H : Type) (enc : TypeId × Value → H) :
    ReturnsInHanded {} Tryd.checked os 5 .any (fun w args => (Rows.shaEdgesSpec.pre enc Tryd.prog Tryd.f5 [] false w args ∧ laidMetH Tryd.prog lk w) ∧ sizedMet enc Tryd.prog Tryd.f5 (OpenSpec.ofChange Rows.shaEdgesSpec) false w args)
      (Rows.shaEdgesSpec.post enc Tryd.prog Tryd.f5 false true false false) := by
  refine returnsInHanded_of_change_and (C := Tryd.checked) (X := fun w _ => laidMetH Tryd.prog lk w) (fun _ _ _ hh h => h.of_heap hh) own started (by kernel_rfl) Tryd.func5
    (ChangeSpec.witness_shaped (enc := enc) (C := Tryd.checked) (os := os) (X := fun w _ => laidMetH Tryd.prog lk w) false (World.doorLaid Tryd.prog 14 os) #[.int .u8 0, .int .u8 0] 8 rfl (World.shaped_of_RefB (by kernel_rfl) (by kernel_rfl)) (by kernel_rfl) (by kernel_rfl) (by kernel_rfl) (door_met os _)) ?_
  intro W base args ds gs before hval0 hW _ _ hL _
  have hval : ∀ (j : Nat) t v, Tryd.f5.params[j]? = some t → args[j]? = some v → Value.okWide Tryd.prog W .any base t v := hval0
  have hW' := hW
  obtain ⟨p, q, hA0, hV, rfl, hfz, hnd⟩ := hW
  have hA : DataW.TrodAll enc Tryd.prog W 0 (fun _ => true) true Tryd.f5.params.toList args.toList ds p := hA0
  rw [Tryd.params5] at hA hval
  obtain ⟨v0, vs0, d0, ds0, p0, q0, hargs, rfl, rfl, h0, r0⟩ := trodAll_cons hA
  obtain ⟨v1, vs1, d1, ds1, p1, q1, rfl, rfl, rfl, h1, r1⟩ := trodAll_cons r0
  obtain ⟨rfl, rfl, rfl⟩ := trodAll_nil r1
  obtain rfl : args = #[v0, v1] := by cases args; simp_all
  obtain ⟨rfl, rfl⟩ := trodVars_none hV
  have k0 := h0
  have lt0 := lt_of_trod h0
  obtain ⟨a0, rfl, rfl, rfl, w0⟩ := open_int Tryd.underlying5 (hval 0 5 v0 rfl rfl) h0
  obtain ⟨n0, rfl⟩ := Int.eq_ofNat_of_zero_le (bounds_u8 w0).1
  have k1 := h1
  have lt1 := lt_of_trod h1
  obtain ⟨a1, rfl, rfl, rfl, w1⟩ := open_int Tryd.underlying5 (hval 1 5 v1 rfl rfl) h1
  obtain ⟨n1, rfl⟩ := Int.eq_ofNat_of_zero_le (bounds_u8 w1).1
  clear hA0 hval0
  refine (walk n0 n1 W (by have := (bounds_u8 w0).2; omega) (by have := (bounds_u8 w1).2; omega) (kt_of_laid hL)).mono fun e W' ⟨he, bel⟩ => ?_
  subst he
  exact ⟨_, rfl, _, _, _, [], _, [], hW', trodAll_mk1 (shut_bool Tryd.underlying4 _), (trodAll_cons_mk (Below.trod laidOut (by kernel_rfl) (of_decide_eq_true (by kernel_rfl)) k0 bel lt0) (trodAll_cons_mk (Below.trod laidOut (by kernel_rfl) (of_decide_eq_true (by kernel_rfl)) k1 bel lt1) trodAll_mk0)), rfl, bel.frame _, fun h => by cases h⟩

theorem over : Rows.shaEdgesRow.holds Tryd.pinned (OpenSpec.ofChange Rows.shaEdgesSpec) :=
  OpenClaim.holds_of_wide 5 Tryd.f5 rfl rfl rfl rfl rfl rfl rfl ⟨rfl, rfl, rfl, rfl, rfl⟩ rfl rfl rfl rfl rfl (by kernel_rfl) Tryd.func5 (by kernel_rfl)
    (of_decide_eq_true (by kernel_rfl)) (by unfold Func.isWrapper; first | (rw [if_pos (by decide +kernel)]; kernel_rfl) | (rw [if_neg (by decide +kernel)]; exact ⟨rfl, rfl⟩))
    (fun os started H enc _ => lifted os started H enc)
theorem card : Claim7.holds Tryd.pinned (.plain (OpenSpec.ofChange Rows.shaEdgesSpec)) Rows.shaEdgesCard :=
  Claim7.holds_tied_plain_at .later [] [.data] true (true, "55ac4c8893cee18253393530f53de7e00f0cbd6ba2f675234ff54c3dfea35bdd") false
    over (fun _ h => by cases h) (by kernel_rfl) (fun _ h => by cases h) shaEdges_row_tie rfl ⟨rfl, rfl⟩ (by kernel_rfl) rfl
    (fun f fn hf hfn => by
      obtain rfl : f = 5 := Option.some.inj ((show Tryd.prog.funcNamed "sacristy/sacristylaw05.ShaEdges" = some 5 by kernel_rfl).symm.trans hf) |>.symm
      obtain rfl : fn = Tryd.f5 := (Option.some.inj (Tryd.func5.symm.trans hfn)).symm
      exact ⟨by kernel_rfl, fun j t ht => by
        rw [Tryd.params5] at ht
        have hm : t ∈ [5, 5] := by simpa using Array.mem_of_getElem? ht
        have hall : ([5, 5].all fun u => !Tryd.prog.wantsStandIn u) = true := by kernel_rfl
        exact (show Tryd.prog.wantsStandIn t = false by simpa using List.all_eq_true.1 hall t hm)⟩)
    (by kernel_rfl)
end Go.Proofs.YtililfgbboecmaaDoor.shaEdgesP
namespace Go.Proofs.YtililfgbboecmaaDoor
theorem shaEdges_holds : Rows.ShaEdgesCardSaid := shaEdgesP.card
end Go.Proofs.YtililfgbboecmaaDoor
