/- The document's constants, first words, and words of a block. -/
import Derived.Test.YtdanmnhknmepiaaDoorSSum
namespace Go.Proofs.YtdanmnhknmepiaaDoor
open Go.RowKit
set_option linter.unusedVariables false
theorem built_64k : Tryd.prog.built 68 [(0, .int .i64 1116352408), (1, .int .i64 1899447441), (2, .int .i64 3049323471), (3, .int .i64 3921009573), (4, .int .i64 961987163), (5, .int .i64 1508970993), (6, .int .i64 2453635748), (7, .int .i64 2870763221), (8, .int .i64 3624381080), (9, .int .i64 310598401), (10, .int .i64 607225278), (11, .int .i64 1426881987), (12, .int .i64 1925078388), (13, .int .i64 2162078206), (14, .int .i64 2614888103), (15, .int .i64 3248222580), (16, .int .i64 3835390401), (17, .int .i64 4022224774), (18, .int .i64 264347078), (19, .int .i64 604807628), (20, .int .i64 770255983), (21, .int .i64 1249150122), (22, .int .i64 1555081692), (23, .int .i64 1996064986), (24, .int .i64 2554220882), (25, .int .i64 2821834349), (26, .int .i64 2952996808), (27, .int .i64 3210313671), (28, .int .i64 3336571891), (29, .int .i64 3584528711), (30, .int .i64 113926993), (31, .int .i64 338241895), (32, .int .i64 666307205), (33, .int .i64 773529912), (34, .int .i64 1294757372), (35, .int .i64 1396182291), (36, .int .i64 1695183700), (37, .int .i64 1986661051), (38, .int .i64 2177026350), (39, .int .i64 2456956037), (40, .int .i64 2730485921), (41, .int .i64 2820302411), (42, .int .i64 3259730800), (43, .int .i64 3345764771), (44, .int .i64 3516065817), (45, .int .i64 3600352804), (46, .int .i64 4094571909), (47, .int .i64 275423344), (48, .int .i64 430227734), (49, .int .i64 506948616), (50, .int .i64 659060556), (51, .int .i64 883997877), (52, .int .i64 958139571), (53, .int .i64 1322822218), (54, .int .i64 1537002063), (55, .int .i64 1747873779), (56, .int .i64 1955562222), (57, .int .i64 2024104815), (58, .int .i64 2227730452), (59, .int .i64 2361852424), (60, .int .i64 2428436474), (61, .int .i64 2756734187), (62, .int .i64 3204031479), (63, .int .i64 3329325298)] = some (rC .i64 64 kf) := by kernel_rfl
section
variable {P : Program} {olds : Olds} {p : Nat → Nat} {W : World} {F : Act → Ct → Prop} {n : Nat} {l : List Oper} {pl : List Sp} {a : Act} {ct : Ct} {o : Oper}
theorem mx_loadcR (ty : TypeId) (x : Operand) (ho : o.op = .load ty x) (g i : Nat) (hx : a.eval x = .pointer (some ⟨g, i, none⟩)) {t : TypeId} {cs : Array Value} (hg : RowR W g cs t) (hS : g ∉ olds.map (·.1)) (v : Value) (hc : cs[i]? = some v)
  (ha : ∀ w, (isAgg ty).run P w = .ok false w)
  (h : MX P olds p W F (n + 1) l pl (a.put o.dst v) ct) : MX P olds p W F n (o :: l) ((fun _ => v, [], none, []) :: pl) a ct := by
 refine mx_value v [] (fun w hk _ => ?_) h
 unfold execOp
 simp only [ho, hx, Instr.loadAt, Instr.sureAddr, Sem.run_bind, Sem.run_pure, Result.andThen_ok, run_load_cell w g i ty v ha ((hk.rowR hg hS).cell i |>.trans hc)]
end
theorem and_all (n : Nat) : n &&& 4294967295 = n % 4294967296 := Nat.and_two_pow_sub_one_eq_mod n 32
set_option maxRecDepth 100000 in
set_option maxHeartbeats 2000000 in
theorem rfirst_any (w : World) : Calls Tryd.prog 39 #[] w fun e w' => e = .returned (.agg (rC .i64 8 ivf)) ∧ Below w.heap.size w w' := by
 go_enter Tryd.func39, Tryd.ntmps39
 (repeat ((fail_if_success with_reducible refine rg ?_); go_step))
 apply wp_region_mixp [] [_] trivial List.nodup_nil
 ·intro p
  refine mx_new 61 rfl _ zero_8i ?_
  simp only [Act.put, List.setIfInBounds_toArray, List.set_cons_zero]
  refine mx_end ?_
  intro w2 hkw hrw hnew hdis
  have n0 := hnew 0 rfl
  have zr0 : Row w2 (p 0) (rC .i64 8 fun _ => 0) 61 := hrw 1 (61, rC .i64 8 fun _ => 0) rfl
  have sb := hkw.below w.heap.size (Nat.le_refl _) (by simp)
  have b0 : w.heap.size ≤ p 0 := n0
  clear hkw hrw hnew hdis n0
  generalize p 0 = g0 at *
  have r0 := zr0
  clear zr0
  (repeat ((fail_if_success with_reducible refine rg ?_); go_step))
  apply wp_region_mixp [(g0, 61, rC .i64 8 fun _ => 0)] [_, _] ⟨r0, trivial⟩ (by simp <;> omega)
  ·intro p
   refine mx_val (.agg (rC .i64 8 ivf)) (exec_build _ _ rfl _ rfl _ (built_8v ivf)) ?_
   simp only [Act.put, pu]
   refine mx_put 0 61 _ _ rfl rfl rfl (rC .i64 8 ivf) rfl (by rw [rC_size]; exact size_8i) (by simp only [rC_size]) (rC_one _ _ _) ?_
   simp only [Act.put]
   refine mx_end ?_
   intro w3 hkw hrw hnew hdis
   have zr0 : Row w3 (g0) (rC .i64 8 ivf) 61 := hrw 0 (61, rC .i64 8 ivf) rfl
   replace sb := sb.trans (hkw.below w.heap.size sb.size (by simp <;> omega))
   clear hkw hrw hnew hdis r0
   have r0 := zr0
   clear zr0
   go_wp2
   exact ret_row rfl _ rfl r0 8 _ Tryd.underlying61 (by rw [rC_size]; exact size_8i) rfl ⟨rfl, sb⟩
  ·rfl
 ·rfl
set_option maxRecDepth 100000 in
set_option maxHeartbeats 2000000 in
theorem rconst_any (w : World) : Calls Tryd.prog 47 #[] w fun e w' => e = .returned (.agg (rC .i64 64 kf)) ∧ Below w.heap.size w w' := by
 go_enter Tryd.func47, Tryd.ntmps47
 (repeat ((fail_if_success with_reducible refine rg ?_); go_step))
 apply wp_region_mixp [] [_] trivial List.nodup_nil
 ·intro p
  refine mx_new 68 rfl _ zero_64i ?_
  simp only [Act.put, List.setIfInBounds_toArray, List.set_cons_zero]
  refine mx_end ?_
  intro w2 hkw hrw hnew hdis
  have n0 := hnew 0 rfl
  have zr0 : Row w2 (p 0) (rC .i64 64 fun _ => 0) 68 := hrw 1 (68, rC .i64 64 fun _ => 0) rfl
  have sb := hkw.below w.heap.size (Nat.le_refl _) (by simp)
  have b0 : w.heap.size ≤ p 0 := n0
  clear hkw hrw hnew hdis n0
  generalize p 0 = g0 at *
  have r0 := zr0
  clear zr0
  (repeat ((fail_if_success with_reducible refine rg ?_); go_step))
  apply wp_region_mixp [(g0, 68, rC .i64 64 fun _ => 0)] [_, _] ⟨r0, trivial⟩ (by simp <;> omega)
  ·intro p
   refine mx_val (.agg (rC .i64 64 kf)) (exec_build _ _ rfl _ rfl _ built_64k) ?_
   simp only [Act.put, pu]
   refine mx_put 0 68 _ _ rfl rfl rfl (rC .i64 64 kf) rfl (by rw [rC_size]; exact size_64i) (by simp only [rC_size]) (rC_one _ _ _) ?_
   simp only [Act.put]
   refine mx_end ?_
   intro w3 hkw hrw hnew hdis
   have zr0 : Row w3 (g0) (rC .i64 64 kf) 68 := hrw 0 (68, rC .i64 64 kf) rfl
   replace sb := sb.trans (hkw.below w.heap.size sb.size (by simp <;> omega))
   clear hkw hrw hnew hdis r0
   have r0 := zr0
   clear zr0
   go_wp2
   exact ret_row rfl _ rfl r0 64 _ Tryd.underlying68 (by rw [rC_size]; exact size_64i) rfl ⟨rfl, sb⟩
  ·rfl
 ·rfl
/-- The rows that schedule holds on to. -/
structure ScH (wr w : World) (g2 g3 : Nat) (u : Nat → Nat) : Prop where
 z : Row wr g2 (rC .i64 64 fun _ => 0) 68
 o : Row wr g3 (rC .i64 64 u) 68
 below : Below w.heap.size w wr
set_option maxRecDepth 100000 in
set_option maxHeartbeats 2000000 in
theorem sched_any (b : Nat → Nat) (hb : ∀ i, b i < 256) (gb ob cb : Nat) (cs : Array Value) (tb : TypeId) (w : World) (rB0 : RowR w gb cs tb) (hcs : ∀ i, i < 64 → cs[ob + i]? = some (.int .u8 (b i : Nat))) :
  Calls Tryd.prog 46 #[.slice (some ⟨gb, ob, none⟩) 64 cb] w fun e w' => e = .returned (.agg (rC .i64 64 (wf b))) ∧ Below w.heap.size w w' := by
 have HB : Hid (RowR w gb cs tb) := rB0
 have lB := rB0.lt
 clear rB0
 go_enter Tryd.func46, Tryd.ntmps46
 (repeat ((fail_if_success with_reducible refine rg ?_); go_step))
 apply wp_region_mixp [] [_] trivial List.nodup_nil
 ·intro p
  refine mx_new 68 rfl _ zero_64i ?_
  simp only [Act.put, pu]
  refine mx_end ?_
  intro w2 hkw hrw hnew hdis
  have n2 := hnew 0 rfl
  have zr2 : Row w2 (p 0) (rC .i64 64 fun _ => 0) 68 := hrw 1 (68, rC .i64 64 fun _ => 0) rfl
  have sb := hkw.below w.heap.size (Nat.le_refl _) (by simp)
  have b2 : w.heap.size ≤ p 0 := n2
  clear hkw hrw hnew hdis n2
  generalize p 0 = g2 at *
  have r2 := zr2
  clear zr2
  (repeat ((fail_if_success with_reducible refine rg ?_); go_step))
  apply wp_region_mixp [] [_, _, _] trivial List.nodup_nil
  ·intro p
   refine mx_val (.agg (rC .i64 64 fun _ => 0)) (exec_build _ [] rfl _ rfl _ built_64i) ?_
   simp only [Act.put, pu]
   refine mx_new 68 rfl _ zero_64i ?_
   simp only [Act.put, pu]
   refine mx_put 3 68 _ _ rfl rfl rfl (rC .i64 64 fun _ => 0) rfl (by rw [rC_size]; exact size_64i) (by simp only [rC_size]) (rC_one _ _ _) ?_
   simp only [Act.put]
   refine mx_end ?_
   intro w3 hkw hrw hnew hdis
   have n3 := hnew 1 rfl
   have zr3 : Row w3 (p 1) (rC .i64 64 fun _ => 0) 68 := hrw 3 (68, rC .i64 64 fun _ => 0) rfl
   have d2x3 := Nat.lt_of_lt_of_le r2.lt n3
   replace r2 := hkw.row r2 (by simp <;> omega)
   have b3 := Nat.le_trans sb.size n3
   replace sb := sb.trans (hkw.below w.heap.size sb.size (by simp <;> omega))
   clear hkw hrw hnew hdis n3
   generalize p 1 = g3 at *
   have r3 := zr3
   clear zr3
   have H0 : ScH w3 w g2 g3 (upto (wf b) 0) := ⟨r2, by rw [upto_zero]; exact r3, sb⟩
   have HX : Hid (g2 ≠ g3 ∧ w.heap.size ≤ g2 ∧ w.heap.size ≤ g3 ∧ gb ≠ g3) := ⟨by omega, b2, b3, by omega⟩
   clear r2 r3 sb b2 b3 d2x3 lB
   go_wp2_with fail
   go_loopg [4] 16 (fun g s4 wr => ∃ i : Nat, i + g = 16 ∧ s4 = .int .i64 i ∧ ScH wr w g2 g3 (upto (wf b) i))
   case atStart => exact ⟨0, by omega, rfl, H0⟩
   case round =>
    obtain ⟨i, hi, rfl, r2, r3, sb⟩ := hrel
    obtain ⟨x1, x2, x3, x4⟩ := HX.out
    clear H0
    cases gk with
    | zero =>
     obtain rfl : i = 16 := by omega
     clear hi
     (repeat ((fail_if_success with_reducible refine rg ?_); go_step))
     apply wp_region_mixp [] [_, _] trivial List.nodup_nil
     ·intro p
      refine mx_move rfl rfl ?_
      simp only [Act.put, pu]
      refine mx_val (.bool false) (x_lt _ _ _ _ rfl 16 16 rfl rfl false rfl) ?_
      simp only [Act.put, pu]
      refine mx_end ?_
      intro w4 hkw hrw hnew hdis
      replace r2 := hkw.row r2 (by simp <;> omega)
      replace r3 := hkw.row r3 (by simp <;> omega)
      replace sb := sb.trans (hkw.below w.heap.size sb.size (by simp <;> omega))
      clear hkw hrw hnew hdis
      have H1 : ScH w4 w g2 g3 (upto (wf b) (16 + 0)) := ⟨r2, r3, sb⟩
      clear r2 r3 sb x1 x2 x3 x4
      go_wp2_with fail
      go_loopg [5] 48 (fun g s5 wr => ∃ i : Nat, i + g = 48 ∧ s5 = .int .i64 (16 + i : Nat) ∧ ScH wr w g2 g3 (upto (wf b) (16 + i)))
      case atStart => exact ⟨0, by omega, rfl, H1⟩
      case round =>
       obtain ⟨i, hi, rfl, r2, r3, sb⟩ := hrel
       obtain ⟨x1, x2, x3, x4⟩ := HX.out
       clear H1
       cases gk with
       | zero =>
        obtain rfl : i = 48 := by omega
        clear hi
        (repeat ((fail_if_success with_reducible refine rg ?_); go_step))
        apply wp_region_mixp [] [_, _] trivial List.nodup_nil
        ·intro p
         refine mx_move rfl rfl ?_
         simp only [Act.put, pu]
         refine mx_val (.bool false) (x_lt _ _ _ _ rfl (16 + 48 : Nat) 64 rfl rfl false rfl) ?_
         simp only [Act.put, pu]
         refine mx_end ?_
         intro w5 hkw hrw hnew hdis
         replace r2 := hkw.row r2 (by simp <;> omega)
         replace r3 := hkw.row r3 (by simp <;> omega)
         replace sb := sb.trans (hkw.below w.heap.size sb.size (by simp <;> omega))
         clear hkw hrw hnew hdis
         (repeat ((fail_if_success with_reducible refine rg ?_); go_step))
         apply wp_region_mixp [(g2, 68, rC .i64 64 fun _ => 0)] [_, _] ⟨r2, trivial⟩ (by simp <;> omega)
         ·intro p
          refine mx_load 68 _ rfl _ rfl r3 (by simp <;> omega) 64 _ Tryd.underlying68 (by rw [rC_size]; exact size_64i) ?_
          simp only [Act.put, pu]
          refine mx_put 0 68 _ _ rfl rfl rfl (rC .i64 64 (upto (wf b) (16 + 48))) rfl (by rw [rC_size]; exact size_64i) (by simp only [rC_size]) (rC_one _ _ _) ?_
          simp only [Act.put]
          refine mx_end ?_
          intro w6 hkw hrw hnew hdis
          have zr2 : Row w6 (g2) (rC .i64 64 (upto (wf b) (16 + 48))) 68 := hrw 0 (68, rC .i64 64 (upto (wf b) (16 + 48))) rfl
          replace sb := sb.trans (hkw.below w.heap.size sb.size (by simp <;> omega))
          clear hkw hrw hnew hdis r2
          have r2 := zr2
          clear zr2
          go_wp2
          exact ret_row rfl _ rfl r2 64 _ Tryd.underlying68 (by rw [rC_size]; exact size_64i) rfl ⟨by rw [rC_congr .i64 64 fun i hi => upto_lt (wf b) (16 + 48) i hi], sb⟩
         ·rfl
        ·rfl
       | succ g =>
        (repeat ((fail_if_success with_reducible refine rg ?_); go_step))
        apply wp_region_mixp [] [_, _] trivial List.nodup_nil
        ·intro p
         refine mx_move rfl rfl ?_
         simp only [Act.put, pu]
         refine mx_val (.bool true) (x_lt _ _ _ _ rfl (16 + i : Nat) 64 rfl rfl true (decide_eq_true (by omega))) ?_
         simp only [Act.put, pu]
         refine mx_end ?_
         intro w5 hkw hrw hnew hdis
         replace r2 := hkw.row r2 (by simp <;> omega)
         replace r3 := hkw.row r3 (by simp <;> omega)
         replace sb := sb.trans (hkw.below w.heap.size sb.size (by simp <;> omega))
         clear hkw hrw hnew hdis
         (repeat ((fail_if_success with_reducible refine rg ?_); go_step))
         refine wp_region_qw (by kernel_rfl) (by kernel_rfl) ?_
         refine qw_move (by rfl) rfl rfl ?_
         simp only [Act.put, pu]
         refine qw_value (by rfl) (.int .i64 (16 + i - 15 : Nat)) (xi_sub _ _ _ _ rfl (16 + i) (15) rfl rfl (by omega) (by omega)) ?_
         simp only [Act.put, pu]
         refine qw_value (by rfl) (.pointer (some ⟨g3, 16 + i - 15, none⟩)) (exec_index 68 _ _ rfl (g3) rfl (16 + i - 15) 64 rfl (by omega) _ Tryd.underlying68 Tryd.sizeOf3) ?_
         simp only [Act.put, pu]
         refine qw_loadc (by rfl) 3 _ rfl _ (16 + i - 15) rfl r3 (.int .i64 (wf b (16 + i - 15) : Nat)) ((rC_get _ _ _ _ (by omega)).trans (by rw [upto_lt _ _ _ (by omega)])) Tryd.isAgg3 ?_
         simp only [Act.put, pu]
         refine qw_move (by rfl) rfl rfl ?_
         simp only [Act.put, pu]
         refine qw_value (by rfl) (.int .i64 (16 + i - 2 : Nat)) (xi_sub _ _ _ _ rfl (16 + i) (2) rfl rfl (by omega) (by omega)) ?_
         simp only [Act.put, pu]
         refine qw_value (by rfl) (.pointer (some ⟨g3, 16 + i - 2, none⟩)) (exec_index 68 _ _ rfl (g3) rfl (16 + i - 2) 64 rfl (by omega) _ Tryd.underlying68 Tryd.sizeOf3) ?_
         simp only [Act.put, pu]
         refine qw_loadc (by rfl) 3 _ rfl _ (16 + i - 2) rfl r3 (.int .i64 (wf b (16 + i - 2) : Nat)) ((rC_get _ _ _ _ (by omega)).trans (by rw [upto_lt _ _ _ (by omega)])) Tryd.isAgg3 ?_
         simp only [Act.put, pu]
         refine qw_asg (by rfl) rfl rfl ?_
         simp only [Act.put, pu]
         refine qw_asg (by rfl) rfl rfl ?_
         simp only [Act.put, pu]
         refine qw_nil ?_
         intro w6 hqb
         replace r2 := r2.belowAll hqb
         replace r3 := r3.belowAll hqb
         replace sb := below_on sb (Nat.le_refl _) hqb
         clear hqb
         (repeat ((fail_if_success with_reducible refine rg ?_); go_step))
         refine wp_region_qp ?_
         refine qw_move (by rfl) rfl rfl ?_
         simp only [Act.put, pu]
         refine qw_call (by rfl) 48 _ _ rfl Tryd.func48 (by kernel_rfl) #[.int .i64 (wf b (16 + i - 15) : Nat), .int .i64 7] rfl _ (fun w' => rrotr_any (wf b (16 + i - 15)) 7 w' (wf_lt hb _) (by decide) (by decide)) ?_
         simp only [Act.put, pu]
         refine qw_move (by rfl) rfl rfl ?_
         simp only [Act.put, pu]
         refine qw_call (by rfl) 48 _ _ rfl Tryd.func48 (by kernel_rfl) #[.int .i64 (wf b (16 + i - 15) : Nat), .int .i64 18] rfl _ (fun w' => rrotr_any (wf b (16 + i - 15)) 18 w' (wf_lt hb _) (by decide) (by decide)) ?_
         simp only [Act.put, pu]
         refine qw_value (by rfl) (.int .i64 ((rr (wf b (16 + i - 15)) 7) ^^^ (rr (wf b (16 + i - 15)) 18) : Nat)) (xi_xor _ _ _ _ rfl (rr (wf b (16 + i - 15)) 7) (rr (wf b (16 + i - 15)) 18) rfl rfl (lt63 (rr_lt 7 (wf_lt hb _))) (lt63 (rr_lt 18 (wf_lt hb _)))) ?_
         simp only [Act.put, pu]
         refine qw_move (by rfl) rfl rfl ?_
         simp only [Act.put, pu]
         refine qw_value (by rfl) (.int .i64 ((wf b (16 + i - 15)) / 2 ^ 3 : Nat)) (xi_shr _ _ _ _ rfl (wf b (16 + i - 15)) (3) .u64 rfl rfl (by omega)) ?_
         simp only [Act.put, pu]
         refine qw_value (by rfl) (.int .i64 (((rr (wf b (16 + i - 15)) 7) ^^^ (rr (wf b (16 + i - 15)) 18)) ^^^ ((wf b (16 + i - 15)) / 2 ^ 3) : Nat)) (xi_xor _ _ _ _ rfl ((rr (wf b (16 + i - 15)) 7) ^^^ (rr (wf b (16 + i - 15)) 18)) ((wf b (16 + i - 15)) / 2 ^ 3) rfl rfl (lt63 (xor32 (rr_lt 7 (wf_lt hb _)) (rr_lt 18 (wf_lt hb _)))) (lt63 (div32 (wf_lt hb _)))) ?_
         simp only [Act.put, pu]
         refine qw_asg (by rfl) rfl rfl ?_
         simp only [Act.put, pu]
         refine qw_nil ?_
         intro w7 hqb
         replace r2 := r2.belowAll hqb
         replace r3 := r3.belowAll hqb
         replace sb := below_on sb (Nat.le_refl _) hqb
         clear hqb
         (repeat ((fail_if_success with_reducible refine rg ?_); go_step))
         refine wp_region_qp ?_
         refine qw_move (by rfl) rfl rfl ?_
         simp only [Act.put, pu]
         refine qw_call (by rfl) 48 _ _ rfl Tryd.func48 (by kernel_rfl) #[.int .i64 (wf b (16 + i - 2) : Nat), .int .i64 17] rfl _ (fun w' => rrotr_any (wf b (16 + i - 2)) 17 w' (wf_lt hb _) (by decide) (by decide)) ?_
         simp only [Act.put, pu]
         refine qw_move (by rfl) rfl rfl ?_
         simp only [Act.put, pu]
         refine qw_call (by rfl) 48 _ _ rfl Tryd.func48 (by kernel_rfl) #[.int .i64 (wf b (16 + i - 2) : Nat), .int .i64 19] rfl _ (fun w' => rrotr_any (wf b (16 + i - 2)) 19 w' (wf_lt hb _) (by decide) (by decide)) ?_
         simp only [Act.put, pu]
         refine qw_value (by rfl) (.int .i64 ((rr (wf b (16 + i - 2)) 17) ^^^ (rr (wf b (16 + i - 2)) 19) : Nat)) (xi_xor _ _ _ _ rfl (rr (wf b (16 + i - 2)) 17) (rr (wf b (16 + i - 2)) 19) rfl rfl (lt63 (rr_lt 17 (wf_lt hb _))) (lt63 (rr_lt 19 (wf_lt hb _)))) ?_
         simp only [Act.put, pu]
         refine qw_move (by rfl) rfl rfl ?_
         simp only [Act.put, pu]
         refine qw_value (by rfl) (.int .i64 ((wf b (16 + i - 2)) / 2 ^ 10 : Nat)) (xi_shr _ _ _ _ rfl (wf b (16 + i - 2)) (10) .u64 rfl rfl (by omega)) ?_
         simp only [Act.put, pu]
         refine qw_value (by rfl) (.int .i64 (((rr (wf b (16 + i - 2)) 17) ^^^ (rr (wf b (16 + i - 2)) 19)) ^^^ ((wf b (16 + i - 2)) / 2 ^ 10) : Nat)) (xi_xor _ _ _ _ rfl ((rr (wf b (16 + i - 2)) 17) ^^^ (rr (wf b (16 + i - 2)) 19)) ((wf b (16 + i - 2)) / 2 ^ 10) rfl rfl (lt63 (xor32 (rr_lt 17 (wf_lt hb _)) (rr_lt 19 (wf_lt hb _)))) (lt63 (div32 (wf_lt hb _)))) ?_
         simp only [Act.put, pu]
         refine qw_asg (by rfl) rfl rfl ?_
         simp only [Act.put, pu]
         refine qw_nil ?_
         intro w8 hqb
         replace r2 := r2.belowAll hqb
         replace r3 := r3.belowAll hqb
         replace sb := below_on sb (Nat.le_refl _) hqb
         clear hqb
         have hN : wf b (16 + i) = (ss1 (wf b (16 + i - 2)) + wf b (16 + i - 7) + ss0 (wf b (16 + i - 15)) + wf b (16 + i - 16)) % 4294967296 := wf_hi b _ (by omega)
         have h0 : ss0 (wf b (16 + i - 15)) < 4294967296 := ss0_lt (wf_lt hb _)
         have h1 : ss1 (wf b (16 + i - 2)) < 4294967296 := ss1_lt (wf_lt hb _)
         have h2 := wf_lt hb (16 + i - 7)
         have h3 := wf_lt hb (16 + i - 16)
         rw [show ((rr (wf b (16 + i - 15)) 7) ^^^ (rr (wf b (16 + i - 15)) 18)) ^^^ ((wf b (16 + i - 15)) / 2 ^ 3) = ss0 (wf b (16 + i - 15)) from rfl, show ((rr (wf b (16 + i - 2)) 17) ^^^ (rr (wf b (16 + i - 2)) 19)) ^^^ ((wf b (16 + i - 2)) / 2 ^ 10) = ss1 (wf b (16 + i - 2)) from rfl]
         generalize ss0 (wf b (16 + i - 15)) = y0 at *
         generalize ss1 (wf b (16 + i - 2)) = y1 at *
         generalize e2 : wf b (16 + i - 7) = y2 at *
         generalize e3 : wf b (16 + i - 16) = y3 at *
         (repeat ((fail_if_success with_reducible refine rg ?_); go_step))
         apply wp_region_mix (by kernel_rfl) [(g3, 68, rC .i64 64 (upto (wf b) (16 + i)))] [_, _, _, _, _, _, _, _, _, _, _, _, _, _, _, _, _] ⟨r3, trivial⟩ (by simp <;> omega)
         ·intro p
          refine mx_move rfl rfl ?_
          simp only [Act.put, pu]
          refine mx_move rfl rfl ?_
          simp only [Act.put, pu]
          refine mx_move rfl rfl ?_
          simp only [Act.put, pu]
          refine mx_val (.int .i64 (16 + i - 7 : Nat)) (xi_sub _ _ _ _ rfl (16 + i) (7) rfl rfl (by omega) (by omega)) ?_
          simp only [Act.put, pu]
          refine mx_val (.pointer (some ⟨g3, 16 + i - 7, none⟩)) (exec_index 68 _ _ rfl (g3) rfl (16 + i - 7) 64 rfl (by omega) _ Tryd.underlying68 Tryd.sizeOf3) ?_
          simp only [Act.put, pu]
          refine mx_loadcT 0 3 _ rfl (16 + i - 7) rfl rfl (.int .i64 (y2 : Nat)) ((rC_get _ _ _ _ (by omega)).trans (by rw [upto_lt _ _ _ (by omega), e2])) Tryd.isAgg3 ?_
          simp only [Act.put, pu]
          refine mx_val (.int .i64 (y1 + y2 : Nat)) (xi_add _ _ _ _ rfl (y1) (y2) rfl rfl (by omega)) ?_
          simp only [Act.put, pu]
          refine mx_move rfl rfl ?_
          simp only [Act.put, pu]
          refine mx_val (.int .i64 (y1 + y2 + y0 : Nat)) (xi_add _ _ _ _ rfl (y1 + y2) (y0) rfl rfl (by omega)) ?_
          simp only [Act.put, pu]
          refine mx_move rfl rfl ?_
          simp only [Act.put, pu]
          refine mx_val (.int .i64 (16 + i - 16 : Nat)) (xi_sub _ _ _ _ rfl (16 + i) (16) rfl rfl (by omega) (by omega)) ?_
          simp only [Act.put, pu]
          refine mx_val (.pointer (some ⟨g3, 16 + i - 16, none⟩)) (exec_index 68 _ _ rfl (g3) rfl (16 + i - 16) 64 rfl (by omega) _ Tryd.underlying68 Tryd.sizeOf3) ?_
          simp only [Act.put, pu]
          refine mx_loadcT 0 3 _ rfl (16 + i - 16) rfl rfl (.int .i64 (y3 : Nat)) ((rC_get _ _ _ _ (by omega)).trans (by rw [upto_lt _ _ _ (by omega), e3])) Tryd.isAgg3 ?_
          simp only [Act.put, pu]
          refine mx_val (.int .i64 (y1 + y2 + y0 + y3 : Nat)) (xi_add _ _ _ _ rfl (y1 + y2 + y0) (y3) rfl rfl (by omega)) ?_
          simp only [Act.put, pu]
          refine mx_val (.int .i64 ((y1 + y2 + y0 + y3) % 4294967296 : Nat)) (xi_and _ _ _ _ rfl (y1 + y2 + y0 + y3) 4294967295 _ rfl rfl (by omega) (by decide) (and_all _)) ?_
          simp only [Act.put, pu]
          refine mx_val (.pointer (some ⟨g3, 16 + i, none⟩)) (exec_index 68 _ _ rfl (g3) rfl (16 + i) 64 rfl (by omega) _ Tryd.underlying68 Tryd.sizeOf3) ?_
          simp only [Act.put, pu]
          refine mx_putc 0 3 _ _ rfl (16 + i) rfl rfl .i64 ((((y1 + y2 + y0 + y3) % 4294967296 : Nat) : Int)) rfl Tryd.sizeOf3 (by rw [rC_size]; omega) (rC .i64 64 (upto (wf b) (16 + i + 1))) (rC_put _ _ _ _ _ _ (upto_put _ _ _ hN _)) ?_
          simp only [Act.put]
          refine mx_end ?_
          intro w9 hkw hrw hnew hdis
          have zr3 : Row w9 (g3) (rC .i64 64 (upto (wf b) (16 + i + 1))) 68 := hrw 0 (68, rC .i64 64 (upto (wf b) (16 + i + 1))) rfl
          replace r2 := hkw.row r2 (by simp <;> omega)
          replace sb := sb.trans (hkw.below w.heap.size sb.size (by simp <;> omega))
          clear hkw hrw hnew hdis r3
          have r3 := zr3
          clear zr3
          (repeat ((fail_if_success with_reducible refine rg ?_); go_step))
          apply wp_region_mixp [] [_, _, _] trivial List.nodup_nil
          ·intro p
           refine mx_move rfl rfl ?_
           simp only [Act.put, pu]
           refine mx_val (.int .i64 (16 + i + 1 : Nat)) (xi_add _ _ _ _ rfl (16 + i) 1 rfl rfl (by omega)) ?_
           simp only [Act.put, pu]
           refine mx_asg rfl rfl ?_
           simp only [Act.put, pu]
           refine mx_end ?_
           intro w10 hkw hrw hnew hdis
           replace r2 := hkw.row r2 (by simp <;> omega)
           replace r3 := hkw.row r3 (by simp <;> omega)
           replace sb := sb.trans (hkw.below w.heap.size sb.size (by simp <;> omega))
           clear hkw hrw hnew hdis
           go_wp2
           go_roundg g
           case measure => omega
           case rel => exact ⟨i + 1, by omega, rfl, r2, r3, sb⟩
          ·rfl
         ·kernel_rfl
        ·rfl
     ·rfl
    | succ g =>
     (repeat ((fail_if_success with_reducible refine rg ?_); go_step))
     apply wp_region_mixp [] [_, _] trivial List.nodup_nil
     ·intro p
      refine mx_move rfl rfl ?_
      simp only [Act.put, pu]
      refine mx_val (.bool true) (x_lt _ _ _ _ rfl i 16 rfl rfl true (decide_eq_true (by omega))) ?_
      simp only [Act.put, pu]
      refine mx_end ?_
      intro w4 hkw hrw hnew hdis
      replace r2 := hkw.row r2 (by simp <;> omega)
      replace r3 := hkw.row r3 (by simp <;> omega)
      replace sb := sb.trans (hkw.below w.heap.size sb.size (by simp <;> omega))
      clear hkw hrw hnew hdis
      have rB := HB.out.belowAll sb
      have hN : wf b i = ((((b (4 * i)) * 2 ^ 24) ||| ((b (4 * i + 1)) * 2 ^ 16)) ||| ((b (4 * i + 2)) * 2 ^ 8)) ||| (b (4 * i + 3)) := by
       rw [wf_lo b i (by omega)]
       rfl
      (repeat ((fail_if_success with_reducible refine rg ?_); go_step))
      apply wp_region_mix (by kernel_rfl) [(g3, 68, rC .i64 64 (upto (wf b) i))] [_, _, _, _, _, _, _, _, _, _, _, _, _, _, _, _, _, _, _, _, _, _, _, _, _, _, _, _, _, _, _, _, _, _, _, _] ⟨r3, trivial⟩ (by simp <;> omega)
      ·intro p
       refine mx_move rfl rfl ?_
       simp only [Act.put, pu]
       refine mx_move rfl rfl ?_
       simp only [Act.put, pu]
       refine mx_move rfl rfl ?_
       simp only [Act.put, pu]
       refine mx_val (.int .i64 (4 * i : Nat)) (xi_mul _ _ _ _ rfl (4) (i) _ rfl rfl rfl (by omega)) ?_
       simp only [Act.put, pu]
       refine mx_val (.pointer (some ⟨gb, ob + (4 * i), none⟩)) (x_idxS _ _ _ rfl gb ob 64 cb rfl (4 * i) rfl (by omega) _ Tryd.underlying35 Tryd.sizeOf5 _ rfl) ?_
       simp only [Act.put, pu]
       refine mx_loadcR 5 _ rfl gb (ob + (4 * i)) rfl rB (by simp <;> omega) (.int .u8 (b (4 * i) : Nat)) (hcs _ (by omega)) Tryd.isAgg5 ?_
       simp only [Act.put, pu]
       refine mx_val (.int .i64 (b (4 * i) : Nat)) (x_conv _ _ _ rfl .u8 .i64 Tryd.underlying5 Tryd.underlying3 ((b (4 * i) : Nat) : Int) _ rfl (wrap_i64 _ (by have := (hb (4 * i)); omega))) ?_
       simp only [Act.put, pu]
       refine mx_val (.int .i64 ((b (4 * i)) * 2 ^ 24 : Nat)) (xi_shl _ _ _ _ rfl (b (4 * i)) (24) .u64 rfl rfl (by omega) (by have := (hb (4 * i)); omega)) ?_
       simp only [Act.put, pu]
       refine mx_move rfl rfl ?_
       simp only [Act.put, pu]
       refine mx_move rfl rfl ?_
       simp only [Act.put, pu]
       refine mx_val (.int .i64 (4 * i : Nat)) (xi_mul _ _ _ _ rfl (4) (i) _ rfl rfl rfl (by omega)) ?_
       simp only [Act.put, pu]
       refine mx_val (.int .i64 (4 * i + 1 : Nat)) (xi_add _ _ _ _ rfl (4 * i) (1) rfl rfl (by omega)) ?_
       simp only [Act.put, pu]
       refine mx_val (.pointer (some ⟨gb, ob + (4 * i + 1), none⟩)) (x_idxS _ _ _ rfl gb ob 64 cb rfl (4 * i + 1) rfl (by omega) _ Tryd.underlying35 Tryd.sizeOf5 _ rfl) ?_
       simp only [Act.put, pu]
       refine mx_loadcR 5 _ rfl gb (ob + (4 * i + 1)) rfl rB (by simp <;> omega) (.int .u8 (b (4 * i + 1) : Nat)) (hcs _ (by omega)) Tryd.isAgg5 ?_
       simp only [Act.put, pu]
       refine mx_val (.int .i64 (b (4 * i + 1) : Nat)) (x_conv _ _ _ rfl .u8 .i64 Tryd.underlying5 Tryd.underlying3 ((b (4 * i + 1) : Nat) : Int) _ rfl (wrap_i64 _ (by have := (hb (4 * i + 1)); omega))) ?_
       simp only [Act.put, pu]
       refine mx_val (.int .i64 ((b (4 * i + 1)) * 2 ^ 16 : Nat)) (xi_shl _ _ _ _ rfl (b (4 * i + 1)) (16) .u64 rfl rfl (by omega) (by have := (hb (4 * i + 1)); omega)) ?_
       simp only [Act.put, pu]
       refine mx_val (.int .i64 (((b (4 * i)) * 2 ^ 24) ||| ((b (4 * i + 1)) * 2 ^ 16) : Nat)) (xi_or _ _ _ _ rfl ((b (4 * i)) * 2 ^ 24) ((b (4 * i + 1)) * 2 ^ 16) rfl rfl (lt63 (by have := (hb (4 * i)); omega)) (lt63 (by have := (hb (4 * i + 1)); omega))) ?_
       simp only [Act.put, pu]
       refine mx_move rfl rfl ?_
       simp only [Act.put, pu]
       refine mx_move rfl rfl ?_
       simp only [Act.put, pu]
       refine mx_val (.int .i64 (4 * i : Nat)) (xi_mul _ _ _ _ rfl (4) (i) _ rfl rfl rfl (by omega)) ?_
       simp only [Act.put, pu]
       refine mx_val (.int .i64 (4 * i + 2 : Nat)) (xi_add _ _ _ _ rfl (4 * i) (2) rfl rfl (by omega)) ?_
       simp only [Act.put, pu]
       refine mx_val (.pointer (some ⟨gb, ob + (4 * i + 2), none⟩)) (x_idxS _ _ _ rfl gb ob 64 cb rfl (4 * i + 2) rfl (by omega) _ Tryd.underlying35 Tryd.sizeOf5 _ rfl) ?_
       simp only [Act.put, pu]
       refine mx_loadcR 5 _ rfl gb (ob + (4 * i + 2)) rfl rB (by simp <;> omega) (.int .u8 (b (4 * i + 2) : Nat)) (hcs _ (by omega)) Tryd.isAgg5 ?_
       simp only [Act.put, pu]
       refine mx_val (.int .i64 (b (4 * i + 2) : Nat)) (x_conv _ _ _ rfl .u8 .i64 Tryd.underlying5 Tryd.underlying3 ((b (4 * i + 2) : Nat) : Int) _ rfl (wrap_i64 _ (by have := (hb (4 * i + 2)); omega))) ?_
       simp only [Act.put, pu]
       refine mx_val (.int .i64 ((b (4 * i + 2)) * 2 ^ 8 : Nat)) (xi_shl _ _ _ _ rfl (b (4 * i + 2)) (8) .u64 rfl rfl (by omega) (by have := (hb (4 * i + 2)); omega)) ?_
       simp only [Act.put, pu]
       refine mx_val (.int .i64 ((((b (4 * i)) * 2 ^ 24) ||| ((b (4 * i + 1)) * 2 ^ 16)) ||| ((b (4 * i + 2)) * 2 ^ 8) : Nat)) (xi_or _ _ _ _ rfl (((b (4 * i)) * 2 ^ 24) ||| ((b (4 * i + 1)) * 2 ^ 16)) ((b (4 * i + 2)) * 2 ^ 8) rfl rfl (lt63 (or32 (by have := (hb (4 * i)); omega) (by have := (hb (4 * i + 1)); omega))) (lt63 (by have := (hb (4 * i + 2)); omega))) ?_
       simp only [Act.put, pu]
       refine mx_move rfl rfl ?_
       simp only [Act.put, pu]
       refine mx_move rfl rfl ?_
       simp only [Act.put, pu]
       refine mx_val (.int .i64 (4 * i : Nat)) (xi_mul _ _ _ _ rfl (4) (i) _ rfl rfl rfl (by omega)) ?_
       simp only [Act.put, pu]
       refine mx_val (.int .i64 (4 * i + 3 : Nat)) (xi_add _ _ _ _ rfl (4 * i) (3) rfl rfl (by omega)) ?_
       simp only [Act.put, pu]
       refine mx_val (.pointer (some ⟨gb, ob + (4 * i + 3), none⟩)) (x_idxS _ _ _ rfl gb ob 64 cb rfl (4 * i + 3) rfl (by omega) _ Tryd.underlying35 Tryd.sizeOf5 _ rfl) ?_
       simp only [Act.put, pu]
       refine mx_loadcR 5 _ rfl gb (ob + (4 * i + 3)) rfl rB (by simp <;> omega) (.int .u8 (b (4 * i + 3) : Nat)) (hcs _ (by omega)) Tryd.isAgg5 ?_
       simp only [Act.put, pu]
       refine mx_val (.int .i64 (b (4 * i + 3) : Nat)) (x_conv _ _ _ rfl .u8 .i64 Tryd.underlying5 Tryd.underlying3 ((b (4 * i + 3) : Nat) : Int) _ rfl (wrap_i64 _ (by have := (hb (4 * i + 3)); omega))) ?_
       simp only [Act.put, pu]
       refine mx_val (.int .i64 (((((b (4 * i)) * 2 ^ 24) ||| ((b (4 * i + 1)) * 2 ^ 16)) ||| ((b (4 * i + 2)) * 2 ^ 8)) ||| (b (4 * i + 3)) : Nat)) (xi_or _ _ _ _ rfl ((((b (4 * i)) * 2 ^ 24) ||| ((b (4 * i + 1)) * 2 ^ 16)) ||| ((b (4 * i + 2)) * 2 ^ 8)) (b (4 * i + 3)) rfl rfl (lt63 (or32 (or32 (by have := (hb (4 * i)); omega) (by have := (hb (4 * i + 1)); omega)) (by have := (hb (4 * i + 2)); omega))) (lt63 (lt8 (hb (4 * i + 3))))) ?_
       simp only [Act.put, pu]
       refine mx_val (.pointer (some ⟨g3, i, none⟩)) (exec_index 68 _ _ rfl (g3) rfl (i) 64 rfl (by omega) _ Tryd.underlying68 Tryd.sizeOf3) ?_
       simp only [Act.put, pu]
       refine mx_putc 0 3 _ _ rfl (i) rfl rfl .i64 (((((((b (4 * i)) * 2 ^ 24) ||| ((b (4 * i + 1)) * 2 ^ 16)) ||| ((b (4 * i + 2)) * 2 ^ 8)) ||| (b (4 * i + 3)) : Nat) : Int)) rfl Tryd.sizeOf3 (by rw [rC_size]; omega) (rC .i64 64 (upto (wf b) (i + 1))) (rC_put _ _ _ _ _ _ (upto_put _ _ _ hN _)) ?_
       simp only [Act.put]
       refine mx_end ?_
       intro w5 hkw hrw hnew hdis
       have zr3 : Row w5 (g3) (rC .i64 64 (upto (wf b) (i + 1))) 68 := hrw 0 (68, rC .i64 64 (upto (wf b) (i + 1))) rfl
       replace r2 := hkw.row r2 (by simp <;> omega)
       replace sb := sb.trans (hkw.below w.heap.size sb.size (by simp <;> omega))
       clear hkw hrw hnew hdis r3
       have r3 := zr3
       clear zr3
       (repeat ((fail_if_success with_reducible refine rg ?_); go_step))
       apply wp_region_mixp [] [_, _, _] trivial List.nodup_nil
       ·intro p
        refine mx_move rfl rfl ?_
        simp only [Act.put, pu]
        refine mx_val (.int .i64 (i + 1 : Nat)) (xi_add _ _ _ _ rfl i 1 rfl rfl (by omega)) ?_
        simp only [Act.put, pu]
        refine mx_asg rfl rfl ?_
        simp only [Act.put, pu]
        refine mx_end ?_
        intro w6 hkw hrw hnew hdis
        replace r2 := hkw.row r2 (by simp <;> omega)
        replace r3 := hkw.row r3 (by simp <;> omega)
        replace sb := sb.trans (hkw.below w.heap.size sb.size (by simp <;> omega))
        clear hkw hrw hnew hdis
        go_wp2
        go_roundg g
        case measure => omega
        case rel => exact ⟨i + 1, by omega, rfl, r2, r3, sb⟩
       ·rfl
      ·kernel_rfl
     ·rfl
  ·rfl
 ·rfl
end Go.Proofs.YtdanmnhknmepiaaDoor
