/- hmac: byteAt, Same, blockOf, the closure of Sum, digestOf, Sum. -/
import Derived.Test.YtdanmnhknmepiaaDoorHMath
import Derived.Test.YtdanmnhknmepiaaDoorSMore
import Derived.Test.YtdanmnhknmepiaaDoorSSum2
import Derived.Test.YtdanmnhknmepiaaDoorSPad
namespace Go.Proofs.YtdanmnhknmepiaaDoor
open Go.RowKit
set_option linter.unusedVariables false
section
variable {P : Program} {o : Oper} {ρ : Operand → Value}
theorem x8_xor (t : TypeId) (x y : Operand) (u : TypeId) (ho : o.op = .binOp .xor t x y u) (n m : Nat) (hx : ρ x = .int .u8 n) (hy : ρ y = .int .u8 m) (hn : n < 256) (hm : m < 256) (w : World) :
  (execOp ρ o).run P w = .ok (.value (.int .u8 ((n ^^^ m : Nat) : Int))) w := by
 unfold execOp
 simp only [ho, hx, hy]
 simp [go_sem]
 rw [u8_xor_nat n m hn hm]
theorem x_max (t u : TypeId) (x y : Operand) (ho : o.op = .call { callee := .builtin .max, args := #[x, y], argTypes := #[t, u] }) (n m r : Nat) (hx : ρ x = .int .i64 n) (hy : ρ y = .int .i64 m) (hr : max n m = r) (w : World) :
  (execOp ρ o).run P w = .ok (.value (.int .i64 (r : Nat))) w := by
 subst hr
 have e : (if (m : Int) > (n : Int) then (m : Int) else (n : Int)) = ((max n m : Nat) : Int) := by
  split <;> omega
 unfold execOp
 simp only [ho]
 simp only [resolve, invoke, Sem.run_bind, Sem.run_pure, Result.andThen_ok, List.map_toArray, List.map_cons, List.map_nil, hx, hy]
 simp [builtin, run_max_int2]
 split <;> omega
end
/-- A call of a closure that only makes memory, in the quiet walk. -/
theorem qw_callC {P : Program} {ops : Array Oper} {W : World} {Q : Act → Prop} {rest : List Oper} {o : Oper} {a : Act} {fn : Func} (hw : Region.wanted o (yielded ops a.tmps) = true) (f : FuncId) (t : Tmp) (args : Array Operand) (ts : Array TypeId)
  (ho : o.op = .call { callee := .value (.tmp t), args := args, argTypes := ts }) (caps : Array Value) (hcl : a.eval (.tmp t) = .func (.func f) #[] caps) (hf : P.funcs[f]? = some fn) (hb : (fn.name == "runtime.NumGoroutine" || fn.body.isNone) = false)
  (vs : Array Value) (hv' : args.toList.map a.eval = vs.toList) (v : Value)
  (hc : ∀ w, Below W.heap.size W w → Calls P f (vs ++ caps) w fun e w' => e = .returned v ∧ Below w.heap.size w w')
  (h : QW P ops W Q rest (a.put o.dst v)) : QW P ops W Q (o :: rest) a := by
 refine ⟨?_⟩
 unfold wpQuiet
 rw [if_pos hw]
 refine ⟨v, fun w hC => ?_, h.out⟩
 have hv : args.map a.eval = vs := by apply Array.toList_inj.1; rw [Array.toList_map]; exact hv'
 have hr := run_callFunc_body (P := P) hf hb (vs ++ caps) w
 have hd : (execOp a.eval o).run P w = .ok (.enter f (vs ++ caps)) w := by
  unfold execOp
  simp only [ho, resolve, hv, hcl]
  simp [Deferred.ofValue, invoke, hr]
 unfold Oper.quietAt
 rw [hd]
 exact ⟨rfl, (hc w hC).mono fun e w' ⟨he, hb'⟩ => ⟨he, below_on hC (Nat.le_refl _) hb'⟩⟩
theorem copy_key (L : List UInt8) (hL : L.length ≤ 64) : putL (rC .u8 64 fun _ => 0) 0 (b8s (L.take L.length)) = rC .u8 64 (bf L) := by
 rw [List.take_length]
 apply Array.ext_getElem?
 intro i
 rw [putL_get _ _ _ _ (by rw [b8s_length, rC_size]; omega), b8s_length]
 by_cases hi : i < 64
 ·rw [rC_get .u8 64 (bf L) i hi]
  by_cases h : 0 ≤ i ∧ i < 0 + L.length
  ·rw [if_pos h, Nat.sub_zero, b8s_get _ _ (by omega)]
  ·rw [if_neg h, rC_get _ _ _ _ hi, bf_beyond L i (by omega)]
 ·rw [if_neg (by omega), Array.getElem?_eq_none (by rw [rC_size]; omega), Array.getElem?_eq_none (by rw [rC_size]; omega)]
set_option maxRecDepth 100000 in
set_option maxHeartbeats 2000000 in
theorem blockOf_any (l : List UInt8) (w : World) (hl : l.length < 576460752303423488) (kT : KT w) :
  Calls Tryd.prog 23 #[.string ⟨l.toArray⟩] w fun e w' => e = .returned (.agg (rC .u8 64 (bf (keyL l)))) ∧ Below w.heap.size w w' := by
 have hsz_l : (⟨l.toArray⟩ : ByteArray).size = l.length := by simp [ByteArray.size]
 go_enter Tryd.func23, Tryd.ntmps23
 (repeat ((fail_if_success with_reducible refine rg ?_); go_step))
 apply wp_region_mixp [] [_] trivial List.nodup_nil
 ·intro p
  refine mx_new 43 rfl _ zero_64b ?_
  simp only [Act.put, pu]
  refine mx_end ?_
  intro w2 hkw hrw hnew hdis
  have n2 := hnew 0 rfl
  have zr2 : Row w2 (p 0) (rC .u8 64 fun _ => 0) 43 := hrw 1 (43, rC .u8 64 fun _ => 0) rfl
  have sb := hkw.below w.heap.size (Nat.le_refl _) (by simp)
  have b2 : w.heap.size ≤ p 0 := n2
  clear hkw hrw hnew hdis n2
  generalize p 0 = g2 at *
  have r2 := zr2
  clear zr2
  by_cases h : 64 < l.length
  ·have HK : Hid (keyL l = sha l) := keyL_long h
   have hL : (sha l).length ≤ 64 := by rw [sha_length]; omega
   (repeat ((fail_if_success with_reducible refine rg ?_); go_step))
   refine wp_region_qp ?_
   refine qw_move (by rfl) rfl rfl ?_
   simp only [Act.put, pu]
   refine qw_value (by rfl) (.int .i64 (l.length : Nat)) (fun w' => (x_lenS _ _ rfl ⟨l.toArray⟩ rfl Tryd.underlying9 w').trans (by rw [hsz_l])) ?_
   simp only [Act.put, pu]
   refine qw_value (by rfl) (.bool true) (x_gt _ _ _ _ rfl l.length 64 rfl rfl true (decide_eq_true (by omega))) ?_
   simp only [Act.put, pu]
   refine qw_nil ?_
   intro w3 hqb
   replace r2 := r2.belowAll hqb
   replace sb := below_on sb (Nat.le_refl _) hqb
   clear hqb
   replace kT := kT.below sb
   (repeat ((fail_if_success with_reducible refine rg ?_); go_step))
   refine wp_region_qp ?_
   refine qw_move (by rfl) rfl rfl ?_
   simp only [Act.put, pu]
   refine qw_callK (by rfl) 29 _ _ rfl Tryd.func29 (by kernel_rfl) #[.string ⟨l.toArray⟩] rfl _ (fun w' hb => ssum_any l w' hl (kT.below hb)) ?_
   simp only [Act.put, pu]
   refine qw_asg (by rfl) rfl rfl ?_
   simp only [Act.put, List.setIfInBounds_toArray, List.set_cons_zero]
   refine qw_nil ?_
   intro w3 hqb
   replace r2 := r2.belowAll hqb
   replace sb := below_on sb (Nat.le_refl _) hqb
   clear hqb
   clear kT
   (repeat ((fail_if_success with_reducible refine rg ?_); go_step))
   apply wp_region_mixp [] [_] trivial List.nodup_nil
   ·intro p
    refine mx_new 43 rfl _ zero_64b ?_
    simp only [Act.put, pu]
    refine mx_end ?_
    intro w4 hkw hrw hnew hdis
    have n3 := hnew 0 rfl
    have zr3 : Row w4 (p 0) (rC .u8 64 fun _ => 0) 43 := hrw 1 (43, rC .u8 64 fun _ => 0) rfl
    have d2x3 := Nat.lt_of_lt_of_le r2.lt n3
    replace r2 := hkw.row r2 (by simp <;> omega)
    have b3 := Nat.le_trans sb.size n3
    replace sb := sb.trans (hkw.below w.heap.size sb.size (by simp <;> omega))
    clear hkw hrw hnew hdis n3
    generalize p 0 = g3 at *
    have r3 := zr3
    clear zr3
    have hcp := copy_key (sha l) hL
    have hq : min (sha l).length 64 = (sha l).length := by omega
    (repeat ((fail_if_success with_reducible refine rg ?_); go_step))
    apply wp_region_mixp [(g3, 43, rC .u8 64 fun _ => 0)] [_, _, _] ⟨r3, trivial⟩ (by simp <;> omega)
    ·intro p
     refine mx_val (.slice (some ⟨g3, 0, none⟩) 64 64) (x_sliceAll 43 5 _ 64 Tryd.underlying43 Tryd.sizeOf5 rfl g3 0 rfl (by omega)) ?_
     simp only [Act.put, pu]
     refine mx_move rfl rfl ?_
     simp only [Act.put, pu]
     refine mx_copyS 0 _ _ _ _ 5 rfl Tryd.underlying35 Tryd.sizeOf5 0 64 64 rfl rfl (sha l) rfl (sha l).length hq (by rw [rC_size]; omega) (rC .u8 64 (bf (sha l))) hcp ?_
     simp only [Act.put, pu]
     refine mx_end ?_
     intro w5 hkw hrw hnew hdis
     have zr3 : Row w5 (g3) (rC .u8 64 (bf (sha l))) 43 := hrw 0 (43, rC .u8 64 (bf (sha l))) rfl
     replace r2 := hkw.row r2 (by simp <;> omega)
     replace sb := sb.trans (hkw.below w.heap.size sb.size (by simp <;> omega))
     clear hkw hrw hnew hdis r3
     have r3 := zr3
     clear zr3
     (repeat ((fail_if_success with_reducible refine rg ?_); go_step))
     apply wp_region_mixp [(g2, 43, rC .u8 64 fun _ => 0)] [_, _] ⟨r2, trivial⟩ (by simp <;> omega)
     ·intro p
      refine mx_load 43 _ rfl _ rfl r3 (by simp <;> omega) 64 _ Tryd.underlying43 (by rw [rC_size]; exact size_64b) ?_
      simp only [Act.put, pu]
      refine mx_put 0 43 _ _ rfl rfl rfl (rC .u8 64 (bf (sha l))) rfl (by rw [rC_size]; exact size_64b) (by simp only [rC_size]) (rC_one _ _ _) ?_
      simp only [Act.put]
      refine mx_end ?_
      intro w6 hkw hrw hnew hdis
      have zr2 : Row w6 (g2) (rC .u8 64 (bf (sha l))) 43 := hrw 0 (43, rC .u8 64 (bf (sha l))) rfl
      replace sb := sb.trans (hkw.below w.heap.size sb.size (by simp <;> omega))
      clear hkw hrw hnew hdis r2
      have r2 := zr2
      clear zr2
      go_wp2
      exact ret_row rfl _ rfl r2 64 _ Tryd.underlying43 (by rw [rC_size]; exact size_64b) rfl ⟨by rw [HK.out], sb⟩
     ·rfl
    ·rfl
   ·rfl
  ·have HK : Hid (keyL l = l) := keyL_short h
   have hL : l.length ≤ 64 := by omega
   (repeat ((fail_if_success with_reducible refine rg ?_); go_step))
   refine wp_region_qp ?_
   refine qw_move (by rfl) rfl rfl ?_
   simp only [Act.put, pu]
   refine qw_value (by rfl) (.int .i64 (l.length : Nat)) (fun w' => (x_lenS _ _ rfl ⟨l.toArray⟩ rfl Tryd.underlying9 w').trans (by rw [hsz_l])) ?_
   simp only [Act.put, pu]
   refine qw_value (by rfl) (.bool false) (x_gt _ _ _ _ rfl l.length 64 rfl rfl false (decide_eq_false (by omega))) ?_
   simp only [Act.put, pu]
   refine qw_nil ?_
   intro w3 hqb
   replace r2 := r2.belowAll hqb
   replace sb := below_on sb (Nat.le_refl _) hqb
   clear hqb
   clear kT
   (repeat ((fail_if_success with_reducible refine rg ?_); go_step))
   apply wp_region_mixp [] [_] trivial List.nodup_nil
   ·intro p
    refine mx_new 43 rfl _ zero_64b ?_
    simp only [Act.put, pu]
    refine mx_end ?_
    intro w4 hkw hrw hnew hdis
    have n3 := hnew 0 rfl
    have zr3 : Row w4 (p 0) (rC .u8 64 fun _ => 0) 43 := hrw 1 (43, rC .u8 64 fun _ => 0) rfl
    have d2x3 := Nat.lt_of_lt_of_le r2.lt n3
    replace r2 := hkw.row r2 (by simp <;> omega)
    have b3 := Nat.le_trans sb.size n3
    replace sb := sb.trans (hkw.below w.heap.size sb.size (by simp <;> omega))
    clear hkw hrw hnew hdis n3
    generalize p 0 = g3 at *
    have r3 := zr3
    clear zr3
    have hcp := copy_key (l) hL
    have hq : min (l).length 64 = (l).length := by omega
    (repeat ((fail_if_success with_reducible refine rg ?_); go_step))
    apply wp_region_mixp [(g3, 43, rC .u8 64 fun _ => 0)] [_, _, _] ⟨r3, trivial⟩ (by simp <;> omega)
    ·intro p
     refine mx_val (.slice (some ⟨g3, 0, none⟩) 64 64) (x_sliceAll 43 5 _ 64 Tryd.underlying43 Tryd.sizeOf5 rfl g3 0 rfl (by omega)) ?_
     simp only [Act.put, pu]
     refine mx_move rfl rfl ?_
     simp only [Act.put, pu]
     refine mx_copyS 0 _ _ _ _ 5 rfl Tryd.underlying35 Tryd.sizeOf5 0 64 64 rfl rfl (l) rfl (l).length hq (by rw [rC_size]; omega) (rC .u8 64 (bf (l))) hcp ?_
     simp only [Act.put, pu]
     refine mx_end ?_
     intro w5 hkw hrw hnew hdis
     have zr3 : Row w5 (g3) (rC .u8 64 (bf (l))) 43 := hrw 0 (43, rC .u8 64 (bf (l))) rfl
     replace r2 := hkw.row r2 (by simp <;> omega)
     replace sb := sb.trans (hkw.below w.heap.size sb.size (by simp <;> omega))
     clear hkw hrw hnew hdis r3
     have r3 := zr3
     clear zr3
     (repeat ((fail_if_success with_reducible refine rg ?_); go_step))
     apply wp_region_mixp [(g2, 43, rC .u8 64 fun _ => 0)] [_, _] ⟨r2, trivial⟩ (by simp <;> omega)
     ·intro p
      refine mx_load 43 _ rfl _ rfl r3 (by simp <;> omega) 64 _ Tryd.underlying43 (by rw [rC_size]; exact size_64b) ?_
      simp only [Act.put, pu]
      refine mx_put 0 43 _ _ rfl rfl rfl (rC .u8 64 (bf (l))) rfl (by rw [rC_size]; exact size_64b) (by simp only [rC_size]) (rC_one _ _ _) ?_
      simp only [Act.put]
      refine mx_end ?_
      intro w6 hkw hrw hnew hdis
      have zr2 : Row w6 (g2) (rC .u8 64 (bf (l))) 43 := hrw 0 (43, rC .u8 64 (bf (l))) rfl
      replace sb := sb.trans (hkw.below w.heap.size sb.size (by simp <;> omega))
      clear hkw hrw hnew hdis r2
      have r2 := zr2
      clear zr2
      go_wp2
      exact ret_row rfl _ rfl r2 64 _ Tryd.underlying43 (by rw [rC_size]; exact size_64b) rfl ⟨by rw [HK.out], sb⟩
     ·rfl
    ·rfl
   ·rfl
 ·rfl
/-- What the closure holds on to. -/
structure TrH (wr w : World) (g1 g4 : Nat) (B : Nat → Nat) (b i : Nat) : Prop where
 r4 : Row wr g4 (rC .u8 64 (trn B b i)) 43
 below : Below w.heap.size w wr
set_option maxRecDepth 100000 in
set_option maxHeartbeats 2000000 in
theorem turned_any (B : Nat → Nat) (b g1 : Nat) (w : World) (hB : ∀ i, B i < 256) (hb : b < 256) (r1 : Row w g1 (rC .u8 64 B) 43) :
  Calls Tryd.prog 24 #[.int .u8 (b : Nat), .pointer (some ⟨g1, 0, none⟩)] w fun e w' => e = .returned (.string ⟨(trnL B b).toArray⟩) ∧ Below w.heap.size w w' := by
 have HB : Hid (∀ i, B i < 256) := hB
 have hlen := trnL_length B b
 clear hB
 go_enter Tryd.func24, Tryd.ntmps24
 (repeat ((fail_if_success with_reducible refine rg ?_); go_step))
 apply wp_region_mixp [] [_] trivial List.nodup_nil
 ·intro p
  refine mx_val (.string ⟨#[]⟩) (fun _ => rfl) ?_
  simp only [Act.put, pu]
  refine mx_end ?_
  intro w2 hkw hrw hnew hdis
  replace r1 := hkw.row r1 (by simp <;> omega)
  have sb := hkw.below w.heap.size (Nat.le_refl _) (by simp)
  clear hkw hrw hnew hdis
  (repeat ((fail_if_success with_reducible refine rg ?_); go_step))
  apply wp_region_mixp [] [_, _, _] trivial List.nodup_nil
  ·intro p
   refine mx_load 43 _ rfl _ rfl r1 (by simp <;> omega) 64 _ Tryd.underlying43 (by rw [rC_size]; exact size_64b) ?_
   simp only [Act.put, pu]
   refine mx_new 43 rfl _ zero_64b ?_
   simp only [Act.put, pu]
   refine mx_put 3 43 _ _ rfl rfl rfl (rC .u8 64 B) rfl (by rw [rC_size]; exact size_64b) (by simp only [rC_size]) (rC_one _ _ _) ?_
   simp only [Act.put]
   refine mx_end ?_
   intro w3 hkw hrw hnew hdis
   have n4 := hnew 1 rfl
   have zr4 : Row w3 (p 1) (rC .u8 64 B) 43 := hrw 3 (43, rC .u8 64 B) rfl
   have b4 := Nat.le_trans sb.size n4
   replace sb := sb.trans (hkw.below w.heap.size sb.size (by simp <;> omega))
   clear hkw hrw hnew hdis n4
   generalize p 1 = g4 at *
   have r4 := zr4
   clear zr4
   (repeat ((fail_if_success with_reducible refine rg ?_); go_step))
   apply wp_region_mixp [] [_] trivial List.nodup_nil
   ·intro p
    refine mx_val (.int .i64 0) (fun _ => rfl) ?_
    simp only [Act.put, pu]
    refine mx_end ?_
    intro w4 hkw hrw hnew hdis
    replace r4 := hkw.row r4 (by simp <;> omega)
    replace sb := sb.trans (hkw.below w.heap.size sb.size (by simp <;> omega))
    clear hkw hrw hnew hdis
    have H0 : TrH w4 w g1 g4 B b 0 := ⟨by rw [trn_zero]; exact r4, sb⟩
    have HX : Hid (w.heap.size ≤ g4) := b4
    clear r4 sb b4
    go_wp2_with fail
    go_loopg [5, 7] 64 (fun g s5 s7 wr => ∃ k : Nat, k + g = 64 ∧ s7 = .int .i64 (k : Nat) ∧ TrH wr w g1 g4 B b k)
    case atStart => exact ⟨0, by omega, rfl, H0⟩
    case round =>
     obtain ⟨k, hk, rfl, r4, sb⟩ := hrel
     have x1 := HX.out
     clear H0
     cases gk with
     | zero =>
      obtain rfl : k = 64 := by omega
      clear hk
      (repeat ((fail_if_success with_reducible refine rg ?_); go_step))
      apply wp_region_mixp [] [_] trivial List.nodup_nil
      ·intro p
       refine mx_val (.bool false) (x_lt _ _ _ _ rfl 64 64 rfl rfl false rfl) ?_
       simp only [Act.put, pu]
       refine mx_end ?_
       intro w5 hkw hrw hnew hdis
       replace r4 := hkw.row r4 (by simp <;> omega)
       replace sb := sb.trans (hkw.below w.heap.size sb.size (by simp <;> omega))
       clear hkw hrw hnew hdis
       (repeat ((fail_if_success with_reducible refine rg ?_); go_step))
       apply wp_region_mixp [] [_, _, _] trivial List.nodup_nil
       ·intro p
        refine mx_val (.slice (some ⟨g4, 0, none⟩) 64 64) (x_sliceAll 43 5 _ 64 Tryd.underlying43 Tryd.sizeOf5 rfl g4 0 rfl (by omega)) ?_
        simp only [Act.put, pu]
        refine mx_value (.string ⟨(trnL B b).toArray⟩) [] (fun w' hkw _ => x_str _ rfl g4 0 64 64 (trnL B b) rfl hlen w' (hkw.row r4 (by simp)).r (fun j hj => by rw [hlen] at hj; exact (rC_get _ _ _ _ (by omega)).trans (by rw [Nat.zero_add, trn_done B b j hj (HB.out j) hb]))) ?_
        simp only [Act.put, pu]
        refine mx_asg rfl rfl ?_
        simp only [Act.put, pu]
        refine mx_end ?_
        intro w6 hkw hrw hnew hdis
        replace sb := sb.trans (hkw.below w.heap.size sb.size (by simp <;> omega))
        clear hkw hrw hnew hdis
        go_wp2
        go_ret
        exact ⟨rfl, sb⟩
       ·rfl
      ·rfl
     | succ g =>
      have hk64 : k < 64 := by omega
      have hBk := HB.out k
      (repeat ((fail_if_success with_reducible refine rg ?_); go_step))
      apply wp_region_mixp [] [_] trivial List.nodup_nil
      ·intro p
       refine mx_val (.bool true) (x_lt _ _ _ _ rfl k 64 rfl rfl true (decide_eq_true (by omega))) ?_
       simp only [Act.put, pu]
       refine mx_end ?_
       intro w5 hkw hrw hnew hdis
       replace r4 := hkw.row r4 (by simp <;> omega)
       replace sb := sb.trans (hkw.below w.heap.size sb.size (by simp <;> omega))
       clear hkw hrw hnew hdis
       (repeat ((fail_if_success with_reducible refine rg ?_); go_step))
       apply wp_region_mixp [] [_, _] trivial List.nodup_nil
       ·intro p
        refine mx_move rfl rfl ?_
        simp only [Act.put, pu]
        refine mx_asg rfl rfl ?_
        simp only [Act.put, pu]
        refine mx_end ?_
        intro w6 hkw hrw hnew hdis
        replace r4 := hkw.row r4 (by simp <;> omega)
        replace sb := sb.trans (hkw.below w.heap.size sb.size (by simp <;> omega))
        clear hkw hrw hnew hdis
        (repeat ((fail_if_success with_reducible refine rg ?_); go_step))
        apply wp_region_mixp [(g4, 43, rC .u8 64 (trn B b k))] [_, _, _, _, _, _, _] ⟨r4, trivial⟩ (by simp <;> omega)
        ·intro p
         refine mx_move rfl rfl ?_
         simp only [Act.put, pu]
         refine mx_val (.pointer (some ⟨g4, k, none⟩)) (exec_index 43 _ _ rfl (g4) rfl (k) 64 rfl (by omega) _ Tryd.underlying43 Tryd.sizeOf5) ?_
         simp only [Act.put, pu]
         refine mx_loadcT 0 5 _ rfl (k) rfl rfl (.int .u8 (B k : Nat)) ((rC_get _ _ _ _ (by omega)).trans (by rw [trn_self])) Tryd.isAgg5 ?_
         simp only [Act.put, pu]
         refine mx_move rfl rfl ?_
         simp only [Act.put, pu]
         refine mx_val (.int .u8 (B k ^^^ b : Nat)) (x8_xor _ _ _ _ rfl (B k) b rfl rfl hBk hb) ?_
         simp only [Act.put, pu]
         refine mx_val (.pointer (some ⟨g4, k, none⟩)) (exec_index 43 _ _ rfl (g4) rfl (k) 64 rfl (by omega) _ Tryd.underlying43 Tryd.sizeOf5) ?_
         simp only [Act.put, pu]
         refine mx_putc 0 5 _ _ rfl (k) rfl rfl .u8 (((B k ^^^ b : Nat) : Int)) rfl Tryd.sizeOf5 (by rw [rC_size]; omega) (rC .u8 64 (trn B b (k + 1))) (rC_put _ _ _ _ _ _ (trn_put _ _ _ _)) ?_
         simp only [Act.put]
         refine mx_end ?_
         intro w7 hkw hrw hnew hdis
         have zr4 : Row w7 (g4) (rC .u8 64 (trn B b (k + 1))) 43 := hrw 0 (43, rC .u8 64 (trn B b (k + 1))) rfl
         replace sb := sb.trans (hkw.below w.heap.size sb.size (by simp <;> omega))
         clear hkw hrw hnew hdis r4
         have r4 := zr4
         clear zr4
         (repeat ((fail_if_success with_reducible refine rg ?_); go_step))
         apply wp_region_mixp [] [_, _] trivial List.nodup_nil
         ·intro p
          refine mx_val (.int .i64 (k + 1 : Nat)) (xi_add _ _ _ _ rfl k 1 rfl rfl (by omega)) ?_
          simp only [Act.put, pu]
          refine mx_move rfl rfl ?_
          simp only [Act.put, pu]
          refine mx_end ?_
          intro w8 hkw hrw hnew hdis
          replace r4 := hkw.row r4 (by simp <;> omega)
          replace sb := sb.trans (hkw.below w.heap.size sb.size (by simp <;> omega))
          clear hkw hrw hnew hdis
          go_wp2
          go_roundg g
          case measure => omega
          case rel => exact ⟨k + 1, by omega, rfl, r4, sb⟩
         ·rfl
        ·rfl
       ·rfl
      ·rfl
   ·rfl
  ·rfl
 ·rfl
set_option maxRecDepth 100000 in
set_option maxHeartbeats 2000000 in
theorem digestOf_any (l s : List UInt8) (w : World) (hl : (l ++ s).length < 576460752303423488) (kT : KT w) :
  Calls Tryd.prog 25 #[.string ⟨l.toArray⟩, .string ⟨s.toArray⟩] w fun e w' => e = .returned (.string ⟨(sha (l ++ s)).toArray⟩) ∧ Below w.heap.size w w' := by
 have k0 := kT.lt
 have hll : l.length < 1152921504606846976 := by rw [List.length_append] at hl; omega
 go_enter Tryd.func25, Tryd.ntmps25
 go_wp2_with fail
 refine (hnew_any _).mono ?_
 rintro _ w2 ⟨g, rfl, hg, r, sb⟩
 dsimp only
 go_wp2_with fail
 refine (add_any [] l (fun _ => 0) g _ (by simp; omega) hs_nil r (kT.below sb) (by omega)).mono ?_
 rintro _ w3 ⟨rfl, B1, hHS1, r, sk⟩
 replace sb := sb.trans (sk.below w.heap.size sb.size (by simpa using hg))
 clear sk
 rw [List.nil_append] at hHS1 r
 dsimp only
 go_wp2_with fail
 refine (add_any l s B1 g _ (by omega) hHS1 r (kT.below sb) (by omega)).mono ?_
 rintro _ w4 ⟨rfl, B2, hHS2, r, sk⟩
 replace sb := sb.trans (sk.below w.heap.size sb.size (by simpa using hg))
 clear sk hHS1
 dsimp only
 go_wp2_with fail
 refine (hsum_any (l ++ s) B2 g _ hl hHS2 r (kT.below sb)).mono ?_
 rintro _ w5 ⟨rfl, bb⟩
 replace sb := below_on sb (Nat.le_refl _) bb
 dsimp only
 go_wp2
 go_ret
 exact ⟨rfl, sb⟩
set_option maxRecDepth 100000 in
set_option maxHeartbeats 2000000 in
theorem tag_any (k s : List UInt8) (w : World) (hk : k.length < 576460752303423488) (hs : s.length < 288230376151711744) (kT : KT w) :
  Calls Tryd.prog 17 #[.string ⟨k.toArray⟩, .string ⟨s.toArray⟩] w fun e w' => e = .returned (.string ⟨(hm k s).toArray⟩) ∧ Below w.heap.size w w' := by
 have h1 : (turnL k 54 ++ s).length < 576460752303423488 := by rw [List.length_append, turnL_length]; omega
 have h2 : (turnL k 92 ++ sha (turnL k 54 ++ s)).length < 576460752303423488 := by rw [List.length_append, turnL_length, sha_length]; omega
 go_enter Tryd.func17, Tryd.ntmps17
 (repeat ((fail_if_success with_reducible refine rg ?_); go_step))
 apply wp_region_mixp [] [_] trivial List.nodup_nil
 ·intro p
  refine mx_val (.string ⟨#[]⟩) (fun _ => rfl) ?_
  simp only [Act.put, pu]
  refine mx_end ?_
  intro w2 hkw hrw hnew hdis
  have sb := hkw.below w.heap.size (Nat.le_refl _) (by simp)
  clear hkw hrw hnew hdis
  (repeat ((fail_if_success with_reducible refine rg ?_); go_step))
  apply wp_region_mixp [] [_, _, _, _] trivial List.nodup_nil
  ·intro p
   refine mx_move rfl rfl ?_
   simp only [Act.put, pu]
   refine mx_callK 23 _ _ rfl Tryd.func23 (by kernel_rfl) #[.string ⟨k.toArray⟩] rfl _ (fun w' hkw => blockOf_any k w' hk ((kT.below sb).kept hkw (by simp))) ?_
   simp only [Act.put, pu]
   refine mx_new 43 rfl _ zero_64b ?_
   simp only [Act.put, pu]
   refine mx_put 5 43 _ _ rfl rfl rfl (rC .u8 64 (bf (keyL k))) rfl (by rw [rC_size]; exact size_64b) (by simp only [rC_size]) (rC_one _ _ _) ?_
   simp only [Act.put]
   refine mx_end ?_
   intro w3 hkw hrw hnew hdis
   have n5 := hnew 2 rfl
   have zr5 : Row w3 (p 2) (rC .u8 64 (bf (keyL k))) 43 := hrw 5 (43, rC .u8 64 (bf (keyL k))) rfl
   have b5 := Nat.le_trans sb.size n5
   replace sb := sb.trans (hkw.below w.heap.size sb.size (by simp <;> omega))
   clear hkw hrw hnew hdis n5
   generalize p 2 = g5 at *
   have r5 := zr5
   clear zr5
   (repeat ((fail_if_success with_reducible refine rg ?_); go_step))
   apply wp_region_mixp [] [_, _] trivial List.nodup_nil
   ·intro p
    refine mx_val (.func (.func 24) #[] #[.pointer (some ⟨g5, 0, none⟩)]) (exec_func _ _ rfl _ rfl) ?_
    simp only [Act.put, pu]
    refine mx_asg rfl rfl ?_
    simp only [Act.put, pu]
    refine mx_end ?_
    intro w4 hkw hrw hnew hdis
    replace r5 := hkw.row r5 (by simp <;> omega)
    replace sb := sb.trans (hkw.below w.heap.size sb.size (by simp <;> omega))
    clear hkw hrw hnew hdis
    replace kT := kT.below sb
    (repeat ((fail_if_success with_reducible refine rg ?_); go_step))
    refine wp_region_qp ?_
    refine qw_move (by rfl) rfl rfl ?_
    simp only [Act.put, pu]
    refine qw_callC (by rfl) 24 _ _ _ rfl #[.pointer (some ⟨g5, 0, none⟩)] rfl Tryd.func24 (by kernel_rfl) #[.int .u8 (92 : Nat)] rfl (.string ⟨(turnL k 92).toArray⟩) (fun w' hb => turned_any (bf (keyL k)) 92 g5 w' (bf_lt _) (by decide) (r5.belowAll hb)) ?_
    simp only [Act.put, pu]
    refine qw_move (by rfl) rfl rfl ?_
    simp only [Act.put, pu]
    refine qw_callC (by rfl) 24 _ _ _ rfl #[.pointer (some ⟨g5, 0, none⟩)] rfl Tryd.func24 (by kernel_rfl) #[.int .u8 (54 : Nat)] rfl (.string ⟨(turnL k 54).toArray⟩) (fun w' hb => turned_any (bf (keyL k)) 54 g5 w' (bf_lt _) (by decide) (r5.belowAll hb)) ?_
    simp only [Act.put, pu]
    refine qw_move (by rfl) rfl rfl ?_
    simp only [Act.put, pu]
    refine qw_callK (by rfl) 25 _ _ rfl Tryd.func25 (by kernel_rfl) #[.string ⟨(turnL k 54).toArray⟩, .string ⟨s.toArray⟩] rfl _ (fun w' hb => digestOf_any (turnL k 54) s w' h1 (kT.below hb)) ?_
    simp only [Act.put, pu]
    refine qw_callK (by rfl) 25 _ _ rfl Tryd.func25 (by kernel_rfl) #[.string ⟨(turnL k 92).toArray⟩, .string ⟨(sha (turnL k 54 ++ s)).toArray⟩] rfl _ (fun w' hb => digestOf_any (turnL k 92) (sha (turnL k 54 ++ s)) w' h2 (kT.below hb)) ?_
    simp only [Act.put, pu]
    refine qw_asg (by rfl) rfl rfl ?_
    simp only [Act.put, pu]
    refine qw_nil ?_
    intro w5 hqb
    replace sb := below_on sb (Nat.le_refl _) hqb
    clear hqb
    go_wp2
    go_ret
    exact ⟨rfl, sb⟩
   ·rfl
  ·rfl
 ·rfl
end Go.Proofs.YtdanmnhknmepiaaDoor
