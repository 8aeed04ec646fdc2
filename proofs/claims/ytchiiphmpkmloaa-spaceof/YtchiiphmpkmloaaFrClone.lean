/- strings.Clone. -/
import Derived.Test.YtchiiphmpkmloaaSSum
import Derived.Test.YtchiiphmpkmloaaYText
import Derived.Lib.UnsafeStr
namespace Go.Proofs.Ytchiiphmpkmloaa
open Go.RowKit
set_option linter.unusedVariables false
theorem copy_all (L : List UInt8) : putL (rC .u8 L.length fun _ => 0) 0 (b8s (L.take L.length)) = rC .u8 L.length (bf L) := by
 rw [List.take_length]
 apply Array.ext_getElem?
 intro i
 rw [putL_get _ _ _ _ (by rw [b8s_length, rC_size]; omega), b8s_length]
 by_cases hi : i < L.length
 ·rw [rC_get .u8 L.length (bf L) i hi, if_pos (by omega), Nat.sub_zero, b8s_get _ _ (by omega)]
 ·rw [if_neg (by omega), Array.getElem?_eq_none (by rw [rC_size]; omega), Array.getElem?_eq_none (by rw [rC_size]; omega)]
theorem cellsB1 : Try.prog.cellsOf 5 = 1 := by kernel_rfl
/-- unsafe.String over a row of bytes. -/
theorem x_ustr {o : Oper} {ρ : Operand → Value} (x y : Operand) (pt it : TypeId) (ho : o.op = .call { callee := .builtin .unsafeString, args := #[x, y], argTypes := #[pt, it] }) (hp : Try.prog.underlying pt = some (.pointer 5)) (g : Nat) (l : List UInt8) (hx : ρ x = .pointer (some ⟨g, 0, none⟩)) (hy : ρ y = .int .i64 (l.length : Nat))
  (w : World) (hr : Row w g (rC .u8 l.length (bf l)) 5) (h0 : l ≠ []) (h63 : l.length ≤ 9223372036854775807) : (execOp ρ o).run Try.prog w = .ok (.value (.string ⟨l.toArray⟩)) (w.freeze ⟨g, 0, none⟩ l.length) := by
 have h := Lib.run_unsafeString_row (P := Try.prog) w pt it o.type 5 hp cellsB1 g l.length (by unfold World.shape?; rw [hr]; simp [rC_size]) l h0 (Nat.le_refl _) h63 (fun j b hj => by
  have hl : j < l.length := (List.getElem?_eq_some_iff.1 hj).1
  rw [Addr.add_mid, hr.r.cell, Nat.zero_add, rC_get _ _ _ _ hl]
  unfold bf
  rw [List.getD_eq_getElem?_getD, hj]
  rfl)
 unfold execOp
 simp only [ho]
 simp only [resolve, invoke, Sem.run_bind, Sem.run_pure, Result.andThen_ok, List.map_toArray, List.map_cons, List.map_nil, hx, hy]
 simp [builtin, h]
set_option maxRecDepth 100000 in
set_option maxHeartbeats 2000000 in
theorem sclone_any (l : List UInt8) (w : World) (hl : l.length ≤ 16777216) :
  Calls Try.prog 35 #[.string ⟨l.toArray⟩] w fun e w' => e = .returned (.string ⟨l.toArray⟩) ∧ Below w.heap.size w w' := by
 by_cases h : l.length = 0
 ·obtain rfl : l = [] := List.eq_nil_of_length_eq_zero h
  clear h hl
  go_enter Try.func35, Try.ntmps35
  (repeat ((fail_if_success with_reducible refine rg ?_); go_step))
  refine wp_region_pw ?_
  refine pw_move (by rfl) (.inr rfl) rfl ?_
  simp only [Act.put, pu]
  refine pw_nil ?_
  have sb := Below.refl w.heap.size w
  (repeat ((fail_if_success with_reducible refine rg ?_); go_step))
  refine wp_region_pw ?_
  refine pw_mv (by rfl) rfl rfl ?_
  simp only [Act.put, pu]
  refine pw_value (by rfl) (.int .i64 0) (y_lenS _ _ rfl [] rfl Try.underlying9) ?_
  simp only [Act.put, pu]
  refine pw_value (by rfl) (.bool true) (x_eqI _ _ _ _ rfl .i64 0 0 rfl rfl true rfl) ?_
  simp only [Act.put, pu]
  refine pw_nil ?_
  (repeat ((fail_if_success with_reducible refine rg ?_); go_step))
  refine wp_region_pw ?_
  refine pw_move (by rfl) (.inr rfl) rfl ?_
  simp only [Act.put, pu]
  refine pw_nil ?_
  go_wp2
  go_ret
  exact ⟨rfl, sb⟩
 ·have h0 : l ≠ [] := fun e => h (by rw [e]; rfl)
  have hcp := copy_all l
  have hq : min l.length l.length = l.length := Nat.min_self _
  have hx : (l.length : Int) ≠ 0 := by omega
  have h1 : 0 < l.length := by omega
  go_enter Try.func35, Try.ntmps35
  (repeat ((fail_if_success with_reducible refine rg ?_); go_step))
  refine wp_region_pw ?_
  refine pw_move (by rfl) (.inr rfl) rfl ?_
  simp only [Act.put, pu]
  refine pw_nil ?_
  have sb := Below.refl w.heap.size w
  (repeat ((fail_if_success with_reducible refine rg ?_); go_step))
  refine wp_region_pw ?_
  refine pw_mv (by rfl) rfl rfl ?_
  simp only [Act.put, pu]
  refine pw_value (by rfl) (.int .i64 (l.length : Nat)) (y_lenS _ _ rfl l rfl Try.underlying9) ?_
  simp only [Act.put, pu]
  refine pw_value (by rfl) (.bool false) (x_eqI _ _ _ _ rfl .i64 (l.length : Nat) 0 rfl rfl false (decide_eq_false hx)) ?_
  simp only [Act.put, pu]
  refine pw_nil ?_
  (repeat ((fail_if_success with_reducible refine rg ?_); go_step))
  apply wp_region_mixp [] [_, _, _, _] trivial List.nodup_nil
  ·intro p
   refine mx_move rfl rfl ?_
   simp only [Act.put, pu]
   refine mx_val (.int .i64 (l.length : Nat)) (y_lenS _ _ rfl l rfl Try.underlying9) ?_
   simp only [Act.put, pu]
   refine mx_makeB _ _ rfl .i64 l.length rfl rfl hl ?_
   simp only [Act.put, pu]
   refine mx_asgP 2 (fun g => .slice (some ⟨g, 0, none⟩) l.length l.length) (.inl rfl) (by omega) rfl ?_
   simp only [Act.put, pu]
   refine mx_end ?_
   intro w4 hkw hrw hnew hdis
   have n9 := hnew 2 rfl
   have zr9 : Row w4 (p 2) (rC .u8 l.length fun _ => 0) 5 := hrw 5 (5, rC .u8 l.length fun _ => 0) rfl
   have b9 := Nat.le_trans sb.size n9
   replace sb := sb.trans (hkw.below w.heap.size sb.size (by simp <;> omega))
   clear hkw hrw hnew hdis n9
   generalize p 2 = g9 at *
   have r9 := zr9
   clear zr9
   (repeat ((fail_if_success with_reducible refine rg ?_); go_step))
   apply wp_region_mixp [(g9, 5, rC .u8 l.length fun _ => 0)] [_, _, _] ⟨r9, trivial⟩ (by simp <;> omega)
   ·intro p
    refine mx_move rfl rfl ?_
    simp only [Act.put, pu]
    refine mx_move rfl rfl ?_
    simp only [Act.put, pu]
    refine mx_copyS 0 _ _ _ _ 5 rfl Try.underlying53 Try.sizeOf5 0 l.length l.length rfl rfl l rfl l.length hq (by rw [rC_size]; omega) (rC .u8 l.length (bf l)) hcp ?_
    simp only [Act.put, pu]
    refine mx_end ?_
    intro w5 hkw hrw hnew hdis
    have zr9 : Row w5 (g9) (rC .u8 l.length (bf l)) 5 := hrw 0 (5, rC .u8 l.length (bf l)) rfl
    replace sb := sb.trans (hkw.below w.heap.size sb.size (by simp <;> omega))
    clear hkw hrw hnew hdis r9
    have r9 := zr9
    clear zr9
    (repeat ((fail_if_success with_reducible refine rg ?_); go_step))
    refine wp_region_pw ?_
    refine pw_mv (by rfl) rfl rfl ?_
    simp only [Act.put, pu]
    refine pw_value (by rfl) (.pointer (some ⟨g9, 0, none⟩)) (x_idxS _ _ _ rfl g9 0 l.length l.length rfl 0 rfl h1 _ Try.underlying53 Try.sizeOf5 0 rfl) ?_
    simp only [Act.put, pu]
    refine pw_mv (by rfl) rfl rfl ?_
    simp only [Act.put, pu]
    refine pw_value (by rfl) (.int .i64 (l.length : Nat)) (x_lenL _ _ rfl _ _ _ rfl Try.underlying53) ?_
    simp only [Act.put, pu]
    refine pw_run (by rfl) (.string ⟨l.toArray⟩) _ (x_ustr _ _ _ _ rfl Try.underlying72 g9 l rfl rfl _ r9 h0 (by omega)) ?_
    simp only [Act.put, pu]
    replace sb := Lib.below_freeze sb (p := ⟨g9, 0, none⟩) b9 l.length
    clear r9
    refine pw_as (by rfl) rfl rfl ?_
    simp only [Act.put, pu]
    refine pw_nil ?_
    go_wp2
    go_ret
    exact ⟨rfl, sb⟩
   ·rfl
  ·rfl
set_option maxRecDepth 100000 in
set_option maxHeartbeats 2000000 in
theorem clone_any (l : List UInt8) (w : World) (hl : l.length ≤ 16777216) :
  Calls Try.prog 26 #[.string ⟨l.toArray⟩] w fun e w' => e = .returned (.string ⟨l.toArray⟩) ∧ Below w.heap.size w w' := by
 go_enter Try.func26, Try.ntmps26
 (repeat ((fail_if_success with_reducible refine rg ?_); go_step))
 refine wp_region_pw ?_
 refine pw_move (by rfl) (.inr rfl) rfl ?_
 simp only [Act.put, pu]
 refine pw_nil ?_
 have sb := Below.refl w.heap.size w
 (repeat ((fail_if_success with_reducible refine rg ?_); go_step))
 refine wp_region_pw ?_
 refine pw_mv (by rfl) rfl rfl ?_
 simp only [Act.put, pu]
 refine pw_callB (by rfl) 35 _ _ rfl Try.func35 (by kernel_rfl) #[.string ⟨l.toArray⟩] rfl _ (sclone_any l _ hl) ?_
 intro z1001 k
 simp only [Act.put, pu]
 replace sb := sb.trans (k.below w.heap.size sb.size (by simp <;> omega))
 clear k
 refine pw_as (by rfl) rfl rfl ?_
 simp only [Act.put, pu]
 refine pw_nil ?_
 go_wp2
 go_ret
 exact ⟨rfl, sb⟩
end Go.Proofs.Ytchiiphmpkmloaa
