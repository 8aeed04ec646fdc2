/- strings.Clone; frames in memory; package frame. -/
import Derived.Test.YtdanmnhknmepiaaDoorHRef
import Derived.Test.YtdanmnhknmepiaaDoorYText
import Derived.Lib.UnsafeStr
namespace Go.Proofs.YtdanmnhknmepiaaDoor
open Go.RowKit
set_option linter.unusedVariables false
/-- The cells of a frame. -/
def frC (x y : Int) (b t : List UInt8) : Array Value := #[.int .i64 x, .int .i64 y, .string ⟨b.toArray⟩, .string ⟨t.toArray⟩]
theorem info_fr : (Tryd.prog.info? 25).map (fun i => (i.zero, i.size)) = some (some (.agg (frC 0 0 [] [])), 4) := by kernel_rfl
theorem zero_fr (w : World) : (zeroValue 25).run Tryd.prog w = .ok (.agg (frC 0 0 [] [])) w := (zero_of_info info_fr).1 w
theorem size_fr : (Tryd.prog.info? 25).map (·.size) = some 4 := (zero_of_info info_fr).2
theorem fr_one (x y : Int) (b t : List UInt8) : (frC x y b t).all (·.oneCell') = true := by simp [frC, Value.oneCell']
theorem built_fr (x y : Int) (b t : List UInt8) : Tryd.prog.built 25 [(0, .int .i64 x), (1, .int .i64 y), (2, .string ⟨b.toArray⟩), (3, .string ⟨t.toArray⟩)] = some (frC x y b t) := by kernel_rfl
theorem built_frr (x y : Int) (b t : List UInt8) : Tryd.prog.built 25 [(0, .int .i64 x), (1, .int .i64 y), (3, .string ⟨t.toArray⟩), (2, .string ⟨b.toArray⟩)] = some (frC x y b t) := by kernel_rfl
theorem built_fr0 : Tryd.prog.built 25 [] = some (frC 0 0 [] []) := by kernel_rfl
theorem part_fr0 (x y : Int) (b t : List UInt8) (w : World) : (part 3 (frC x y b t) 0).run Tryd.prog w = .ok (.int .i64 x) w := by unfold frC; kernel_rfl
theorem part_fr1 (x y : Int) (b t : List UInt8) (w : World) : (part 3 (frC x y b t) 1).run Tryd.prog w = .ok (.int .i64 y) w := by unfold frC; kernel_rfl
theorem part_fr2 (x y : Int) (b t : List UInt8) (w : World) : (part 9 (frC x y b t) 2).run Tryd.prog w = .ok (.string ⟨b.toArray⟩) w := by unfold frC; kernel_rfl
theorem part_fr3 (x y : Int) (b t : List UInt8) (w : World) : (part 9 (frC x y b t) 3).run Tryd.prog w = .ok (.string ⟨t.toArray⟩) w := by unfold frC; kernel_rfl
theorem bytes_toList (l : List UInt8) : (⟨l.toArray⟩ : ByteArray).toList = l := by simp
theorem equal_fr (x y x' y' : Int) (b t b' t' : List UInt8) (w : World) : (Op.equalIn 10000 25 (.agg (frC x y b t)) (.agg (frC x' y' b' t'))).run Tryd.prog w = .ok (decide (x = x' ∧ y = y' ∧ b = b' ∧ t = t')) w := by
 rw [run_equalIn_struct w 9999 _ _ _ (by kernel_rfl) (by kernel_rfl)]
 simp only [Program.fieldsOf, Tryd.underlying25, Op.eqFields]
 by_cases h1 : x = x' <;> by_cases h2 : y = y' <;> by_cases h3 : b = b' <;> by_cases h4 : t = t' <;>
  simp [Sem.run_bind, part_fr0, part_fr1, part_fr2, part_fr3, run_equalIn_int _ _ _ _ _ _ _ Tryd.underlying3, run_equalIn_string _ _ _ _ _ Tryd.underlying9, h1, h2, h3, h4]
theorem exec_eql_fr {o : Oper} {ρ : Operand → Value} (p q : Operand) (u : TypeId) (ho : o.op = .binOp .eql 25 p q u) (x y x' y' : Int) (b t b' t' : List UInt8) (hx : ρ p = .agg (frC x y b t)) (hy : ρ q = .agg (frC x' y' b' t')) (c : Bool) (hb : decide (x = x' ∧ y = y' ∧ b = b' ∧ t = t') = c) (w : World) :
  (execOp ρ o).run Tryd.prog w = .ok (.value (.bool c)) w := by
 unfold execOp
 simp only [ho, hx, hy]
 simp [run_eqGuard_agg _ _ _ _ _ _ _ (show Tryd.prog.eqGuardType Tryd.prog.depth 25 = false by kernel_rfl), run_eql_struct, equal_fr]
 simpa using hb
theorem exec_neq_fr {o : Oper} {ρ : Operand → Value} (p q : Operand) (u : TypeId) (ho : o.op = .binOp .neq 25 p q u) (x y x' y' : Int) (b t b' t' : List UInt8) (hx : ρ p = .agg (frC x y b t)) (hy : ρ q = .agg (frC x' y' b' t')) (c : Bool) (hb : (!decide (x = x' ∧ y = y' ∧ b = b' ∧ t = t')) = c) (w : World) :
  (execOp ρ o).run Tryd.prog w = .ok (.value (.bool c)) w := by
 unfold execOp
 simp only [ho, hx, hy]
 simp [run_eqGuard_agg _ _ _ _ _ _ _ (show Tryd.prog.eqGuardType Tryd.prog.depth 25 = false by kernel_rfl), run_neq_struct, equal_fr]
 simpa using hb
theorem ret_rowE {P : Program} {fn : Func} {R : Ending → World → Prop} {a : Act} {w : World} {p u : Tmp} {ty : TypeId} (hf : fn.results = #[.cell p ty, .tmp u]) (g : Nat) (hp : a.tmps.getD p undef = .pointer (some ⟨g, 0, none⟩))
  {t : TypeId} {cs : Array Value} (hr : Row w g cs t) (fs : Array Field) (hu : P.underlying ty = some (.struct fs)) (hi : (P.info? ty).map (·.size) = some cs.size) (hd : a.defers = [])
  (v : Value) (hv : a.tmps.getD u undef = v) (h : R (.returned (.tuple #[.agg cs, v])) w) : bodyPost P fn R .ret a w := by
 refine bodyPost_ret (v := .tuple #[.agg cs, v]) ?_ hd h
 rw [results_cell_tmp hf, hp, hv]
 simp only [asAddr, Sem.run_pure, Result.andThen_ok]
 rw [run_loadVar_row w g t ty cs (0, 0) _ hr hu rfl hi]
 rfl
theorem copy_all (L : List UInt8) : putL (rC .u8 L.length fun _ => 0) 0 (b8s (L.take L.length)) = rC .u8 L.length (bf L) := by
 rw [List.take_length]
 apply Array.ext_getElem?
 intro i
 rw [putL_get _ _ _ _ (by rw [b8s_length, rC_size]; omega), b8s_length]
 by_cases hi : i < L.length
 ·rw [rC_get .u8 L.length (bf L) i hi, if_pos (by omega), Nat.sub_zero, b8s_get _ _ (by omega)]
 ·rw [if_neg (by omega), Array.getElem?_eq_none (by rw [rC_size]; omega), Array.getElem?_eq_none (by rw [rC_size]; omega)]
theorem part_allF (c : Array Value) : ∀ j v, c.toList[j]? = some v → c[0 + j]? = some v := fun j v h => by rw [Nat.zero_add, ← Array.getElem?_toList]; exact h
theorem wri (n : Nat) (h : n < 256) : IntKind.i64.wrap (n : Int) = (n : Int) := by rw [IntKind.wrap_i64]; omega
theorem cellsB1 : Tryd.prog.cellsOf 5 = 1 := by kernel_rfl
/-- unsafe.String over a row of bytes. -/
theorem x_ustr {o : Oper} {ρ : Operand → Value} (x y : Operand) (pt it : TypeId) (ho : o.op = .call { callee := .builtin .unsafeString, args := #[x, y], argTypes := #[pt, it] }) (hp : Tryd.prog.underlying pt = some (.pointer 5)) (g : Nat) (l : List UInt8) (hx : ρ x = .pointer (some ⟨g, 0, none⟩)) (hy : ρ y = .int .i64 (l.length : Nat))
  (w : World) (hr : Row w g (rC .u8 l.length (bf l)) 5) (h0 : l ≠ []) (h63 : l.length ≤ 9223372036854775807) : (execOp ρ o).run Tryd.prog w = .ok (.value (.string ⟨l.toArray⟩)) (w.freeze ⟨g, 0, none⟩ l.length) := by
 have h := Lib.run_unsafeString_row (P := Tryd.prog) w pt it o.type 5 hp cellsB1 g l.length (by unfold World.shape?; rw [hr]; simp [rC_size]) l h0 (Nat.le_refl _) h63 (fun j b hj => by
  have hl : j < l.length := (List.getElem?_eq_some_iff.1 hj).1
  rw [Addr.add_mid, hr.r.cell, Nat.zero_add, rC_get _ _ _ _ hl]
  unfold bf
  rw [List.getD_eq_getElem?_getD, hj]
  rfl)
 unfold execOp
 simp only [ho]
 simp only [resolve, invoke, Sem.run_bind, Sem.run_pure, Result.andThen_ok, List.map_toArray, List.map_cons, List.map_nil, hx, hy]
 simp [builtin, h]
/-- Whether two numbers are ends. -/
def enB (x y : Int) : Bool := decide (1 ≤ x ∧ x ≤ 255 ∧ 1 ≤ y ∧ y ≤ 255)
theorem enB_yes {x y : Int} (h : enB x y = true) : 1 ≤ x ∧ x ≤ 255 ∧ 1 ≤ y ∧ y ≤ 255 := of_decide_eq_true h
theorem enB_no {x y : Int} (h : enB x y = false) : ¬ (1 ≤ x ∧ x ≤ 255 ∧ 1 ≤ y ∧ y ≤ 255) := of_decide_eq_false h
theorem lit_e2 (n m k : Nat) (hk : k = 1) : Instr.fill (fun i => some (i * k, k)) ((Array.range (2 * k)).map ((Value.int .u8 0).cells[· % (Value.int .u8 0).cells.size]!)) [(0, .int .u8 (n : Nat)), (1, .int .u8 (m : Nat))] = some #[.int .u8 (n : Nat), .int .u8 (m : Nat)] := by subst hk; kernel_rfl
set_option maxRecDepth 100000 in
set_option maxHeartbeats 2000000 in
theorem sclone_any (l : List UInt8) (w : World) (hl : l.length ≤ 16777216) :
  Calls Tryd.prog 26 #[.string ⟨l.toArray⟩] w fun e w' => e = .returned (.string ⟨l.toArray⟩) ∧ Below w.heap.size w w' := by
 by_cases h : l.length = 0
 ·obtain rfl : l = [] := List.eq_nil_of_length_eq_zero h
  clear h hl
  go_enter Tryd.func26, Tryd.ntmps26
  (repeat ((fail_if_success with_reducible refine rg ?_); go_step))
  refine wp_region_pw ?_
  refine pw_move (by rfl) (.inr rfl) rfl ?_
  simp only [Act.put, pu]
  refine pw_nil ?_
  have sb := Below.refl w.heap.size w
  (repeat ((fail_if_success with_reducible refine rg ?_); go_step))
  refine wp_region_pw ?_
  refine pw_mv (by rfl) rfl rfl ?_
  simp only [Act.put, pu]
  refine pw_value (by rfl) (.int .i64 0) (y_lenS _ _ rfl [] rfl Tryd.underlying9) ?_
  simp only [Act.put, pu]
  refine pw_value (by rfl) (.bool true) (x_eqI _ _ _ _ rfl .i64 0 0 rfl rfl true rfl) ?_
  simp only [Act.put, pu]
  refine pw_nil ?_
  (repeat ((fail_if_success with_reducible refine rg ?_); go_step))
  refine wp_region_pw ?_
  refine pw_move (by rfl) (.inr rfl) rfl ?_
  simp only [Act.put, pu]
  refine pw_nil ?_
  go_wp2
  go_ret
  exact ⟨rfl, sb⟩
 ·have h0 : l ≠ [] := fun e => h (by rw [e]; rfl)
  have hcp := copy_all l
  have hq : min l.length l.length = l.length := Nat.min_self _
  have hx : (l.length : Int) ≠ 0 := by omega
  have h1 : 0 < l.length := by omega
  go_enter Tryd.func26, Tryd.ntmps26
  (repeat ((fail_if_success with_reducible refine rg ?_); go_step))
  refine wp_region_pw ?_
  refine pw_move (by rfl) (.inr rfl) rfl ?_
  simp only [Act.put, pu]
  refine pw_nil ?_
  have sb := Below.refl w.heap.size w
  (repeat ((fail_if_success with_reducible refine rg ?_); go_step))
  refine wp_region_pw ?_
  refine pw_mv (by rfl) rfl rfl ?_
  simp only [Act.put, pu]
  refine pw_value (by rfl) (.int .i64 (l.length : Nat)) (y_lenS _ _ rfl l rfl Tryd.underlying9) ?_
  simp only [Act.put, pu]
  refine pw_value (by rfl) (.bool false) (x_eqI _ _ _ _ rfl .i64 (l.length : Nat) 0 rfl rfl false (decide_eq_false hx)) ?_
  simp only [Act.put, pu]
  refine pw_nil ?_
  (repeat ((fail_if_success with_reducible refine rg ?_); go_step))
  apply wp_region_mixp [] [_, _, _, _] trivial List.nodup_nil
  ·intro p
   refine mx_move rfl rfl ?_
   simp only [Act.put, pu]
   refine mx_val (.int .i64 (l.length : Nat)) (y_lenS _ _ rfl l rfl Tryd.underlying9) ?_
   simp only [Act.put, pu]
   refine mx_makeB _ _ rfl .i64 l.length rfl rfl hl ?_
   simp only [Act.put, pu]
   refine mx_asgP 2 (fun g => .slice (some ⟨g, 0, none⟩) l.length l.length) (.inl rfl) (by omega) rfl ?_
   simp only [Act.put, pu]
   refine mx_end ?_
   intro w4 hkw hrw hnew hdis
   have n9 := hnew 2 rfl
   have zr9 : Row w4 (p 2) (rC .u8 l.length fun _ => 0) 5 := hrw 5 (5, rC .u8 l.length fun _ => 0) rfl
   have b9 := Nat.le_trans sb.size n9
   replace sb := sb.trans (hkw.below w.heap.size sb.size (by simp <;> omega))
   clear hkw hrw hnew hdis n9
   generalize p 2 = g9 at *
   have r9 := zr9
   clear zr9
   (repeat ((fail_if_success with_reducible refine rg ?_); go_step))
   apply wp_region_mixp [(g9, 5, rC .u8 l.length fun _ => 0)] [_, _, _] ⟨r9, trivial⟩ (by simp <;> omega)
   ·intro p
    refine mx_move rfl rfl ?_
    simp only [Act.put, pu]
    refine mx_move rfl rfl ?_
    simp only [Act.put, pu]
    refine mx_copyS 0 _ _ _ _ 5 rfl Tryd.underlying35 Tryd.sizeOf5 0 l.length l.length rfl rfl l rfl l.length hq (by rw [rC_size]; omega) (rC .u8 l.length (bf l)) hcp ?_
    simp only [Act.put, pu]
    refine mx_end ?_
    intro w5 hkw hrw hnew hdis
    have zr9 : Row w5 (g9) (rC .u8 l.length (bf l)) 5 := hrw 0 (5, rC .u8 l.length (bf l)) rfl
    replace sb := sb.trans (hkw.below w.heap.size sb.size (by simp <;> omega))
    clear hkw hrw hnew hdis r9
    have r9 := zr9
    clear zr9
    (repeat ((fail_if_success with_reducible refine rg ?_); go_step))
    refine wp_region_pw ?_
    refine pw_mv (by rfl) rfl rfl ?_
    simp only [Act.put, pu]
    refine pw_value (by rfl) (.pointer (some ⟨g9, 0, none⟩)) (x_idxS _ _ _ rfl g9 0 l.length l.length rfl 0 rfl h1 _ Tryd.underlying35 Tryd.sizeOf5 0 rfl) ?_
    simp only [Act.put, pu]
    refine pw_mv (by rfl) rfl rfl ?_
    simp only [Act.put, pu]
    refine pw_value (by rfl) (.int .i64 (l.length : Nat)) (x_lenL _ _ rfl _ _ _ rfl Tryd.underlying35) ?_
    simp only [Act.put, pu]
    refine pw_run (by rfl) (.string ⟨l.toArray⟩) _ (x_ustr _ _ _ _ rfl Tryd.underlying50 g9 l rfl rfl _ r9 h0 (by omega)) ?_
    simp only [Act.put, pu]
    replace sb := Lib.below_freeze sb (p := ⟨g9, 0, none⟩) b9 l.length
    clear r9
    refine pw_as (by rfl) rfl rfl ?_
    simp only [Act.put, pu]
    refine pw_nil ?_
    go_wp2
    go_ret
    exact ⟨rfl, sb⟩
   ·rfl
  ·rfl
set_option maxRecDepth 100000 in
set_option maxHeartbeats 2000000 in
theorem clone_any (l : List UInt8) (w : World) (hl : l.length ≤ 16777216) :
  Calls Tryd.prog 20 #[.string ⟨l.toArray⟩] w fun e w' => e = .returned (.string ⟨l.toArray⟩) ∧ Below w.heap.size w w' := by
 go_enter Tryd.func20, Tryd.ntmps20
 (repeat ((fail_if_success with_reducible refine rg ?_); go_step))
 refine wp_region_pw ?_
 refine pw_move (by rfl) (.inr rfl) rfl ?_
 simp only [Act.put, pu]
 refine pw_nil ?_
 have sb := Below.refl w.heap.size w
 (repeat ((fail_if_success with_reducible refine rg ?_); go_step))
 refine wp_region_pw ?_
 refine pw_mv (by rfl) rfl rfl ?_
 simp only [Act.put, pu]
 refine pw_callB (by rfl) 26 _ _ rfl Tryd.func26 (by kernel_rfl) #[.string ⟨l.toArray⟩] rfl _ (sclone_any l _ hl) ?_
 intro z1001 k
 simp only [Act.put, pu]
 replace sb := sb.trans (k.below w.heap.size sb.size (by simp <;> omega))
 clear k
 refine pw_as (by rfl) rfl rfl ?_
 simp only [Act.put, pu]
 refine pw_nil ?_
 go_wp2
 go_ret
 exact ⟨rfl, sb⟩
set_option maxRecDepth 100000 in
set_option maxHeartbeats 2000000 in
theorem ends_any (x y : Int) (w : World) :
  Calls Tryd.prog 16 #[.int .i64 x, .int .i64 y] w fun e w' => e = .returned (.bool (enB x y)) ∧ Below w.heap.size w w' := by
 by_cases h0 : 1 ≤ x
 rotate_left
 ·have he : enB x y = false := decide_eq_false (by omega)
  rw [he]
  clear he
  go_enter Tryd.func16, Tryd.ntmps16
  (repeat ((fail_if_success with_reducible refine rg ?_); go_step))
  refine wp_region_pw ?_
  refine pw_value (by rfl) (.bool false) (fun _ => rfl) ?_
  simp only [Act.put, pu]
  refine pw_nil ?_
  have sb := Below.refl w.heap.size w
  (repeat ((fail_if_success with_reducible refine rg ?_); go_step))
  refine wp_region_pw ?_
  refine pw_mv (by rfl) rfl rfl ?_
  simp only [Act.put, pu]
  refine pw_value (by rfl) (.bool false) (x_ge _ _ _ _ rfl x 1 rfl rfl false (decide_eq_false h0)) ?_
  simp only [Act.put, pu]
  refine pw_mv (by rfl) rfl rfl ?_
  simp only [Act.put, pu]
  refine pw_skip (by rfl) ?_
  simp only [Act.put, pu]
  refine pw_skip (by rfl) ?_
  simp only [Act.put, pu]
  refine pw_pick (by rfl) false (v := .bool false) rfl rfl rfl ?_
  simp only [Act.put, pu]
  refine pw_mv (by rfl) rfl rfl ?_
  simp only [Act.put, pu]
  refine pw_skip (by rfl) ?_
  simp only [Act.put, pu]
  refine pw_skip (by rfl) ?_
  simp only [Act.put, pu]
  refine pw_pick (by rfl) false (v := .bool false) rfl rfl rfl ?_
  simp only [Act.put, pu]
  refine pw_mv (by rfl) rfl rfl ?_
  simp only [Act.put, pu]
  refine pw_skip (by rfl) ?_
  simp only [Act.put, pu]
  refine pw_skip (by rfl) ?_
  simp only [Act.put, pu]
  refine pw_pick (by rfl) false (v := .bool false) rfl rfl rfl ?_
  simp only [Act.put, pu]
  refine pw_as (by rfl) rfl rfl ?_
  simp only [Act.put, pu]
  refine pw_nil ?_
  go_wp2
  go_ret
  exact ⟨rfl, sb⟩
 by_cases h1 : x ≤ 255
 rotate_left
 ·have he : enB x y = false := decide_eq_false (by omega)
  rw [he]
  clear he
  go_enter Tryd.func16, Tryd.ntmps16
  (repeat ((fail_if_success with_reducible refine rg ?_); go_step))
  refine wp_region_pw ?_
  refine pw_value (by rfl) (.bool false) (fun _ => rfl) ?_
  simp only [Act.put, pu]
  refine pw_nil ?_
  have sb := Below.refl w.heap.size w
  (repeat ((fail_if_success with_reducible refine rg ?_); go_step))
  refine wp_region_pw ?_
  refine pw_mv (by rfl) rfl rfl ?_
  simp only [Act.put, pu]
  refine pw_value (by rfl) (.bool true) (x_ge _ _ _ _ rfl x 1 rfl rfl true (decide_eq_true h0)) ?_
  simp only [Act.put, pu]
  refine pw_mv (by rfl) rfl rfl ?_
  simp only [Act.put, pu]
  refine pw_mv (by rfl) rfl rfl ?_
  simp only [Act.put, pu]
  refine pw_value (by rfl) (.bool false) (x_le _ _ _ _ rfl x 255 rfl rfl false (decide_eq_false h1)) ?_
  simp only [Act.put, pu]
  refine pw_pick (by rfl) true (v := .bool false) rfl rfl rfl ?_
  simp only [Act.put, pu]
  refine pw_mv (by rfl) rfl rfl ?_
  simp only [Act.put, pu]
  refine pw_skip (by rfl) ?_
  simp only [Act.put, pu]
  refine pw_skip (by rfl) ?_
  simp only [Act.put, pu]
  refine pw_pick (by rfl) false (v := .bool false) rfl rfl rfl ?_
  simp only [Act.put, pu]
  refine pw_mv (by rfl) rfl rfl ?_
  simp only [Act.put, pu]
  refine pw_skip (by rfl) ?_
  simp only [Act.put, pu]
  refine pw_skip (by rfl) ?_
  simp only [Act.put, pu]
  refine pw_pick (by rfl) false (v := .bool false) rfl rfl rfl ?_
  simp only [Act.put, pu]
  refine pw_as (by rfl) rfl rfl ?_
  simp only [Act.put, pu]
  refine pw_nil ?_
  go_wp2
  go_ret
  exact ⟨rfl, sb⟩
 by_cases h2 : 1 ≤ y
 rotate_left
 ·have he : enB x y = false := decide_eq_false (by omega)
  rw [he]
  clear he
  go_enter Tryd.func16, Tryd.ntmps16
  (repeat ((fail_if_success with_reducible refine rg ?_); go_step))
  refine wp_region_pw ?_
  refine pw_value (by rfl) (.bool false) (fun _ => rfl) ?_
  simp only [Act.put, pu]
  refine pw_nil ?_
  have sb := Below.refl w.heap.size w
  (repeat ((fail_if_success with_reducible refine rg ?_); go_step))
  refine wp_region_pw ?_
  refine pw_mv (by rfl) rfl rfl ?_
  simp only [Act.put, pu]
  refine pw_value (by rfl) (.bool true) (x_ge _ _ _ _ rfl x 1 rfl rfl true (decide_eq_true h0)) ?_
  simp only [Act.put, pu]
  refine pw_mv (by rfl) rfl rfl ?_
  simp only [Act.put, pu]
  refine pw_mv (by rfl) rfl rfl ?_
  simp only [Act.put, pu]
  refine pw_value (by rfl) (.bool true) (x_le _ _ _ _ rfl x 255 rfl rfl true (decide_eq_true h1)) ?_
  simp only [Act.put, pu]
  refine pw_pick (by rfl) true (v := .bool true) rfl rfl rfl ?_
  simp only [Act.put, pu]
  refine pw_mv (by rfl) rfl rfl ?_
  simp only [Act.put, pu]
  refine pw_mv (by rfl) rfl rfl ?_
  simp only [Act.put, pu]
  refine pw_value (by rfl) (.bool false) (x_ge _ _ _ _ rfl y 1 rfl rfl false (decide_eq_false h2)) ?_
  simp only [Act.put, pu]
  refine pw_pick (by rfl) true (v := .bool false) rfl rfl rfl ?_
  simp only [Act.put, pu]
  refine pw_mv (by rfl) rfl rfl ?_
  simp only [Act.put, pu]
  refine pw_skip (by rfl) ?_
  simp only [Act.put, pu]
  refine pw_skip (by rfl) ?_
  simp only [Act.put, pu]
  refine pw_pick (by rfl) false (v := .bool false) rfl rfl rfl ?_
  simp only [Act.put, pu]
  refine pw_as (by rfl) rfl rfl ?_
  simp only [Act.put, pu]
  refine pw_nil ?_
  go_wp2
  go_ret
  exact ⟨rfl, sb⟩
 by_cases h3 : y ≤ 255
 rotate_left
 ·have he : enB x y = false := decide_eq_false (by omega)
  rw [he]
  clear he
  go_enter Tryd.func16, Tryd.ntmps16
  (repeat ((fail_if_success with_reducible refine rg ?_); go_step))
  refine wp_region_pw ?_
  refine pw_value (by rfl) (.bool false) (fun _ => rfl) ?_
  simp only [Act.put, pu]
  refine pw_nil ?_
  have sb := Below.refl w.heap.size w
  (repeat ((fail_if_success with_reducible refine rg ?_); go_step))
  refine wp_region_pw ?_
  refine pw_mv (by rfl) rfl rfl ?_
  simp only [Act.put, pu]
  refine pw_value (by rfl) (.bool true) (x_ge _ _ _ _ rfl x 1 rfl rfl true (decide_eq_true h0)) ?_
  simp only [Act.put, pu]
  refine pw_mv (by rfl) rfl rfl ?_
  simp only [Act.put, pu]
  refine pw_mv (by rfl) rfl rfl ?_
  simp only [Act.put, pu]
  refine pw_value (by rfl) (.bool true) (x_le _ _ _ _ rfl x 255 rfl rfl true (decide_eq_true h1)) ?_
  simp only [Act.put, pu]
  refine pw_pick (by rfl) true (v := .bool true) rfl rfl rfl ?_
  simp only [Act.put, pu]
  refine pw_mv (by rfl) rfl rfl ?_
  simp only [Act.put, pu]
  refine pw_mv (by rfl) rfl rfl ?_
  simp only [Act.put, pu]
  refine pw_value (by rfl) (.bool true) (x_ge _ _ _ _ rfl y 1 rfl rfl true (decide_eq_true h2)) ?_
  simp only [Act.put, pu]
  refine pw_pick (by rfl) true (v := .bool true) rfl rfl rfl ?_
  simp only [Act.put, pu]
  refine pw_mv (by rfl) rfl rfl ?_
  simp only [Act.put, pu]
  refine pw_mv (by rfl) rfl rfl ?_
  simp only [Act.put, pu]
  refine pw_value (by rfl) (.bool false) (x_le _ _ _ _ rfl y 255 rfl rfl false (decide_eq_false h3)) ?_
  simp only [Act.put, pu]
  refine pw_pick (by rfl) true (v := .bool false) rfl rfl rfl ?_
  simp only [Act.put, pu]
  refine pw_as (by rfl) rfl rfl ?_
  simp only [Act.put, pu]
  refine pw_nil ?_
  go_wp2
  go_ret
  exact ⟨rfl, sb⟩
 have he : enB x y = true := decide_eq_true ⟨h0, h1, h2, h3⟩
 rw [he]
 clear he
 go_enter Tryd.func16, Tryd.ntmps16
 (repeat ((fail_if_success with_reducible refine rg ?_); go_step))
 refine wp_region_pw ?_
 refine pw_value (by rfl) (.bool false) (fun _ => rfl) ?_
 simp only [Act.put, pu]
 refine pw_nil ?_
 have sb := Below.refl w.heap.size w
 (repeat ((fail_if_success with_reducible refine rg ?_); go_step))
 refine wp_region_pw ?_
 refine pw_mv (by rfl) rfl rfl ?_
 simp only [Act.put, pu]
 refine pw_value (by rfl) (.bool true) (x_ge _ _ _ _ rfl x 1 rfl rfl true (decide_eq_true h0)) ?_
 simp only [Act.put, pu]
 refine pw_mv (by rfl) rfl rfl ?_
 simp only [Act.put, pu]
 refine pw_mv (by rfl) rfl rfl ?_
 simp only [Act.put, pu]
 refine pw_value (by rfl) (.bool true) (x_le _ _ _ _ rfl x 255 rfl rfl true (decide_eq_true h1)) ?_
 simp only [Act.put, pu]
 refine pw_pick (by rfl) true (v := .bool true) rfl rfl rfl ?_
 simp only [Act.put, pu]
 refine pw_mv (by rfl) rfl rfl ?_
 simp only [Act.put, pu]
 refine pw_mv (by rfl) rfl rfl ?_
 simp only [Act.put, pu]
 refine pw_value (by rfl) (.bool true) (x_ge _ _ _ _ rfl y 1 rfl rfl true (decide_eq_true h2)) ?_
 simp only [Act.put, pu]
 refine pw_pick (by rfl) true (v := .bool true) rfl rfl rfl ?_
 simp only [Act.put, pu]
 refine pw_mv (by rfl) rfl rfl ?_
 simp only [Act.put, pu]
 refine pw_mv (by rfl) rfl rfl ?_
 simp only [Act.put, pu]
 refine pw_value (by rfl) (.bool true) (x_le _ _ _ _ rfl y 255 rfl rfl true (decide_eq_true h3)) ?_
 simp only [Act.put, pu]
 refine pw_pick (by rfl) true (v := .bool true) rfl rfl rfl ?_
 simp only [Act.put, pu]
 refine pw_as (by rfl) rfl rfl ?_
 simp only [Act.put, pu]
 refine pw_nil ?_
 go_wp2
 go_ret
 exact ⟨rfl, sb⟩
set_option maxRecDepth 100000 in
set_option maxHeartbeats 2000000 in
theorem endb_any (x y : Int) (w : World) :
  Calls Tryd.prog 19 #[.int .i64 x, .int .i64 y] w fun e w' => e = .returned (.string ⟨(keyE x y).toArray⟩) ∧ Below w.heap.size w w' := by
 obtain ⟨ie, hie, hze, hsz, hbz⟩ := sinfo_b8
 have hs1 : ¬ 2 * ie.size > 2 ^ 24 := by rw [hsz]; decide
 have hs2 : ¬ 2 * ie.size = 0 := by rw [hsz]; decide
 go_enter Tryd.func19, Tryd.ntmps19
 (repeat ((fail_if_success with_reducible refine rg ?_); go_step))
 refine wp_region_pw ?_
 refine pw_move (by rfl) (.inr rfl) rfl ?_
 simp only [Act.put, pu]
 refine pw_nil ?_
 have sb := Below.refl w.heap.size w
 (repeat ((fail_if_success with_reducible refine rg ?_); go_step))
 refine wp_region_pw ?_
 refine pw_mv (by rfl) rfl rfl ?_
 simp only [Act.put, pu]
 refine pw_value (by rfl) (.int .u8 (by8 x : Nat)) (x_conv _ _ _ rfl .i64 .u8 Tryd.underlying3 Tryd.underlying5 x _ rfl (wrp8z x)) ?_
 simp only [Act.put, pu]
 refine pw_mv (by rfl) rfl rfl ?_
 simp only [Act.put, pu]
 refine pw_value (by rfl) (.int .u8 (by8 y : Nat)) (x_conv _ _ _ rfl .i64 .u8 Tryd.underlying3 Tryd.underlying5 y _ rfl (wrp8z y)) ?_
 simp only [Act.put, pu]
 refine pw_litr (by rfl) 35 5 2 _ rfl #[.int .u8 ((by8 x : Nat) : Int), .int .u8 ((by8 y : Nat) : Int)] ie _ Tryd.underlying35 hie hze hs1 hs2 [(0, .int .u8 ((by8 x : Nat) : Int)), (1, .int .u8 ((by8 y : Nat) : Int))] rfl (lit_e2 _ _ _ hsz) ?_
 intro gL z1004 n0 rL k
 simp only [Act.put, pu]
 have bL := Nat.le_trans sb.size n0
 clear n0
 replace sb := sb.trans (k.below w.heap.size sb.size (by simp <;> omega))
 clear k
 refine pw_run (by rfl) (.string ⟨(keyE x y).toArray⟩) _ (x_str _ rfl gL 0 2 2 (keyE x y) rfl rfl _ rL.r (cells_E x y)) ?_
 simp only [Act.put, pu]
 refine pw_as (by rfl) rfl rfl ?_
 simp only [Act.put, pu]
 refine pw_nil ?_
 go_wp2
 go_ret
 exact ⟨rfl, sb⟩
set_option maxRecDepth 100000 in
set_option maxHeartbeats 2000000 in
theorem seal_ends (k b : List UInt8) (x y : Int) (w : World) (h : enB x y = false) :
  Calls Tryd.prog 8 #[.string ⟨k.toArray⟩, .int .i64 x, .int .i64 y, .string ⟨b.toArray⟩] w fun e w' => e = .returned (.tuple #[.agg (frC 0 0 [] []), .int .i64 1]) ∧ Below w.heap.size w w' := by
 go_enter Tryd.func8, Tryd.ntmps8
 (repeat ((fail_if_success with_reducible refine rg ?_); go_step))
 refine wp_region_pw ?_
 refine pw_new (by rfl) 25 rfl _ zero_fr ?_
 intro g8 z0 n0 r8 k
 simp only [Act.put, pu]
 have b8 : w.heap.size ≤ g8 := n0
 clear n0
 have sb := k.below w.heap.size (Nat.le_refl _) (by simp)
 clear k
 refine pw_value (by rfl) (.int .i64 0) (fun _ => rfl) ?_
 simp only [Act.put, pu]
 refine pw_nil ?_
 (repeat ((fail_if_success with_reducible refine rg ?_); go_step))
 refine wp_region_pw ?_
 refine pw_mv (by rfl) rfl rfl ?_
 simp only [Act.put, pu]
 refine pw_mv (by rfl) rfl rfl ?_
 simp only [Act.put, pu]
 refine pw_callB (by rfl) 16 _ _ rfl Tryd.func16 (by kernel_rfl) #[.int .i64 x, .int .i64 y] rfl _ ((ends_any x y _).mono fun e w' ⟨he, hb⟩ => ⟨he.trans (by rw [h]), hb⟩) ?_
 intro z1002 k
 simp only [Act.put, pu]
 replace r8 := k.row r8 (by simp <;> omega)
 replace sb := sb.trans (k.below w.heap.size sb.size (by simp <;> omega))
 clear k
 refine pw_value (by rfl) (.bool true) (exec_not _ _ rfl false rfl) ?_
 simp only [Act.put, pu]
 refine pw_mv (by rfl) rfl rfl ?_
 simp only [Act.put, pu]
 refine pw_skip (by rfl) ?_
 simp only [Act.put, pu]
 refine pw_skip (by rfl) ?_
 simp only [Act.put, pu]
 refine pw_skip (by rfl) ?_
 simp only [Act.put, pu]
 refine pw_pick (by rfl) true (v := .bool true) rfl rfl rfl ?_
 simp only [Act.put, pu]
 refine pw_nil ?_
 (repeat ((fail_if_success with_reducible refine rg ?_); go_step))
 refine wp_region_pw ?_
 refine pw_value (by rfl) (.agg (frC 0 0 [] [])) (exec_buildv _ [] rfl [] rfl _ built_fr0) ?_
 simp only [Act.put, pu]
 refine pw_put (by rfl) 25 _ _ rfl _ rfl r8 (frC 0 0 [] []) rfl (by exact size_fr) (by rfl) (fr_one _ _ _ _) ?_
 clear r8
 intro z2001 r8 k
 simp only [Act.put]
 replace sb := sb.trans (k.below w.heap.size sb.size (by simp <;> omega))
 clear k
 refine pw_value (by rfl) (.int .i64 1) (fun _ => rfl) ?_
 simp only [Act.put, pu]
 refine pw_nil ?_
 go_wp2
 exact ret_rowE rfl _ rfl r8 _ Tryd.underlying25 (by exact size_fr) rfl _ rfl ⟨rfl, sb⟩
set_option maxRecDepth 100000 in
set_option maxHeartbeats 2000000 in
theorem seal_long (k b : List UInt8) (x y : Int) (w : World) (h : enB x y = true) (hb : 8192 < b.length) :
  Calls Tryd.prog 8 #[.string ⟨k.toArray⟩, .int .i64 x, .int .i64 y, .string ⟨b.toArray⟩] w fun e w' => e = .returned (.tuple #[.agg (frC 0 0 [] []), .int .i64 1]) ∧ Below w.heap.size w w' := by
 go_enter Tryd.func8, Tryd.ntmps8
 (repeat ((fail_if_success with_reducible refine rg ?_); go_step))
 refine wp_region_pw ?_
 refine pw_new (by rfl) 25 rfl _ zero_fr ?_
 intro g8 z0 n0 r8 k
 simp only [Act.put, pu]
 have b8 : w.heap.size ≤ g8 := n0
 clear n0
 have sb := k.below w.heap.size (Nat.le_refl _) (by simp)
 clear k
 refine pw_value (by rfl) (.int .i64 0) (fun _ => rfl) ?_
 simp only [Act.put, pu]
 refine pw_nil ?_
 (repeat ((fail_if_success with_reducible refine rg ?_); go_step))
 refine wp_region_pw ?_
 refine pw_mv (by rfl) rfl rfl ?_
 simp only [Act.put, pu]
 refine pw_mv (by rfl) rfl rfl ?_
 simp only [Act.put, pu]
 refine pw_callB (by rfl) 16 _ _ rfl Tryd.func16 (by kernel_rfl) #[.int .i64 x, .int .i64 y] rfl _ ((ends_any x y _).mono fun e w' ⟨he, hb⟩ => ⟨he.trans (by rw [h]), hb⟩) ?_
 intro z1002 k
 simp only [Act.put, pu]
 replace r8 := k.row r8 (by simp <;> omega)
 replace sb := sb.trans (k.below w.heap.size sb.size (by simp <;> omega))
 clear k
 refine pw_value (by rfl) (.bool false) (exec_not _ _ rfl true rfl) ?_
 simp only [Act.put, pu]
 refine pw_mv (by rfl) rfl rfl ?_
 simp only [Act.put, pu]
 refine pw_mv (by rfl) rfl rfl ?_
 simp only [Act.put, pu]
 refine pw_value (by rfl) (.int .i64 (b.length : Nat)) (y_lenS _ _ rfl b rfl Tryd.underlying9) ?_
 simp only [Act.put, pu]
 refine pw_value (by rfl) (.bool true) (x_gt _ _ _ _ rfl (b.length : Nat) 8192 rfl rfl true (decide_eq_true (by omega))) ?_
 simp only [Act.put, pu]
 refine pw_pick (by rfl) false (v := .bool true) rfl rfl rfl ?_
 simp only [Act.put, pu]
 refine pw_nil ?_
 (repeat ((fail_if_success with_reducible refine rg ?_); go_step))
 refine wp_region_pw ?_
 refine pw_value (by rfl) (.agg (frC 0 0 [] [])) (exec_buildv _ [] rfl [] rfl _ built_fr0) ?_
 simp only [Act.put, pu]
 refine pw_put (by rfl) 25 _ _ rfl _ rfl r8 (frC 0 0 [] []) rfl (by exact size_fr) (by rfl) (fr_one _ _ _ _) ?_
 clear r8
 intro z2001 r8 k
 simp only [Act.put]
 replace sb := sb.trans (k.below w.heap.size sb.size (by simp <;> omega))
 clear k
 refine pw_value (by rfl) (.int .i64 1) (fun _ => rfl) ?_
 simp only [Act.put, pu]
 refine pw_nil ?_
 go_wp2
 exact ret_rowE rfl _ rfl r8 _ Tryd.underlying25 (by exact size_fr) rfl _ rfl ⟨rfl, sb⟩
/-- The tag of a frame. -/
def tagL (k b : List UInt8) (x y : Int) : List UInt8 := hm (hm k (keyT x y)) (keyE x y ++ b)
theorem tagL_length (k b : List UInt8) (x y : Int) : (tagL k b x y).length = 32 := hm_length _ _
set_option maxRecDepth 100000 in
set_option maxHeartbeats 2000000 in
theorem seal_ok (k b : List UInt8) (x y : Int) (w : World) (h : enB x y = true) (hb : b.length ≤ 8192) (hk : k.length < 576460752303423488) (kT : KT w) :
  Calls Tryd.prog 8 #[.string ⟨k.toArray⟩, .int .i64 x, .int .i64 y, .string ⟨b.toArray⟩] w fun e w' => e = .returned (.tuple #[.agg (frC x y b (tagL k b x y)), .int .i64 0]) ∧ Below w.heap.size w w' := by
 have hE : (keyE x y).length = 2 := rfl
 have hK : (hm k (keyT x y)).length < 576460752303423488 := by rw [hm_length]; decide
 have hL : (keyE x y ++ b).length < 288230376151711744 := by rw [List.length_append, hE]; omega
 go_enter Tryd.func8, Tryd.ntmps8
 (repeat ((fail_if_success with_reducible refine rg ?_); go_step))
 refine wp_region_pw ?_
 refine pw_new (by rfl) 25 rfl _ zero_fr ?_
 intro g8 z0 n0 r8 k
 simp only [Act.put, pu]
 have b8 : w.heap.size ≤ g8 := n0
 clear n0
 have sb := k.below w.heap.size (Nat.le_refl _) (by simp)
 clear k
 refine pw_value (by rfl) (.int .i64 0) (fun _ => rfl) ?_
 simp only [Act.put, pu]
 refine pw_nil ?_
 (repeat ((fail_if_success with_reducible refine rg ?_); go_step))
 refine wp_region_pw ?_
 refine pw_mv (by rfl) rfl rfl ?_
 simp only [Act.put, pu]
 refine pw_mv (by rfl) rfl rfl ?_
 simp only [Act.put, pu]
 refine pw_callB (by rfl) 16 _ _ rfl Tryd.func16 (by kernel_rfl) #[.int .i64 x, .int .i64 y] rfl _ ((ends_any x y _).mono fun e w' ⟨he, hb⟩ => ⟨he.trans (by rw [h]), hb⟩) ?_
 intro z1002 k
 simp only [Act.put, pu]
 replace r8 := k.row r8 (by simp <;> omega)
 replace sb := sb.trans (k.below w.heap.size sb.size (by simp <;> omega))
 clear k
 refine pw_value (by rfl) (.bool false) (exec_not _ _ rfl true rfl) ?_
 simp only [Act.put, pu]
 refine pw_mv (by rfl) rfl rfl ?_
 simp only [Act.put, pu]
 refine pw_mv (by rfl) rfl rfl ?_
 simp only [Act.put, pu]
 refine pw_value (by rfl) (.int .i64 (b.length : Nat)) (y_lenS _ _ rfl b rfl Tryd.underlying9) ?_
 simp only [Act.put, pu]
 refine pw_value (by rfl) (.bool false) (x_gt _ _ _ _ rfl (b.length : Nat) 8192 rfl rfl false (decide_eq_false (by omega))) ?_
 simp only [Act.put, pu]
 refine pw_pick (by rfl) false (v := .bool false) rfl rfl rfl ?_
 simp only [Act.put, pu]
 refine pw_nil ?_
 (repeat ((fail_if_success with_reducible refine rg ?_); go_step))
 refine wp_region_pw ?_
 refine pw_mv (by rfl) rfl rfl ?_
 simp only [Act.put, pu]
 refine pw_mv (by rfl) rfl rfl ?_
 simp only [Act.put, pu]
 refine pw_mv (by rfl) rfl rfl ?_
 simp only [Act.put, pu]
 refine pw_callB (by rfl) 18 _ _ rfl Tryd.func18 (by kernel_rfl) #[.string ⟨k.toArray⟩, .int .i64 x, .int .i64 y] rfl _ (key_any k x y _ hk (kT.below sb)) ?_
 intro z3003 k
 simp only [Act.put, pu]
 replace r8 := k.row r8 (by simp <;> omega)
 replace sb := sb.trans (k.below w.heap.size sb.size (by simp <;> omega))
 clear k
 refine pw_mv (by rfl) rfl rfl ?_
 simp only [Act.put, pu]
 refine pw_mv (by rfl) rfl rfl ?_
 simp only [Act.put, pu]
 refine pw_callB (by rfl) 19 _ _ rfl Tryd.func19 (by kernel_rfl) #[.int .i64 x, .int .i64 y] rfl _ (endb_any x y _) ?_
 intro z3006 k
 simp only [Act.put, pu]
 replace r8 := k.row r8 (by simp <;> omega)
 replace sb := sb.trans (k.below w.heap.size sb.size (by simp <;> omega))
 clear k
 refine pw_mv (by rfl) rfl rfl ?_
 simp only [Act.put, pu]
 refine pw_value (by rfl) (.string ⟨(keyE x y ++ b).toArray⟩) (x_cat _ _ _ _ rfl (keyE x y) b rfl rfl (by rw [hE]; omega)) ?_
 simp only [Act.put, pu]
 refine pw_callB (by rfl) 17 _ _ rfl Tryd.func17 (by kernel_rfl) #[.string ⟨(hm k (keyT x y)).toArray⟩, .string ⟨(keyE x y ++ b).toArray⟩] rfl _ (tag_any _ _ _ hK hL (kT.below sb)) ?_
 intro z3009 k
 simp only [Act.put, pu]
 replace r8 := k.row r8 (by simp <;> omega)
 replace sb := sb.trans (k.below w.heap.size sb.size (by simp <;> omega))
 clear k
 refine pw_as (by rfl) rfl rfl ?_
 simp only [Act.put, pu]
 refine pw_nil ?_
 (repeat ((fail_if_success with_reducible refine rg ?_); go_step))
 refine wp_region_pw ?_
 refine pw_mv (by rfl) rfl rfl ?_
 simp only [Act.put, pu]
 refine pw_mv (by rfl) rfl rfl ?_
 simp only [Act.put, pu]
 refine pw_mv (by rfl) rfl rfl ?_
 simp only [Act.put, pu]
 refine pw_callB (by rfl) 20 _ _ rfl Tryd.func20 (by kernel_rfl) #[.string ⟨b.toArray⟩] rfl _ (clone_any b _ (by omega)) ?_
 intro z4003 k
 simp only [Act.put, pu]
 replace r8 := k.row r8 (by simp <;> omega)
 replace sb := sb.trans (k.below w.heap.size sb.size (by simp <;> omega))
 clear k
 refine pw_mv (by rfl) rfl rfl ?_
 simp only [Act.put, pu]
 refine pw_value (by rfl) (.agg (frC x y b (tagL k b x y))) (exec_buildv _ [(0, _), (1, _), (2, _), (3, _)] rfl [(0, .int .i64 x), (1, .int .i64 y), (2, .string ⟨b.toArray⟩), (3, .string ⟨(tagL k b x y).toArray⟩)] rfl _ (built_fr x y b _)) ?_
 simp only [Act.put, pu]
 refine pw_put (by rfl) 25 _ _ rfl _ rfl r8 (frC x y b (tagL k b x y)) rfl (by exact size_fr) (by rfl) (fr_one _ _ _ _) ?_
 clear r8
 intro z4006 r8 k
 simp only [Act.put]
 replace sb := sb.trans (k.below w.heap.size sb.size (by simp <;> omega))
 clear k
 refine pw_value (by rfl) (.int .i64 0) (fun _ => rfl) ?_
 simp only [Act.put, pu]
 refine pw_nil ?_
 go_wp2
 exact ret_rowE rfl _ rfl r8 _ Tryd.underlying25 (by exact size_fr) rfl _ rfl ⟨rfl, sb⟩
set_option maxRecDepth 100000 in
set_option maxHeartbeats 2000000 in
theorem opens_no (k b t : List UInt8) (x y : Int) (w : World) (h : enB x y = false ∨ 8192 < b.length) :
  Calls Tryd.prog 10 #[.string ⟨k.toArray⟩, .agg (frC x y b t)] w fun e w' => e = .returned (.bool false) ∧ Below w.heap.size w w' := by
 have hS : ∀ w', Calls Tryd.prog 8 #[.string ⟨k.toArray⟩, .int .i64 x, .int .i64 y, .string ⟨b.toArray⟩] w' fun e w2 => e = .returned (.tuple #[.agg (frC 0 0 [] []), .int .i64 1]) ∧ Below w'.heap.size w' w2 := fun w' => by
  cases he : enB x y with
  | false => exact seal_ends k b x y w' he
  | true => exact seal_long k b x y w' he (h.resolve_left (by rw [he]; decide))
 go_enter Tryd.func10, Tryd.ntmps10
 (repeat ((fail_if_success with_reducible refine rg ?_); go_step))
 refine wp_region_pw ?_
 refine pw_boxr (by rfl) 25 _ rfl (frC x y b t) rfl ?_
 intro g3 z0 n0 r3 k
 simp only [Act.put, pu]
 have b3 : w.heap.size ≤ g3 := n0
 clear n0
 have sb := k.below w.heap.size (Nat.le_refl _) (by simp)
 clear k
 refine pw_value (by rfl) (.bool false) (fun _ => rfl) ?_
 simp only [Act.put, pu]
 refine pw_nil ?_
 (repeat ((fail_if_success with_reducible refine rg ?_); go_step))
 refine wp_region_pw ?_
 refine pw_mv (by rfl) rfl rfl ?_
 simp only [Act.put, pu]
 refine pw_value (by rfl) (.pointer (some ⟨g3, 0, none⟩)) (exec_field 25 _ 0 rfl g3 0 rfl _ Tryd.underlying25 _ rfl 0 Tryd.sizeOf3) ?_
 simp only [Act.put, pu]
 refine pw_loadk (by rfl) 3 _ rfl _ (0) rfl r3.r (.int .i64 x) rfl Tryd.isAgg3 ?_
 simp only [Act.put, pu]
 refine pw_value (by rfl) (.pointer (some ⟨g3, 1, none⟩)) (exec_field 25 _ 1 rfl g3 0 rfl _ Tryd.underlying25 _ rfl 0 Tryd.sizeOf3) ?_
 simp only [Act.put, pu]
 refine pw_loadk (by rfl) 3 _ rfl _ (1) rfl r3.r (.int .i64 y) rfl Tryd.isAgg3 ?_
 simp only [Act.put, pu]
 refine pw_value (by rfl) (.pointer (some ⟨g3, 2, none⟩)) (exec_field 25 _ 2 rfl g3 0 rfl _ Tryd.underlying25 _ rfl 0 Tryd.sizeOf9) ?_
 simp only [Act.put, pu]
 refine pw_loadk (by rfl) 9 _ rfl _ (2) rfl r3.r (.string ⟨b.toArray⟩) rfl Tryd.isAgg9 ?_
 simp only [Act.put, pu]
 refine pw_callB (by rfl) 8 _ _ rfl Tryd.func8 (by kernel_rfl) #[.string ⟨k.toArray⟩, .int .i64 x, .int .i64 y, .string ⟨b.toArray⟩] rfl _ (hS _) ?_
 intro z1007 k
 simp only [Act.put, pu]
 replace r3 := k.row r3 (by simp <;> omega)
 replace sb := sb.trans (k.below w.heap.size sb.size (by simp <;> omega))
 clear k
 refine pw_mv (by rfl) rfl rfl ?_
 simp only [Act.put, pu]
 refine pw_ext (by rfl) rfl rfl rfl ?_
 simp only [Act.put, pu]
 refine pw_ext (by rfl) rfl rfl rfl ?_
 simp only [Act.put, pu]
 refine pw_new (by rfl) 25 rfl _ zero_fr ?_
 intro g5 z1011 n0 r5 k
 simp only [Act.put, pu]
 have d3x5 := Nat.lt_of_lt_of_le r3.lt n0
 have b5 := Nat.le_trans sb.size n0
 clear n0
 replace r3 := k.row r3 (by simp <;> omega)
 replace sb := sb.trans (k.below w.heap.size sb.size (by simp <;> omega))
 clear k
 refine pw_put (by rfl) 25 _ _ rfl _ rfl r5 (frC 0 0 [] []) rfl (by exact size_fr) (by rfl) (fr_one _ _ _ _) ?_
 clear r5
 intro z1012 r5 k
 simp only [Act.put]
 replace r3 := k.row r3 (by simp <;> omega)
 replace sb := sb.trans (k.below w.heap.size sb.size (by simp <;> omega))
 clear k
 refine pw_as (by rfl) rfl rfl ?_
 simp only [Act.put, pu]
 refine pw_nil ?_
 (repeat ((fail_if_success with_reducible refine rg ?_); go_step))
 refine wp_region_pw ?_
 refine pw_mv (by rfl) rfl rfl ?_
 simp only [Act.put, pu]
 refine pw_value (by rfl) (.bool false) (x_eqI _ _ _ _ rfl .i64 1 0 rfl rfl false rfl) ?_
 simp only [Act.put, pu]
 refine pw_mv (by rfl) rfl rfl ?_
 simp only [Act.put, pu]
 refine pw_skip (by rfl) ?_
 simp only [Act.put, pu]
 refine pw_skip (by rfl) ?_
 simp only [Act.put, pu]
 refine pw_skip (by rfl) ?_
 simp only [Act.put, pu]
 refine pw_pick (by rfl) false (v := .bool false) rfl rfl rfl ?_
 simp only [Act.put, pu]
 refine pw_as (by rfl) rfl rfl ?_
 simp only [Act.put, pu]
 refine pw_nil ?_
 go_wp2
 go_ret
 exact ⟨rfl, sb⟩
set_option maxRecDepth 100000 in
set_option maxHeartbeats 2000000 in
theorem opens_ok (k b t : List UInt8) (x y : Int) (w : World) (h : enB x y = true) (hb : b.length ≤ 8192) (hk : k.length < 576460752303423488) (kT : KT w) :
  Calls Tryd.prog 10 #[.string ⟨k.toArray⟩, .agg (frC x y b t)] w fun e w' => e = .returned (.bool (decide (t = tagL k b x y))) ∧ Below w.heap.size w w' := by
 have hd : decide (x = x ∧ y = y ∧ b = b ∧ t = tagL k b x y) = decide (t = tagL k b x y) := by simp
 go_enter Tryd.func10, Tryd.ntmps10
 (repeat ((fail_if_success with_reducible refine rg ?_); go_step))
 refine wp_region_pw ?_
 refine pw_boxr (by rfl) 25 _ rfl (frC x y b t) rfl ?_
 intro g3 z0 n0 r3 k
 simp only [Act.put, pu]
 have b3 : w.heap.size ≤ g3 := n0
 clear n0
 have sb := k.below w.heap.size (Nat.le_refl _) (by simp)
 clear k
 refine pw_value (by rfl) (.bool false) (fun _ => rfl) ?_
 simp only [Act.put, pu]
 refine pw_nil ?_
 (repeat ((fail_if_success with_reducible refine rg ?_); go_step))
 refine wp_region_pw ?_
 refine pw_mv (by rfl) rfl rfl ?_
 simp only [Act.put, pu]
 refine pw_value (by rfl) (.pointer (some ⟨g3, 0, none⟩)) (exec_field 25 _ 0 rfl g3 0 rfl _ Tryd.underlying25 _ rfl 0 Tryd.sizeOf3) ?_
 simp only [Act.put, pu]
 refine pw_loadk (by rfl) 3 _ rfl _ (0) rfl r3.r (.int .i64 x) rfl Tryd.isAgg3 ?_
 simp only [Act.put, pu]
 refine pw_value (by rfl) (.pointer (some ⟨g3, 1, none⟩)) (exec_field 25 _ 1 rfl g3 0 rfl _ Tryd.underlying25 _ rfl 0 Tryd.sizeOf3) ?_
 simp only [Act.put, pu]
 refine pw_loadk (by rfl) 3 _ rfl _ (1) rfl r3.r (.int .i64 y) rfl Tryd.isAgg3 ?_
 simp only [Act.put, pu]
 refine pw_value (by rfl) (.pointer (some ⟨g3, 2, none⟩)) (exec_field 25 _ 2 rfl g3 0 rfl _ Tryd.underlying25 _ rfl 0 Tryd.sizeOf9) ?_
 simp only [Act.put, pu]
 refine pw_loadk (by rfl) 9 _ rfl _ (2) rfl r3.r (.string ⟨b.toArray⟩) rfl Tryd.isAgg9 ?_
 simp only [Act.put, pu]
 refine pw_callB (by rfl) 8 _ _ rfl Tryd.func8 (by kernel_rfl) #[.string ⟨k.toArray⟩, .int .i64 x, .int .i64 y, .string ⟨b.toArray⟩] rfl _ (seal_ok k b x y _ h hb hk (kT.below sb)) ?_
 intro z1007 k
 simp only [Act.put, pu]
 replace r3 := k.row r3 (by simp <;> omega)
 replace sb := sb.trans (k.below w.heap.size sb.size (by simp <;> omega))
 clear k
 refine pw_mv (by rfl) rfl rfl ?_
 simp only [Act.put, pu]
 refine pw_ext (by rfl) rfl rfl rfl ?_
 simp only [Act.put, pu]
 refine pw_ext (by rfl) rfl rfl rfl ?_
 simp only [Act.put, pu]
 refine pw_new (by rfl) 25 rfl _ zero_fr ?_
 intro g5 z1011 n0 r5 k
 simp only [Act.put, pu]
 have d3x5 := Nat.lt_of_lt_of_le r3.lt n0
 have b5 := Nat.le_trans sb.size n0
 clear n0
 replace r3 := k.row r3 (by simp <;> omega)
 replace sb := sb.trans (k.below w.heap.size sb.size (by simp <;> omega))
 clear k
 refine pw_put (by rfl) 25 _ _ rfl _ rfl r5 (frC x y b (tagL k b x y)) rfl (by exact size_fr) (by rfl) (fr_one _ _ _ _) ?_
 clear r5
 intro z1012 r5 k
 simp only [Act.put]
 replace r3 := k.row r3 (by simp <;> omega)
 replace sb := sb.trans (k.below w.heap.size sb.size (by simp <;> omega))
 clear k
 refine pw_as (by rfl) rfl rfl ?_
 simp only [Act.put, pu]
 refine pw_nil ?_
 (repeat ((fail_if_success with_reducible refine rg ?_); go_step))
 refine wp_region_pw ?_
 refine pw_mv (by rfl) rfl rfl ?_
 simp only [Act.put, pu]
 refine pw_value (by rfl) (.bool true) (x_eqI _ _ _ _ rfl .i64 0 0 rfl rfl true rfl) ?_
 simp only [Act.put, pu]
 refine pw_mv (by rfl) rfl rfl ?_
 simp only [Act.put, pu]
 refine pw_loadm (by rfl) 25 _ rfl _ (0) rfl r3.r (frC x y b t) (part_allF _) _ Tryd.underlying25 rfl size_fr ?_
 simp only [Act.put, pu]
 refine pw_loadm (by rfl) 25 _ rfl _ (0) rfl r5.r (frC x y b (tagL k b x y)) (part_allF _) _ Tryd.underlying25 rfl size_fr ?_
 simp only [Act.put, pu]
 refine pw_value (by rfl) (.bool (decide (t = tagL k b x y))) (exec_eql_fr _ _ _ rfl x y x y b t b (tagL k b x y) rfl rfl _ hd) ?_
 simp only [Act.put, pu]
 refine pw_pick (by rfl) true (v := .bool (decide (t = tagL k b x y))) rfl rfl rfl ?_
 simp only [Act.put, pu]
 refine pw_as (by rfl) rfl rfl ?_
 simp only [Act.put, pu]
 refine pw_nil ?_
 go_wp2
 go_ret
 exact ⟨rfl, sb⟩
set_option maxRecDepth 100000 in
set_option maxHeartbeats 2000000 in
theorem fby_ends (b t : List UInt8) (x y : Int) (w : World) (h : enB x y = false) :
  Calls Tryd.prog 12 #[.agg (frC x y b t)] w fun e w' => e = .returned (.tuple #[.string ⟨#[]⟩, .int .i64 1]) ∧ Below w.heap.size w w' := by
 go_enter Tryd.func12, Tryd.ntmps12
 (repeat ((fail_if_success with_reducible refine rg ?_); go_step))
 refine wp_region_pw ?_
 refine pw_boxr (by rfl) 25 _ rfl (frC x y b t) rfl ?_
 intro g1 z0 n0 r1 k
 simp only [Act.put, pu]
 have b1 : w.heap.size ≤ g1 := n0
 clear n0
 have sb := k.below w.heap.size (Nat.le_refl _) (by simp)
 clear k
 refine pw_move (by rfl) (.inr rfl) rfl ?_
 simp only [Act.put, pu]
 refine pw_value (by rfl) (.int .i64 0) (fun _ => rfl) ?_
 simp only [Act.put, pu]
 refine pw_nil ?_
 (repeat ((fail_if_success with_reducible refine rg ?_); go_step))
 refine wp_region_pw ?_
 refine pw_value (by rfl) (.pointer (some ⟨g1, 0, none⟩)) (exec_field 25 _ 0 rfl g1 0 rfl _ Tryd.underlying25 _ rfl 0 Tryd.sizeOf3) ?_
 simp only [Act.put, pu]
 refine pw_loadk (by rfl) 3 _ rfl _ (0) rfl r1.r (.int .i64 x) rfl Tryd.isAgg3 ?_
 simp only [Act.put, pu]
 refine pw_value (by rfl) (.pointer (some ⟨g1, 1, none⟩)) (exec_field 25 _ 1 rfl g1 0 rfl _ Tryd.underlying25 _ rfl 0 Tryd.sizeOf3) ?_
 simp only [Act.put, pu]
 refine pw_loadk (by rfl) 3 _ rfl _ (1) rfl r1.r (.int .i64 y) rfl Tryd.isAgg3 ?_
 simp only [Act.put, pu]
 refine pw_callB (by rfl) 16 _ _ rfl Tryd.func16 (by kernel_rfl) #[.int .i64 x, .int .i64 y] rfl _ ((ends_any x y _).mono fun e w' ⟨he, hb⟩ => ⟨he.trans (by rw [h]), hb⟩) ?_
 intro z1004 k
 simp only [Act.put, pu]
 replace r1 := k.row r1 (by simp <;> omega)
 replace sb := sb.trans (k.below w.heap.size sb.size (by simp <;> omega))
 clear k
 refine pw_value (by rfl) (.bool true) (exec_not _ _ rfl false rfl) ?_
 simp only [Act.put, pu]
 refine pw_mv (by rfl) rfl rfl ?_
 simp only [Act.put, pu]
 refine pw_skip (by rfl) ?_
 simp only [Act.put, pu]
 refine pw_skip (by rfl) ?_
 simp only [Act.put, pu]
 refine pw_skip (by rfl) ?_
 simp only [Act.put, pu]
 refine pw_skip (by rfl) ?_
 simp only [Act.put, pu]
 refine pw_pick (by rfl) true (v := .bool true) rfl rfl rfl ?_
 simp only [Act.put, pu]
 refine pw_mv (by rfl) rfl rfl ?_
 simp only [Act.put, pu]
 refine pw_skip (by rfl) ?_
 simp only [Act.put, pu]
 refine pw_skip (by rfl) ?_
 simp only [Act.put, pu]
 refine pw_skip (by rfl) ?_
 simp only [Act.put, pu]
 refine pw_skip (by rfl) ?_
 simp only [Act.put, pu]
 refine pw_pick (by rfl) true (v := .bool true) rfl rfl rfl ?_
 simp only [Act.put, pu]
 refine pw_nil ?_
 (repeat ((fail_if_success with_reducible refine rg ?_); go_step))
 refine wp_region_pw ?_
 refine pw_move (by rfl) (.inr rfl) rfl ?_
 simp only [Act.put, pu]
 refine pw_value (by rfl) (.int .i64 1) (fun _ => rfl) ?_
 simp only [Act.put, pu]
 refine pw_nil ?_
 go_wp2
 go_ret2
 exact ⟨rfl, sb⟩
set_option maxRecDepth 100000 in
set_option maxHeartbeats 2000000 in
theorem fby_tag (b t : List UInt8) (x y : Int) (w : World) (h : enB x y = true) (ht : t.length ≠ 32) :
  Calls Tryd.prog 12 #[.agg (frC x y b t)] w fun e w' => e = .returned (.tuple #[.string ⟨#[]⟩, .int .i64 1]) ∧ Below w.heap.size w w' := by
 go_enter Tryd.func12, Tryd.ntmps12
 (repeat ((fail_if_success with_reducible refine rg ?_); go_step))
 refine wp_region_pw ?_
 refine pw_boxr (by rfl) 25 _ rfl (frC x y b t) rfl ?_
 intro g1 z0 n0 r1 k
 simp only [Act.put, pu]
 have b1 : w.heap.size ≤ g1 := n0
 clear n0
 have sb := k.below w.heap.size (Nat.le_refl _) (by simp)
 clear k
 refine pw_move (by rfl) (.inr rfl) rfl ?_
 simp only [Act.put, pu]
 refine pw_value (by rfl) (.int .i64 0) (fun _ => rfl) ?_
 simp only [Act.put, pu]
 refine pw_nil ?_
 (repeat ((fail_if_success with_reducible refine rg ?_); go_step))
 refine wp_region_pw ?_
 refine pw_value (by rfl) (.pointer (some ⟨g1, 0, none⟩)) (exec_field 25 _ 0 rfl g1 0 rfl _ Tryd.underlying25 _ rfl 0 Tryd.sizeOf3) ?_
 simp only [Act.put, pu]
 refine pw_loadk (by rfl) 3 _ rfl _ (0) rfl r1.r (.int .i64 x) rfl Tryd.isAgg3 ?_
 simp only [Act.put, pu]
 refine pw_value (by rfl) (.pointer (some ⟨g1, 1, none⟩)) (exec_field 25 _ 1 rfl g1 0 rfl _ Tryd.underlying25 _ rfl 0 Tryd.sizeOf3) ?_
 simp only [Act.put, pu]
 refine pw_loadk (by rfl) 3 _ rfl _ (1) rfl r1.r (.int .i64 y) rfl Tryd.isAgg3 ?_
 simp only [Act.put, pu]
 refine pw_callB (by rfl) 16 _ _ rfl Tryd.func16 (by kernel_rfl) #[.int .i64 x, .int .i64 y] rfl _ ((ends_any x y _).mono fun e w' ⟨he, hb⟩ => ⟨he.trans (by rw [h]), hb⟩) ?_
 intro z1004 k
 simp only [Act.put, pu]
 replace r1 := k.row r1 (by simp <;> omega)
 replace sb := sb.trans (k.below w.heap.size sb.size (by simp <;> omega))
 clear k
 refine pw_value (by rfl) (.bool false) (exec_not _ _ rfl true rfl) ?_
 simp only [Act.put, pu]
 refine pw_mv (by rfl) rfl rfl ?_
 simp only [Act.put, pu]
 refine pw_value (by rfl) (.pointer (some ⟨g1, 3, none⟩)) (exec_field 25 _ 3 rfl g1 0 rfl _ Tryd.underlying25 _ rfl 0 Tryd.sizeOf9) ?_
 simp only [Act.put, pu]
 refine pw_loadk (by rfl) 9 _ rfl _ (3) rfl r1.r (.string ⟨t.toArray⟩) rfl Tryd.isAgg9 ?_
 simp only [Act.put, pu]
 refine pw_value (by rfl) (.int .i64 (t.length : Nat)) (y_lenS _ _ rfl t rfl Tryd.underlying9) ?_
 simp only [Act.put, pu]
 refine pw_value (by rfl) (.bool true) (x_neI _ _ _ _ rfl .i64 (t.length : Nat) 32 rfl rfl true (decide_eq_false (by omega))) ?_
 simp only [Act.put, pu]
 refine pw_pick (by rfl) false (v := .bool true) rfl rfl rfl ?_
 simp only [Act.put, pu]
 refine pw_mv (by rfl) rfl rfl ?_
 simp only [Act.put, pu]
 refine pw_skip (by rfl) ?_
 simp only [Act.put, pu]
 refine pw_skip (by rfl) ?_
 simp only [Act.put, pu]
 refine pw_skip (by rfl) ?_
 simp only [Act.put, pu]
 refine pw_skip (by rfl) ?_
 simp only [Act.put, pu]
 refine pw_pick (by rfl) true (v := .bool true) rfl rfl rfl ?_
 simp only [Act.put, pu]
 refine pw_nil ?_
 (repeat ((fail_if_success with_reducible refine rg ?_); go_step))
 refine wp_region_pw ?_
 refine pw_move (by rfl) (.inr rfl) rfl ?_
 simp only [Act.put, pu]
 refine pw_value (by rfl) (.int .i64 1) (fun _ => rfl) ?_
 simp only [Act.put, pu]
 refine pw_nil ?_
 go_wp2
 go_ret2
 exact ⟨rfl, sb⟩
set_option maxRecDepth 100000 in
set_option maxHeartbeats 2000000 in
theorem fby_long (b t : List UInt8) (x y : Int) (w : World) (h : enB x y = true) (ht : t.length = 32) (hb : 8192 < b.length) :
  Calls Tryd.prog 12 #[.agg (frC x y b t)] w fun e w' => e = .returned (.tuple #[.string ⟨#[]⟩, .int .i64 1]) ∧ Below w.heap.size w w' := by
 go_enter Tryd.func12, Tryd.ntmps12
 (repeat ((fail_if_success with_reducible refine rg ?_); go_step))
 refine wp_region_pw ?_
 refine pw_boxr (by rfl) 25 _ rfl (frC x y b t) rfl ?_
 intro g1 z0 n0 r1 k
 simp only [Act.put, pu]
 have b1 : w.heap.size ≤ g1 := n0
 clear n0
 have sb := k.below w.heap.size (Nat.le_refl _) (by simp)
 clear k
 refine pw_move (by rfl) (.inr rfl) rfl ?_
 simp only [Act.put, pu]
 refine pw_value (by rfl) (.int .i64 0) (fun _ => rfl) ?_
 simp only [Act.put, pu]
 refine pw_nil ?_
 (repeat ((fail_if_success with_reducible refine rg ?_); go_step))
 refine wp_region_pw ?_
 refine pw_value (by rfl) (.pointer (some ⟨g1, 0, none⟩)) (exec_field 25 _ 0 rfl g1 0 rfl _ Tryd.underlying25 _ rfl 0 Tryd.sizeOf3) ?_
 simp only [Act.put, pu]
 refine pw_loadk (by rfl) 3 _ rfl _ (0) rfl r1.r (.int .i64 x) rfl Tryd.isAgg3 ?_
 simp only [Act.put, pu]
 refine pw_value (by rfl) (.pointer (some ⟨g1, 1, none⟩)) (exec_field 25 _ 1 rfl g1 0 rfl _ Tryd.underlying25 _ rfl 0 Tryd.sizeOf3) ?_
 simp only [Act.put, pu]
 refine pw_loadk (by rfl) 3 _ rfl _ (1) rfl r1.r (.int .i64 y) rfl Tryd.isAgg3 ?_
 simp only [Act.put, pu]
 refine pw_callB (by rfl) 16 _ _ rfl Tryd.func16 (by kernel_rfl) #[.int .i64 x, .int .i64 y] rfl _ ((ends_any x y _).mono fun e w' ⟨he, hb⟩ => ⟨he.trans (by rw [h]), hb⟩) ?_
 intro z1004 k
 simp only [Act.put, pu]
 replace r1 := k.row r1 (by simp <;> omega)
 replace sb := sb.trans (k.below w.heap.size sb.size (by simp <;> omega))
 clear k
 refine pw_value (by rfl) (.bool false) (exec_not _ _ rfl true rfl) ?_
 simp only [Act.put, pu]
 refine pw_mv (by rfl) rfl rfl ?_
 simp only [Act.put, pu]
 refine pw_value (by rfl) (.pointer (some ⟨g1, 3, none⟩)) (exec_field 25 _ 3 rfl g1 0 rfl _ Tryd.underlying25 _ rfl 0 Tryd.sizeOf9) ?_
 simp only [Act.put, pu]
 refine pw_loadk (by rfl) 9 _ rfl _ (3) rfl r1.r (.string ⟨t.toArray⟩) rfl Tryd.isAgg9 ?_
 simp only [Act.put, pu]
 refine pw_value (by rfl) (.int .i64 (t.length : Nat)) (y_lenS _ _ rfl t rfl Tryd.underlying9) ?_
 simp only [Act.put, pu]
 refine pw_value (by rfl) (.bool false) (x_neI _ _ _ _ rfl .i64 (t.length : Nat) 32 rfl rfl false (decide_eq_true (by omega))) ?_
 simp only [Act.put, pu]
 refine pw_pick (by rfl) false (v := .bool false) rfl rfl rfl ?_
 simp only [Act.put, pu]
 refine pw_mv (by rfl) rfl rfl ?_
 simp only [Act.put, pu]
 refine pw_value (by rfl) (.pointer (some ⟨g1, 2, none⟩)) (exec_field 25 _ 2 rfl g1 0 rfl _ Tryd.underlying25 _ rfl 0 Tryd.sizeOf9) ?_
 simp only [Act.put, pu]
 refine pw_loadk (by rfl) 9 _ rfl _ (2) rfl r1.r (.string ⟨b.toArray⟩) rfl Tryd.isAgg9 ?_
 simp only [Act.put, pu]
 refine pw_value (by rfl) (.int .i64 (b.length : Nat)) (y_lenS _ _ rfl b rfl Tryd.underlying9) ?_
 simp only [Act.put, pu]
 refine pw_value (by rfl) (.bool true) (x_gt _ _ _ _ rfl (b.length : Nat) 8192 rfl rfl true (decide_eq_true (by omega))) ?_
 simp only [Act.put, pu]
 refine pw_pick (by rfl) false (v := .bool true) rfl rfl rfl ?_
 simp only [Act.put, pu]
 refine pw_nil ?_
 (repeat ((fail_if_success with_reducible refine rg ?_); go_step))
 refine wp_region_pw ?_
 refine pw_move (by rfl) (.inr rfl) rfl ?_
 simp only [Act.put, pu]
 refine pw_value (by rfl) (.int .i64 1) (fun _ => rfl) ?_
 simp only [Act.put, pu]
 refine pw_nil ?_
 go_wp2
 go_ret2
 exact ⟨rfl, sb⟩
set_option maxRecDepth 100000 in
set_option maxHeartbeats 2000000 in
theorem fby_ok (b t : List UInt8) (x y : Int) (w : World) (h : enB x y = true) (ht : t.length = 32) (hb : b.length ≤ 8192) :
  Calls Tryd.prog 12 #[.agg (frC x y b t)] w fun e w' => e = .returned (.tuple #[.string ⟨(keyE x y ++ t ++ b).toArray⟩, .int .i64 0]) ∧ Below w.heap.size w w' := by
 have hE : (keyE x y).length = 2 := rfl
 go_enter Tryd.func12, Tryd.ntmps12
 (repeat ((fail_if_success with_reducible refine rg ?_); go_step))
 refine wp_region_pw ?_
 refine pw_boxr (by rfl) 25 _ rfl (frC x y b t) rfl ?_
 intro g1 z0 n0 r1 k
 simp only [Act.put, pu]
 have b1 : w.heap.size ≤ g1 := n0
 clear n0
 have sb := k.below w.heap.size (Nat.le_refl _) (by simp)
 clear k
 refine pw_move (by rfl) (.inr rfl) rfl ?_
 simp only [Act.put, pu]
 refine pw_value (by rfl) (.int .i64 0) (fun _ => rfl) ?_
 simp only [Act.put, pu]
 refine pw_nil ?_
 (repeat ((fail_if_success with_reducible refine rg ?_); go_step))
 refine wp_region_pw ?_
 refine pw_value (by rfl) (.pointer (some ⟨g1, 0, none⟩)) (exec_field 25 _ 0 rfl g1 0 rfl _ Tryd.underlying25 _ rfl 0 Tryd.sizeOf3) ?_
 simp only [Act.put, pu]
 refine pw_loadk (by rfl) 3 _ rfl _ (0) rfl r1.r (.int .i64 x) rfl Tryd.isAgg3 ?_
 simp only [Act.put, pu]
 refine pw_value (by rfl) (.pointer (some ⟨g1, 1, none⟩)) (exec_field 25 _ 1 rfl g1 0 rfl _ Tryd.underlying25 _ rfl 0 Tryd.sizeOf3) ?_
 simp only [Act.put, pu]
 refine pw_loadk (by rfl) 3 _ rfl _ (1) rfl r1.r (.int .i64 y) rfl Tryd.isAgg3 ?_
 simp only [Act.put, pu]
 refine pw_callB (by rfl) 16 _ _ rfl Tryd.func16 (by kernel_rfl) #[.int .i64 x, .int .i64 y] rfl _ ((ends_any x y _).mono fun e w' ⟨he, hb⟩ => ⟨he.trans (by rw [h]), hb⟩) ?_
 intro z1004 k
 simp only [Act.put, pu]
 replace r1 := k.row r1 (by simp <;> omega)
 replace sb := sb.trans (k.below w.heap.size sb.size (by simp <;> omega))
 clear k
 refine pw_value (by rfl) (.bool false) (exec_not _ _ rfl true rfl) ?_
 simp only [Act.put, pu]
 refine pw_mv (by rfl) rfl rfl ?_
 simp only [Act.put, pu]
 refine pw_value (by rfl) (.pointer (some ⟨g1, 3, none⟩)) (exec_field 25 _ 3 rfl g1 0 rfl _ Tryd.underlying25 _ rfl 0 Tryd.sizeOf9) ?_
 simp only [Act.put, pu]
 refine pw_loadk (by rfl) 9 _ rfl _ (3) rfl r1.r (.string ⟨t.toArray⟩) rfl Tryd.isAgg9 ?_
 simp only [Act.put, pu]
 refine pw_value (by rfl) (.int .i64 (t.length : Nat)) (y_lenS _ _ rfl t rfl Tryd.underlying9) ?_
 simp only [Act.put, pu]
 refine pw_value (by rfl) (.bool false) (x_neI _ _ _ _ rfl .i64 (t.length : Nat) 32 rfl rfl false (decide_eq_true (by omega))) ?_
 simp only [Act.put, pu]
 refine pw_pick (by rfl) false (v := .bool false) rfl rfl rfl ?_
 simp only [Act.put, pu]
 refine pw_mv (by rfl) rfl rfl ?_
 simp only [Act.put, pu]
 refine pw_value (by rfl) (.pointer (some ⟨g1, 2, none⟩)) (exec_field 25 _ 2 rfl g1 0 rfl _ Tryd.underlying25 _ rfl 0 Tryd.sizeOf9) ?_
 simp only [Act.put, pu]
 refine pw_loadk (by rfl) 9 _ rfl _ (2) rfl r1.r (.string ⟨b.toArray⟩) rfl Tryd.isAgg9 ?_
 simp only [Act.put, pu]
 refine pw_value (by rfl) (.int .i64 (b.length : Nat)) (y_lenS _ _ rfl b rfl Tryd.underlying9) ?_
 simp only [Act.put, pu]
 refine pw_value (by rfl) (.bool false) (x_gt _ _ _ _ rfl (b.length : Nat) 8192 rfl rfl false (decide_eq_false (by omega))) ?_
 simp only [Act.put, pu]
 refine pw_pick (by rfl) false (v := .bool false) rfl rfl rfl ?_
 simp only [Act.put, pu]
 refine pw_nil ?_
 (repeat ((fail_if_success with_reducible refine rg ?_); go_step))
 refine wp_region_qw (by kernel_rfl) (by kernel_rfl) ?_
 refine qw_value (by rfl) (.pointer (some ⟨g1, 0, none⟩)) (exec_field 25 _ 0 rfl g1 0 rfl _ Tryd.underlying25 _ rfl 0 Tryd.sizeOf3) ?_
 simp only [Act.put, pu]
 refine qw_loadc (by rfl) 3 _ rfl _ (0) rfl r1 (.int .i64 x) rfl Tryd.isAgg3 ?_
 simp only [Act.put, pu]
 refine qw_value (by rfl) (.pointer (some ⟨g1, 1, none⟩)) (exec_field 25 _ 1 rfl g1 0 rfl _ Tryd.underlying25 _ rfl 0 Tryd.sizeOf3) ?_
 simp only [Act.put, pu]
 refine qw_loadc (by rfl) 3 _ rfl _ (1) rfl r1 (.int .i64 y) rfl Tryd.isAgg3 ?_
 simp only [Act.put, pu]
 refine qw_call (by rfl) 19 _ _ rfl Tryd.func19 (by kernel_rfl) #[.int .i64 x, .int .i64 y] rfl _ (fun w' => endb_any x y w') ?_
 simp only [Act.put, pu]
 refine qw_value (by rfl) (.pointer (some ⟨g1, 3, none⟩)) (exec_field 25 _ 3 rfl g1 0 rfl _ Tryd.underlying25 _ rfl 0 Tryd.sizeOf9) ?_
 simp only [Act.put, pu]
 refine qw_loadc (by rfl) 9 _ rfl _ (3) rfl r1 (.string ⟨t.toArray⟩) rfl Tryd.isAgg9 ?_
 simp only [Act.put, pu]
 refine qw_value (by rfl) (.string ⟨(keyE x y ++ t).toArray⟩) (x_cat _ _ _ _ rfl (keyE x y) t rfl rfl (by rw [hE]; omega)) ?_
 simp only [Act.put, pu]
 refine qw_value (by rfl) (.pointer (some ⟨g1, 2, none⟩)) (exec_field 25 _ 2 rfl g1 0 rfl _ Tryd.underlying25 _ rfl 0 Tryd.sizeOf9) ?_
 simp only [Act.put, pu]
 refine qw_loadc (by rfl) 9 _ rfl _ (2) rfl r1 (.string ⟨b.toArray⟩) rfl Tryd.isAgg9 ?_
 simp only [Act.put, pu]
 refine qw_value (by rfl) (.string ⟨(keyE x y ++ t ++ b).toArray⟩) (x_cat _ _ _ _ rfl (keyE x y ++ t) b rfl rfl (by rw [List.length_append, hE]; omega)) ?_
 simp only [Act.put, pu]
 refine qw_asg (by rfl) rfl rfl ?_
 simp only [Act.put, pu]
 refine qw_value (by rfl) (.int .i64 0) (fun _ => rfl) ?_
 simp only [Act.put, pu]
 refine qw_nil ?_
 intro w4 hqb
 replace sb := below_on sb (Nat.le_refl _) hqb
 clear hqb
 go_wp2
 go_ret2
 exact ⟨rfl, sb⟩
set_option maxRecDepth 100000 in
set_option maxHeartbeats 2000000 in
theorem ftk_short (s : List UInt8) (w : World) (h : s.length < 34) :
  Calls Tryd.prog 14 #[.string ⟨s.toArray⟩] w fun e w' => e = .returned (.tuple #[.agg (frC 0 0 [] []), .int .i64 4]) ∧ Below w.heap.size w w' := by
 go_enter Tryd.func14, Tryd.ntmps14
 (repeat ((fail_if_success with_reducible refine rg ?_); go_step))
 refine wp_region_pw ?_
 refine pw_new (by rfl) 25 rfl _ zero_fr ?_
 intro g2 z0 n0 r2 k
 simp only [Act.put, pu]
 have b2 : w.heap.size ≤ g2 := n0
 clear n0
 have sb := k.below w.heap.size (Nat.le_refl _) (by simp)
 clear k
 refine pw_value (by rfl) (.int .i64 0) (fun _ => rfl) ?_
 simp only [Act.put, pu]
 refine pw_nil ?_
 (repeat ((fail_if_success with_reducible refine rg ?_); go_step))
 refine wp_region_pw ?_
 refine pw_mv (by rfl) rfl rfl ?_
 simp only [Act.put, pu]
 refine pw_value (by rfl) (.int .i64 (s.length : Nat)) (y_lenS _ _ rfl s rfl Tryd.underlying9) ?_
 simp only [Act.put, pu]
 refine pw_value (by rfl) (.bool true) (x_lt _ _ _ _ rfl (s.length : Nat) 34 rfl rfl true (decide_eq_true (by omega))) ?_
 simp only [Act.put, pu]
 refine pw_mv (by rfl) rfl rfl ?_
 simp only [Act.put, pu]
 refine pw_skip (by rfl) ?_
 simp only [Act.put, pu]
 refine pw_skip (by rfl) ?_
 simp only [Act.put, pu]
 refine pw_skip (by rfl) ?_
 simp only [Act.put, pu]
 refine pw_pick (by rfl) true (v := .bool true) rfl rfl rfl ?_
 simp only [Act.put, pu]
 refine pw_nil ?_
 (repeat ((fail_if_success with_reducible refine rg ?_); go_step))
 refine wp_region_pw ?_
 refine pw_value (by rfl) (.agg (frC 0 0 [] [])) (exec_buildv _ [] rfl [] rfl _ built_fr0) ?_
 simp only [Act.put, pu]
 refine pw_put (by rfl) 25 _ _ rfl _ rfl r2 (frC 0 0 [] []) rfl (by exact size_fr) (by rfl) (fr_one _ _ _ _) ?_
 clear r2
 intro z2001 r2 k
 simp only [Act.put]
 replace sb := sb.trans (k.below w.heap.size sb.size (by simp <;> omega))
 clear k
 refine pw_value (by rfl) (.int .i64 4) (fun _ => rfl) ?_
 simp only [Act.put, pu]
 refine pw_nil ?_
 go_wp2
 exact ret_rowE rfl _ rfl r2 _ Tryd.underlying25 (by exact size_fr) rfl _ rfl ⟨rfl, sb⟩
set_option maxRecDepth 100000 in
set_option maxHeartbeats 2000000 in
theorem ftk_long (s : List UInt8) (w : World) (h : 8226 < s.length) :
  Calls Tryd.prog 14 #[.string ⟨s.toArray⟩] w fun e w' => e = .returned (.tuple #[.agg (frC 0 0 [] []), .int .i64 4]) ∧ Below w.heap.size w w' := by
 go_enter Tryd.func14, Tryd.ntmps14
 (repeat ((fail_if_success with_reducible refine rg ?_); go_step))
 refine wp_region_pw ?_
 refine pw_new (by rfl) 25 rfl _ zero_fr ?_
 intro g2 z0 n0 r2 k
 simp only [Act.put, pu]
 have b2 : w.heap.size ≤ g2 := n0
 clear n0
 have sb := k.below w.heap.size (Nat.le_refl _) (by simp)
 clear k
 refine pw_value (by rfl) (.int .i64 0) (fun _ => rfl) ?_
 simp only [Act.put, pu]
 refine pw_nil ?_
 (repeat ((fail_if_success with_reducible refine rg ?_); go_step))
 refine wp_region_pw ?_
 refine pw_mv (by rfl) rfl rfl ?_
 simp only [Act.put, pu]
 refine pw_value (by rfl) (.int .i64 (s.length : Nat)) (y_lenS _ _ rfl s rfl Tryd.underlying9) ?_
 simp only [Act.put, pu]
 refine pw_value (by rfl) (.bool false) (x_lt _ _ _ _ rfl (s.length : Nat) 34 rfl rfl false (decide_eq_false (by omega))) ?_
 simp only [Act.put, pu]
 refine pw_mv (by rfl) rfl rfl ?_
 simp only [Act.put, pu]
 refine pw_mv (by rfl) rfl rfl ?_
 simp only [Act.put, pu]
 refine pw_value (by rfl) (.int .i64 (s.length : Nat)) (y_lenS _ _ rfl s rfl Tryd.underlying9) ?_
 simp only [Act.put, pu]
 refine pw_value (by rfl) (.bool true) (x_gt _ _ _ _ rfl (s.length : Nat) 8226 rfl rfl true (decide_eq_true (by omega))) ?_
 simp only [Act.put, pu]
 refine pw_pick (by rfl) false (v := .bool true) rfl rfl rfl ?_
 simp only [Act.put, pu]
 refine pw_nil ?_
 (repeat ((fail_if_success with_reducible refine rg ?_); go_step))
 refine wp_region_pw ?_
 refine pw_value (by rfl) (.agg (frC 0 0 [] [])) (exec_buildv _ [] rfl [] rfl _ built_fr0) ?_
 simp only [Act.put, pu]
 refine pw_put (by rfl) 25 _ _ rfl _ rfl r2 (frC 0 0 [] []) rfl (by exact size_fr) (by rfl) (fr_one _ _ _ _) ?_
 clear r2
 intro z2001 r2 k
 simp only [Act.put]
 replace sb := sb.trans (k.below w.heap.size sb.size (by simp <;> omega))
 clear k
 refine pw_value (by rfl) (.int .i64 4) (fun _ => rfl) ?_
 simp only [Act.put, pu]
 refine pw_nil ?_
 go_wp2
 exact ret_rowE rfl _ rfl r2 _ Tryd.underlying25 (by exact size_fr) rfl _ rfl ⟨rfl, sb⟩
set_option maxRecDepth 100000 in
set_option maxHeartbeats 2000000 in
theorem ftk_ends (s : List UInt8) (w : World) (h1 : 34 ≤ s.length) (h2 : s.length ≤ 8226) (h : enB (bf s 0 : Nat) (bf s 1 : Nat) = false) :
  Calls Tryd.prog 14 #[.string ⟨s.toArray⟩] w fun e w' => e = .returned (.tuple #[.agg (frC 0 0 [] []), .int .i64 4]) ∧ Below w.heap.size w w' := by
 go_enter Tryd.func14, Tryd.ntmps14
 (repeat ((fail_if_success with_reducible refine rg ?_); go_step))
 refine wp_region_pw ?_
 refine pw_new (by rfl) 25 rfl _ zero_fr ?_
 intro g2 z0 n0 r2 k
 simp only [Act.put, pu]
 have b2 : w.heap.size ≤ g2 := n0
 clear n0
 have sb := k.below w.heap.size (Nat.le_refl _) (by simp)
 clear k
 refine pw_value (by rfl) (.int .i64 0) (fun _ => rfl) ?_
 simp only [Act.put, pu]
 refine pw_nil ?_
 (repeat ((fail_if_success with_reducible refine rg ?_); go_step))
 refine wp_region_pw ?_
 refine pw_mv (by rfl) rfl rfl ?_
 simp only [Act.put, pu]
 refine pw_value (by rfl) (.int .i64 (s.length : Nat)) (y_lenS _ _ rfl s rfl Tryd.underlying9) ?_
 simp only [Act.put, pu]
 refine pw_value (by rfl) (.bool false) (x_lt _ _ _ _ rfl (s.length : Nat) 34 rfl rfl false (decide_eq_false (by omega))) ?_
 simp only [Act.put, pu]
 refine pw_mv (by rfl) rfl rfl ?_
 simp only [Act.put, pu]
 refine pw_mv (by rfl) rfl rfl ?_
 simp only [Act.put, pu]
 refine pw_value (by rfl) (.int .i64 (s.length : Nat)) (y_lenS _ _ rfl s rfl Tryd.underlying9) ?_
 simp only [Act.put, pu]
 refine pw_value (by rfl) (.bool false) (x_gt _ _ _ _ rfl (s.length : Nat) 8226 rfl rfl false (decide_eq_false (by omega))) ?_
 simp only [Act.put, pu]
 refine pw_pick (by rfl) false (v := .bool false) rfl rfl rfl ?_
 simp only [Act.put, pu]
 refine pw_nil ?_
 (repeat ((fail_if_success with_reducible refine rg ?_); go_step))
 refine wp_region_qw (by kernel_rfl) (by kernel_rfl) ?_
 refine qw_move (by rfl) rfl rfl ?_
 simp only [Act.put, pu]
 refine qw_value (by rfl) (.int .u8 (bf s 0 : Nat)) (x_index _ _ _ rfl Tryd.underlying9 s rfl .i64 0 rfl (by omega)) ?_
 simp only [Act.put, pu]
 refine qw_value (by rfl) (.int .i64 (bf s 0 : Nat)) (x_conv _ _ _ rfl .u8 .i64 Tryd.underlying5 Tryd.underlying3 (bf s 0 : Nat) _ rfl (wri _ (bf_lt s 0))) ?_
 simp only [Act.put, pu]
 refine qw_move (by rfl) rfl rfl ?_
 simp only [Act.put, pu]
 refine qw_value (by rfl) (.int .u8 (bf s 1 : Nat)) (x_index _ _ _ rfl Tryd.underlying9 s rfl .i64 1 rfl (by omega)) ?_
 simp only [Act.put, pu]
 refine qw_value (by rfl) (.int .i64 (bf s 1 : Nat)) (x_conv _ _ _ rfl .u8 .i64 Tryd.underlying5 Tryd.underlying3 (bf s 1 : Nat) _ rfl (wri _ (bf_lt s 1))) ?_
 simp only [Act.put, pu]
 refine qw_asg (by rfl) rfl rfl ?_
 simp only [Act.put, pu]
 refine qw_asg (by rfl) rfl rfl ?_
 simp only [Act.put, pu]
 refine qw_nil ?_
 intro w4 hqb
 replace r2 := r2.belowAll hqb
 replace sb := below_on sb (Nat.le_refl _) hqb
 clear hqb
 (repeat ((fail_if_success with_reducible refine rg ?_); go_step))
 refine wp_region_pw ?_
 refine pw_mv (by rfl) rfl rfl ?_
 simp only [Act.put, pu]
 refine pw_mv (by rfl) rfl rfl ?_
 simp only [Act.put, pu]
 refine pw_callB (by rfl) 16 _ _ rfl Tryd.func16 (by kernel_rfl) #[.int .i64 (bf s 0 : Nat), .int .i64 (bf s 1 : Nat)] rfl _ ((ends_any _ _ _).mono fun e w' ⟨he, hb⟩ => ⟨he.trans (by rw [h]), hb⟩) ?_
 intro z4002 k
 simp only [Act.put, pu]
 replace r2 := k.row r2 (by simp <;> omega)
 replace sb := sb.trans (k.below w.heap.size sb.size (by simp <;> omega))
 clear k
 refine pw_value (by rfl) (.bool true) (exec_not _ _ rfl false rfl) ?_
 simp only [Act.put, pu]
 refine pw_nil ?_
 (repeat ((fail_if_success with_reducible refine rg ?_); go_step))
 refine wp_region_pw ?_
 refine pw_value (by rfl) (.agg (frC 0 0 [] [])) (exec_buildv _ [] rfl [] rfl _ built_fr0) ?_
 simp only [Act.put, pu]
 refine pw_put (by rfl) 25 _ _ rfl _ rfl r2 (frC 0 0 [] []) rfl (by exact size_fr) (by rfl) (fr_one _ _ _ _) ?_
 clear r2
 intro z5001 r2 k
 simp only [Act.put]
 replace sb := sb.trans (k.below w.heap.size sb.size (by simp <;> omega))
 clear k
 refine pw_value (by rfl) (.int .i64 4) (fun _ => rfl) ?_
 simp only [Act.put, pu]
 refine pw_nil ?_
 go_wp2
 exact ret_rowE rfl _ rfl r2 _ Tryd.underlying25 (by exact size_fr) rfl _ rfl ⟨rfl, sb⟩
set_option maxRecDepth 100000 in
set_option maxHeartbeats 2000000 in
theorem ftk_ok (s : List UInt8) (w : World) (h1 : 34 ≤ s.length) (h2 : s.length ≤ 8226) (h : enB (bf s 0 : Nat) (bf s 1 : Nat) = true) :
  Calls Tryd.prog 14 #[.string ⟨s.toArray⟩] w fun e w' => e = .returned (.tuple #[.agg (frC (bf s 0 : Nat) (bf s 1 : Nat) (s.drop 34) ((s.take 34).drop 2)), .int .i64 0]) ∧ Below w.heap.size w w' := by
 have hd : (s.drop 34).length ≤ 16777216 := by rw [List.length_drop]; omega
 have ht : ((s.take 34).drop 2).length ≤ 16777216 := by rw [List.length_drop, List.length_take]; omega
 go_enter Tryd.func14, Tryd.ntmps14
 (repeat ((fail_if_success with_reducible refine rg ?_); go_step))
 refine wp_region_pw ?_
 refine pw_new (by rfl) 25 rfl _ zero_fr ?_
 intro g2 z0 n0 r2 k
 simp only [Act.put, pu]
 have b2 : w.heap.size ≤ g2 := n0
 clear n0
 have sb := k.below w.heap.size (Nat.le_refl _) (by simp)
 clear k
 refine pw_value (by rfl) (.int .i64 0) (fun _ => rfl) ?_
 simp only [Act.put, pu]
 refine pw_nil ?_
 (repeat ((fail_if_success with_reducible refine rg ?_); go_step))
 refine wp_region_pw ?_
 refine pw_mv (by rfl) rfl rfl ?_
 simp only [Act.put, pu]
 refine pw_value (by rfl) (.int .i64 (s.length : Nat)) (y_lenS _ _ rfl s rfl Tryd.underlying9) ?_
 simp only [Act.put, pu]
 refine pw_value (by rfl) (.bool false) (x_lt _ _ _ _ rfl (s.length : Nat) 34 rfl rfl false (decide_eq_false (by omega))) ?_
 simp only [Act.put, pu]
 refine pw_mv (by rfl) rfl rfl ?_
 simp only [Act.put, pu]
 refine pw_mv (by rfl) rfl rfl ?_
 simp only [Act.put, pu]
 refine pw_value (by rfl) (.int .i64 (s.length : Nat)) (y_lenS _ _ rfl s rfl Tryd.underlying9) ?_
 simp only [Act.put, pu]
 refine pw_value (by rfl) (.bool false) (x_gt _ _ _ _ rfl (s.length : Nat) 8226 rfl rfl false (decide_eq_false (by omega))) ?_
 simp only [Act.put, pu]
 refine pw_pick (by rfl) false (v := .bool false) rfl rfl rfl ?_
 simp only [Act.put, pu]
 refine pw_nil ?_
 (repeat ((fail_if_success with_reducible refine rg ?_); go_step))
 refine wp_region_qw (by kernel_rfl) (by kernel_rfl) ?_
 refine qw_move (by rfl) rfl rfl ?_
 simp only [Act.put, pu]
 refine qw_value (by rfl) (.int .u8 (bf s 0 : Nat)) (x_index _ _ _ rfl Tryd.underlying9 s rfl .i64 0 rfl (by omega)) ?_
 simp only [Act.put, pu]
 refine qw_value (by rfl) (.int .i64 (bf s 0 : Nat)) (x_conv _ _ _ rfl .u8 .i64 Tryd.underlying5 Tryd.underlying3 (bf s 0 : Nat) _ rfl (wri _ (bf_lt s 0))) ?_
 simp only [Act.put, pu]
 refine qw_move (by rfl) rfl rfl ?_
 simp only [Act.put, pu]
 refine qw_value (by rfl) (.int .u8 (bf s 1 : Nat)) (x_index _ _ _ rfl Tryd.underlying9 s rfl .i64 1 rfl (by omega)) ?_
 simp only [Act.put, pu]
 refine qw_value (by rfl) (.int .i64 (bf s 1 : Nat)) (x_conv _ _ _ rfl .u8 .i64 Tryd.underlying5 Tryd.underlying3 (bf s 1 : Nat) _ rfl (wri _ (bf_lt s 1))) ?_
 simp only [Act.put, pu]
 refine qw_asg (by rfl) rfl rfl ?_
 simp only [Act.put, pu]
 refine qw_asg (by rfl) rfl rfl ?_
 simp only [Act.put, pu]
 refine qw_nil ?_
 intro w4 hqb
 replace r2 := r2.belowAll hqb
 replace sb := below_on sb (Nat.le_refl _) hqb
 clear hqb
 (repeat ((fail_if_success with_reducible refine rg ?_); go_step))
 refine wp_region_pw ?_
 refine pw_mv (by rfl) rfl rfl ?_
 simp only [Act.put, pu]
 refine pw_mv (by rfl) rfl rfl ?_
 simp only [Act.put, pu]
 refine pw_callB (by rfl) 16 _ _ rfl Tryd.func16 (by kernel_rfl) #[.int .i64 (bf s 0 : Nat), .int .i64 (bf s 1 : Nat)] rfl _ ((ends_any _ _ _).mono fun e w' ⟨he, hb⟩ => ⟨he.trans (by rw [h]), hb⟩) ?_
 intro z4002 k
 simp only [Act.put, pu]
 replace r2 := k.row r2 (by simp <;> omega)
 replace sb := sb.trans (k.below w.heap.size sb.size (by simp <;> omega))
 clear k
 refine pw_value (by rfl) (.bool false) (exec_not _ _ rfl true rfl) ?_
 simp only [Act.put, pu]
 refine pw_nil ?_
 (repeat ((fail_if_success with_reducible refine rg ?_); go_step))
 apply wp_region_mix (by kernel_rfl) [(g2, 25, frC 0 0 [] [])] [_, _, _, _, _, _, _, _, _, _, _] ⟨r2, trivial⟩ (by simp <;> omega)
 ·intro p
  refine mx_move rfl rfl ?_
  simp only [Act.put, pu]
  refine mx_move rfl rfl ?_
  simp only [Act.put, pu]
  refine mx_move rfl rfl ?_
  simp only [Act.put, pu]
  refine mx_val (.string ⟨(s.drop 34).toArray⟩) (y_from _ _ _ Tryd.underlying9 rfl s 34 rfl rfl (by omega)) ?_
  simp only [Act.put, pu]
  refine mx_call 20 _ _ rfl Tryd.func20 (by kernel_rfl) #[.string ⟨(s.drop 34).toArray⟩] rfl _ (fun w' => clone_any _ w' hd) ?_
  simp only [Act.put, pu]
  refine mx_move rfl rfl ?_
  simp only [Act.put, pu]
  refine mx_val (.string ⟨((s.take 34).drop 2).toArray⟩) (y_mid _ _ _ _ Tryd.underlying9 rfl s 2 34 rfl rfl rfl (by omega) (by omega) _ rfl) ?_
  simp only [Act.put, pu]
  refine mx_call 20 _ _ rfl Tryd.func20 (by kernel_rfl) #[.string ⟨((s.take 34).drop 2).toArray⟩] rfl _ (fun w' => clone_any _ w' ht) ?_
  simp only [Act.put, pu]
  refine mx_val (.agg (frC (bf s 0 : Nat) (bf s 1 : Nat) (s.drop 34) ((s.take 34).drop 2))) (exec_buildv _ [(0, _), (1, _), (2, _), (3, _)] rfl [(0, .int .i64 (bf s 0 : Nat)), (1, .int .i64 (bf s 1 : Nat)), (2, .string ⟨(s.drop 34).toArray⟩), (3, .string ⟨((s.take 34).drop 2).toArray⟩)] rfl _ (built_fr _ _ _ _)) ?_
  simp only [Act.put, pu]
  refine mx_put 0 25 _ _ rfl rfl rfl (frC (bf s 0 : Nat) (bf s 1 : Nat) (s.drop 34) ((s.take 34).drop 2)) rfl (by exact size_fr) (by rfl) (fr_one _ _ _ _) ?_
  simp only [Act.put]
  refine mx_val (.int .i64 0) (fun _ => rfl) ?_
  simp only [Act.put, pu]
  refine mx_end ?_
  intro w6 hkw hrw hnew hdis
  have zr2 : Row w6 (g2) (frC (bf s 0 : Nat) (bf s 1 : Nat) (s.drop 34) ((s.take 34).drop 2)) 25 := hrw 0 (25, frC (bf s 0 : Nat) (bf s 1 : Nat) (s.drop 34) ((s.take 34).drop 2)) rfl
  replace sb := sb.trans (hkw.below w.heap.size sb.size (by simp <;> omega))
  clear hkw hrw hnew hdis r2
  have r2 := zr2
  clear zr2
  go_wp2
  exact ret_rowE rfl _ rfl r2 _ Tryd.underlying25 (by exact size_fr) rfl _ rfl ⟨rfl, sb⟩
 ·kernel_rfl
end Go.Proofs.YtdanmnhknmepiaaDoor
