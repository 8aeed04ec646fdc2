/- sha's Hex. -/
import Derived.Test.YtililfgbboecmaaDoorSBuild
import Derived.Test.YtililfgbboecmaaDoorSShelf
namespace Go.Proofs.YtililfgbboecmaaDoor
open Go.RowKit
set_option linter.unusedVariables false

def digL : List UInt8 := [48, 49, 50, 51, 52, 53, 54, 55, 56, 57, 97, 98, 99, 100, 101, 102]
/-- A byte as two digits; bytes as digits. -/
def hx2 (n : Nat) : List UInt8 := [digL.getD (n / 16) 0, digL.getD (n % 16) 0]
def hexL : List UInt8 → List UInt8
  | [] => []
  | b :: r => hx2 b.toNat ++ hexL r
theorem hexL_append : ∀ (l s : List UInt8), hexL (l ++ s) = hexL l ++ hexL s
  | [], s => rfl
  | b :: l, s => by
    show hx2 b.toNat ++ hexL (l ++ s) = (hx2 b.toNat ++ hexL l) ++ hexL s
    rw [hexL_append l s, List.append_assoc]
theorem hexL_length : ∀ l : List UInt8, (hexL l).length = 2 * l.length
  | [] => rfl
  | b :: l => by
    show (hx2 b.toNat ++ hexL l).length = _
    rw [List.length_append, hexL_length l, List.length_cons]
    show 2 + _ = _
    omega
theorem hexL_take (l : List UInt8) (i : Nat) (h : i < l.length) : hexL (l.take (i + 1)) = hexL (l.take i) ++ [digL.getD (bf l i / 16) 0] ++ [digL.getD (bf l i % 16) 0] := by
  rw [List.take_succ_eq_append_getElem h, hexL_append, List.append_assoc]
  have : l[i].toNat = bf l i := by
    unfold bf
    rw [List.getD_eq_getElem?_getD, List.getElem?_eq_getElem h]
    rfl
  show _ ++ (hx2 l[i].toNat ++ []) = _
  rw [List.append_nil, this]
  rfl
theorem bc_snoc (l : List UInt8) (b : UInt8) (n : Nat) (h : b.toNat = n) : Lib.byteCells l ++ [.int .u8 (n : Nat)] = Lib.byteCells (l ++ [b]) := by
  subst h
  simp [Lib.byteCells]
theorem dig_bf (n : Nat) (h : n < 16) : (digL.getD n 0).toNat = bf digL n := rfl
theorem zero_bu (w : World) : (zeroValue 50).run Tryd.prog w = .ok (.agg #[.pointer none, .slice none 0 0]) w := by
  have h : (Tryd.prog.info? 50).map (fun i => (i.zero, i.size)) = some (some (.agg #[.pointer none, .slice none 0 0]), 2) := by kernel_rfl
  exact (zero_of_info h).1 w
section
variable {P : Program} {ops : Array Oper} {Q : Exit → Act → World → Prop} {rest : List Oper} {o : Oper} {a : Act} {w : World}
/-- A call, whatever it leaves. -/
theorem pw_callP {fn : Func} (hw : Region.wanted o (yielded ops a.tmps) = true) (f : FuncId) (args : Array Operand) (ts : Array TypeId)
    (ho : o.op = .call { callee := .value (.func f), args := args, argTypes := ts }) (hf : P.funcs[f]? = some fn) (hb : (fn.name == "runtime.NumGoroutine" || fn.body.isNone) = false)
    (vs : Array Value) (hv' : args.toList.map a.eval = vs.toList) (R : Ending → World → Prop) (hc : Calls P f vs w R)
    (h : ∀ e w', R e w' → ∃ v, e = .returned v ∧ PW P ops Q rest (a.put o.dst v) w') : PW P ops Q (o :: rest) a w := by
  refine ⟨?_⟩
  unfold wpList
  rw [if_pos hw]
  left
  refine (opw_call f args ts ho hf hb vs hv' ?_).out
  exact hc.mono fun e w' hr => by
    obtain ⟨v, he, hp⟩ := h e w' hr
    exact ⟨v, he, hp.out⟩
end
theorem bc_length (l : List UInt8) : (Lib.byteCells l).length = l.length := by simp [Lib.byteCells]
set_option maxRecDepth 100000 in
set_option maxHeartbeats 2000000 in
theorem hex_any (l : List UInt8) (w : World) (hl : l.length < 4294967296) :
    Calls Tryd.prog 14 #[.string ⟨l.toArray⟩] w fun e w' => e = .returned (.string ⟨(hexL l).toArray⟩) ∧ Below w.heap.size w w' := by
  have hsz : (⟨l.toArray⟩ : ByteArray).size = l.length := by simp [ByteArray.size]
  go_enter Tryd.func14, Tryd.ntmps14
  (repeat ((fail_if_success (with_reducible show Code.wp _ (Code.region _ _ _) _ _ _)); go_step))
  apply wp_region_mixp [] [_] trivial List.nodup_nil
  · intro p
    refine mx_val (.string ⟨#[]⟩) (fun _ => rfl) ?_
    simp only [Act.put, pb, pc, pd]
    refine mx_end ?_
    intro w2 hkw hrw hnew hdis
    have sb := hkw.below w.heap.size (Nat.le_refl _) (by simp)
    clear hkw hrw hnew hdis
    (repeat ((fail_if_success (with_reducible show Code.wp _ (Code.region _ _ _) _ _ _)); go_step))
    apply wp_region_mixp [] [_] trivial List.nodup_nil
    · intro p
      refine mx_new 50 rfl _ zero_bu ?_
      simp only [Act.put, pb, pc, pd]
      refine mx_end ?_
      intro w3 hkw hrw hnew hdis
      have n3 := hnew 0 rfl
      have zr3 : Row w3 (p 0) (#[.pointer none, .slice none 0 0]) 50 := hrw 1 (50, #[.pointer none, .slice none 0 0]) rfl
      have b3 := Nat.le_trans sb.size n3
      replace sb := sb.trans (hkw.below w.heap.size sb.size (by simp <;> omega))
      clear hkw hrw hnew hdis n3
      generalize p 0 = g3 at *
      have r3 := zr3
      clear zr3
      (repeat ((fail_if_success (with_reducible show Code.wp _ (Code.region _ _ _) _ _ _)); go_step))
      refine wp_region_pw ?_
      refine pw_move (by rfl) (.inl rfl) rfl ?_
      simp only [Act.put, pb, pc, pd]
      refine pw_value (by rfl) (.int .i64 (l.length : Nat)) (fun w' => (x_lenS _ _ rfl ⟨l.toArray⟩ rfl Tryd.underlying9 w').trans (by rw [hsz])) ?_
      simp only [Act.put, pb, pc, pd]
      refine pw_value (by rfl) (.int .i64 (2 * l.length : Nat)) (xi_mul _ _ _ _ rfl 2 l.length _ rfl rfl rfl (by omega)) ?_
      simp only [Act.put, pb, pc, pd]
      refine pw_callP (by rfl) 22 _ _ rfl Tryd.func22 (by kernel_rfl) #[.pointer (some ⟨g3, 0, none⟩), .int .i64 (2 * l.length : Nat)] rfl _ (Builder_Grow_fresh w.heap.size g3 (2 * l.length) _ b3 r3 sb.size (by omega)) ?_
      rintro _ w4 ⟨rfl, hBu, bb⟩
      refine ⟨_, rfl, ?_⟩
      replace sb := sb.trans bb
      clear bb r3
      simp only [Act.put, pb, pc, pd]
      refine pw_nil ?_
      have hBu0 : Lib.BuilderAt 50 5 w.heap.size g3 (.pointer (some ⟨g3, 0, none⟩)) (Lib.byteCells (hexL (l.take 0))) w4 := hBu
      clear hBu
      (repeat ((fail_if_success (with_reducible show Code.wp _ (Code.region _ _ _) _ _ _)); go_step))
      refine wp_region_qp ?_
      refine qw_move (by rfl) rfl rfl ?_
      simp only [Act.put, pb, pc, pd]
      refine qw_value (by rfl) (.int .i64 (l.length : Nat)) (fun w' => (x_lenS _ _ rfl ⟨l.toArray⟩ rfl Tryd.underlying9 w').trans (by rw [hsz])) ?_
      simp only [Act.put, pb, pc, pd]
      refine qw_value (by rfl) (.int .i64 0) (fun _ => rfl) ?_
      simp only [Act.put, pb, pc, pd]
      refine qw_nil ?_
      intro w5 hqb
      have H0 := builder_below hBu0 hqb
      have H1 := below_on sb (Nat.le_refl _) hqb
      have HL : Hid (l.length < 4294967296) := hl
      clear hqb hBu0 sb b3 hsz hl
      go_wp2_with fail
      go_loopg [4, 11] l.length (fun g s4 s11 wr => ∃ i : Nat, i + g = l.length ∧ s11 = .int .i64 i ∧ Lib.BuilderAt 50 5 w.heap.size g3 (.pointer (some ⟨g3, 0, none⟩)) (Lib.byteCells (hexL (l.take i))) wr ∧ Below w.heap.size w wr)
      case atStart => exact ⟨0, by omega, rfl, H0, H1⟩
      case round =>
        obtain ⟨i, hi', rfl, hBu, sb⟩ := hrel
        have hl := HL.out
        clear H0 H1
        cases gk with
        | zero =>
          obtain rfl : i = l.length := by omega
          clear hi'
          rw [List.take_length] at hBu
          (repeat ((fail_if_success (with_reducible show Code.wp _ (Code.region _ _ _) _ _ _)); go_step))
          refine wp_region_qp ?_
          refine qw_value (by rfl) (.bool false) (x_lt _ _ _ _ rfl l.length l.length rfl rfl false (decide_eq_false (by omega))) ?_
          simp only [Act.put, pb, pc, pd]
          refine qw_nil ?_
          intro w6 hqb
          replace hBu := builder_below hBu hqb
          replace sb := below_on sb (Nat.le_refl _) hqb
          clear hqb
          (repeat ((fail_if_success (with_reducible show Code.wp _ (Code.region _ _ _) _ _ _)); go_step))
          refine wp_region_pw ?_
          refine pw_callP (by rfl) 24 _ _ rfl Tryd.func24 (by kernel_rfl) #[.pointer (some ⟨g3, 0, none⟩)] rfl _ (Builder_String_any w.heap.size g3 (hexL l) _ (.inr hBu) sb.size) ?_
          rintro _ w8 ⟨rfl, bb⟩
          refine ⟨_, rfl, ?_⟩
          replace sb := sb.trans bb
          clear bb
          simp only [Act.put, pb, pc, pd]
          refine pw_move (by rfl) (.inr rfl) rfl ?_
          simp only [Act.put, pb, pc, pd]
          refine pw_nil ?_
          go_wp2
          go_ret
          exact ⟨rfl, sb⟩
        | succ g =>
          have hi : i < l.length := by omega
          have hb8 := bf_lt l i
          (repeat ((fail_if_success (with_reducible show Code.wp _ (Code.region _ _ _) _ _ _)); go_step))
          refine wp_region_qp ?_
          refine qw_value (by rfl) (.bool true) (x_lt _ _ _ _ rfl i l.length rfl rfl true (decide_eq_true (by omega))) ?_
          simp only [Act.put, pb, pc, pd]
          refine qw_nil ?_
          intro w6 hqb
          replace hBu := builder_below hBu hqb
          replace sb := below_on sb (Nat.le_refl _) hqb
          clear hqb
          (repeat ((fail_if_success (with_reducible show Code.wp _ (Code.region _ _ _) _ _ _)); go_step))
          refine wp_region_qp ?_
          refine qw_move (by rfl) rfl rfl ?_
          simp only [Act.put, pb, pc, pd]
          refine qw_asg (by rfl) rfl rfl ?_
          simp only [Act.put, pb, pc, pd]
          refine qw_nil ?_
          intro w7 hqb
          replace hBu := builder_below hBu hqb
          replace sb := below_on sb (Nat.le_refl _) hqb
          clear hqb
          (repeat ((fail_if_success (with_reducible show Code.wp _ (Code.region _ _ _) _ _ _)); go_step))
          refine wp_region_pw ?_
          refine pw_move (by rfl) (.inl rfl) rfl ?_
          simp only [Act.put, pb, pc, pd]
          refine pw_move (by rfl) (.inl rfl) rfl ?_
          simp only [Act.put, pb, pc, pd]
          refine pw_value (by rfl) (.int .u8 (bf l i : Nat)) (x_index _ _ _ rfl Tryd.underlying9 l rfl .i64 i rfl hi) ?_
          simp only [Act.put, pb, pc, pd]
          refine pw_value (by rfl) (.int .u8 (bf l i / 16 : Nat)) (x8_shr _ _ _ _ rfl (bf l i) 4 .u64 rfl rfl (by omega)) ?_
          simp only [Act.put, pb, pc, pd]
          refine pw_value (by rfl) (.int .u8 (bf digL (bf l i / 16) : Nat)) (x_index _ _ _ rfl Tryd.underlying9 digL rfl .u8 (bf l i / 16) rfl (by show _ < 16; omega)) ?_
          simp only [Act.put, pb, pc, pd]
          refine pw_callP (by rfl) 23 _ _ rfl Tryd.func23 (by kernel_rfl) #[.pointer (some ⟨g3, 0, none⟩), .int .u8 (bf digL (bf l i / 16) : Nat)] rfl _ (wbyte_any w.heap.size g3 (bf digL (bf l i / 16)) _ _ hBu (by rw [bc_length, hexL_length, List.length_take]; omega) sb.size) ?_
          rintro _ w8 ⟨rfl, hBu, bb⟩
          refine ⟨_, rfl, ?_⟩
          rw [bc_snoc _ (digL.getD (bf l i / 16) 0) (bf digL (bf l i / 16)) rfl] at hBu
          replace sb := sb.trans bb
          clear bb
          simp only [Act.put, pb, pc, pd]
          refine pw_nil ?_
          (repeat ((fail_if_success (with_reducible show Code.wp _ (Code.region _ _ _) _ _ _)); go_step))
          refine wp_region_pw ?_
          refine pw_move (by rfl) (.inl rfl) rfl ?_
          simp only [Act.put, pb, pc, pd]
          refine pw_move (by rfl) (.inl rfl) rfl ?_
          simp only [Act.put, pb, pc, pd]
          refine pw_value (by rfl) (.int .u8 (bf l i : Nat)) (x_index _ _ _ rfl Tryd.underlying9 l rfl .i64 i rfl hi) ?_
          simp only [Act.put, pb, pc, pd]
          refine pw_value (by rfl) (.int .u8 (bf l i % 16 : Nat)) (x8_and _ _ _ _ rfl (bf l i) 15 _ rfl rfl (bf_lt _ _) (by decide) (Nat.and_two_pow_sub_one_eq_mod _ 4)) ?_
          simp only [Act.put, pb, pc, pd]
          refine pw_value (by rfl) (.int .u8 (bf digL (bf l i % 16) : Nat)) (x_index _ _ _ rfl Tryd.underlying9 digL rfl .u8 (bf l i % 16) rfl (by show _ < 16; omega)) ?_
          simp only [Act.put, pb, pc, pd]
          refine pw_callP (by rfl) 23 _ _ rfl Tryd.func23 (by kernel_rfl) #[.pointer (some ⟨g3, 0, none⟩), .int .u8 (bf digL (bf l i % 16) : Nat)] rfl _ (wbyte_any w.heap.size g3 (bf digL (bf l i % 16)) _ _ hBu (by rw [bc_length, List.length_append, hexL_length, List.length_take]; show _ + 1 + 1 ≤ _; omega) sb.size) ?_
          rintro _ w9 ⟨rfl, hBu, bb⟩
          refine ⟨_, rfl, ?_⟩
          rw [bc_snoc _ (digL.getD (bf l i % 16) 0) (bf digL (bf l i % 16)) rfl] at hBu
          replace sb := sb.trans bb
          clear bb
          simp only [Act.put, pb, pc, pd]
          refine pw_nil ?_
          rw [← hexL_take l i hi] at hBu
          (repeat ((fail_if_success (with_reducible show Code.wp _ (Code.region _ _ _) _ _ _)); go_step))
          refine wp_region_qp ?_
          refine qw_value (by rfl) (.int .i64 (i + 1 : Nat)) (xi_add _ _ _ _ rfl i 1 rfl rfl (by omega)) ?_
          simp only [Act.put, pb, pc, pd]
          refine qw_move (by rfl) rfl rfl ?_
          simp only [Act.put, pb, pc, pd]
          refine qw_nil ?_
          intro w10 hqb
          replace hBu := builder_below hBu hqb
          replace sb := below_on sb (Nat.le_refl _) hqb
          clear hqb
          go_wp2
          go_roundg g
          case measure => omega
          case rel => exact ⟨i + 1, by omega, rfl, hBu, sb⟩
    · rfl
  · rfl
end Go.Proofs.YtililfgbboecmaaDoor
