/- The document's Hex. -/
import Derived.Test.YtiihgomjgdmabaaDoorSHexL
import Derived.Test.YtiihgomjgdmabaaDoorSPad
namespace Go.Proofs.YtiihgomjgdmabaaDoor
open Go.RowKit
set_option linter.unusedVariables false

section
variable {o : Oper} {a : Act} {w : World} {K : Act → World → Prop} {Q : Exit → Act → World → Prop}
theorem opw_app (s x : Operand) (ho : o.op = .call { callee := .builtin .append, args := #[s, x], argTypes := #[30, 30] }) (base : Nat) (v : Value) (l new : List UInt8) (hs : a.eval s = v) (hown : OB w base v l)
    (ad : Addr) (m c : Nat) (hx : a.eval x = .slice (some ad) m c) (hm : new.length = m) (hnew : ∀ j, j < m → w.cell? (ad.add j) = some (.int .u8 (bf new j : Nat))) (hlen : l.length + m ≤ 140737488355328) (hbase : base ≤ w.heap.size)
    (h : ∀ v' w', OB w' base v' (l ++ new) → w.grownBy w' v.ownBlock → K (a.put o.dst v') w') : OpW Tryd.prog o a w K Q := by
  obtain ⟨v', w', hr, h2, h3⟩ := run_app w o.type base v l new hown ad m c hm hnew hlen hbase
  refine ⟨?_⟩
  unfold Oper.wp execOp
  simp only [ho, resolve, invoke, builtin, Sem.run_bind, Sem.run_pure, Result.andThen_ok, List.map_toArray, List.map_cons, List.map_nil, hs, hx, hr]
  exact h v' w' h2 h3
theorem opw_lit2 (x y : Operand) (ho : o.op = .buildSlice 30 2 #[(0, x), (1, y)]) (n m : Nat) (hx : a.eval x = .int .u8 (n : Nat)) (hy : a.eval y = .int .u8 (m : Nat))
    (h : K (a.put o.dst (.slice (some ⟨w.heap.size, 0, none⟩) 2 2)) (w.alloc (.cells #[.int .u8 (n : Nat), .int .u8 (m : Nat)] 5))) : OpW Tryd.prog o a w K Q := by
  obtain ⟨i, hi, hz, hs1, hb1⟩ := info_b8
  have hf : Instr.fill (fun j => some (j * i.size, i.size)) ((Array.range (2 * i.size)).map ((Value.int .u8 0).cells[· % (Value.int .u8 0).cells.size]!)) (#[(0, x), (1, y)].map fun (j, z) => (j, a.eval z)).toList = some #[.int .u8 (n : Nat), .int .u8 (m : Nat)] := by
    rw [hs1]
    simp only [List.map_toArray, List.map_cons, List.map_nil, hx, hy]
    kernel_rfl
  refine ⟨?_⟩
  unfold Oper.wp execOp
  simp only [ho, Sem.run_bind, run_buildSlice w 30 5 2 _ _ i (.int .u8 0) Tryd.underlying30 hi hz (by rw [hs1]; decide) (by rw [hs1]; decide) hf, Result.andThen_ok]
  exact h
end
theorem x_strNil {o : Oper} {ρ : Operand → Value} (x : Operand) (ho : o.op = .convert 30 9 x) (hx : ρ x = .slice none 0 0) (w : World) : (execOp ρ o).run Tryd.prog w = .ok (.value (.string ⟨#[]⟩)) w := by
  unfold execOp
  simp only [ho, hx, Sem.run_bind]
  rw [run_convert_bytes_string w 30 9 5 none 0 0 Tryd.underlying30 Tryd.underlying5 Tryd.underlying9]
  rfl
theorem new_two {w : World} {g : Nat} {t : TypeId} {i : Nat} {l : List UInt8} (hR : Row w g #[.int .u8 (bf digL (bf l i / 16) : Nat), .int .u8 (bf digL (bf l i % 16) : Nat)] t) :
    ∀ j, j < 2 → w.cell? ((⟨g, 0, none⟩ : Addr).add j) = some (.int .u8 (bf [digL.getD (bf l i / 16) 0, digL.getD (bf l i % 16) 0] j : Nat)) := by
  intro j hj
  rw [Addr.add_mid, Nat.zero_add, hR.cell]
  match j, hj with
  | 0, _ => rfl
  | 1, _ => rfl
set_option maxRecDepth 100000 in
set_option maxHeartbeats 2000000 in
theorem rhex_region (l pre : List UInt8) (i base : Nat) (v4 t2 t10 t11 s12 s13 s14 s15 s16 s17 s18 s19 s20 s21 s22 s23 s24 s25 s26 : Value) (W0 W : World) (R : Exit → Act → World → Prop) (hi : i < l.length) (hlen : pre.length + 2 ≤ 140737488355328) (hown : OB W base v4 pre) (hbase : base ≤ W0.heap.size) (sb : Below base W0 W)
    (hend : ∀ v u12 u13 u14 u15 u16 u17 u18 u19 u20 u21 u22 u23 u24 u25 u26 w', OB w' base v (pre ++ [digL.getD (bf l i / 16) 0, digL.getD (bf l i % 16) 0]) → Below base W0 w' → R .normal ({ tmps := List.toArray ((.string ⟨l.toArray⟩) :: undef :: t2 :: (.string ⟨digL.toArray⟩) :: v :: (.int .i64 (i : Nat)) :: (.int .i64 (i : Nat)) :: (.string ⟨l.toArray⟩) :: (.int .i64 (l.length : Nat)) :: (.bool true) :: t10 :: t11 :: u12 :: u13 :: u14 :: u15 :: u16 :: u17 :: u18 :: u19 :: u20 :: u21 :: u22 :: u23 :: u24 :: u25 :: u26 :: undef :: undef :: []), defers := [] } : Act) w') :
    (Code.region 6 (List.toArray [{ dst := some 12, op := Op.move (Operand.tmp 4), type := 30, pos := "ref.go:96", after := #[], guard := none }, { dst := some 13, op := Op.move (Operand.tmp 3), type := 9, pos := "ref.go:96", after := #[], guard := none }, { dst := some 14, op := Op.move (Operand.tmp 0), type := 9, pos := "ref.go:96", after := #[], guard := none }, { dst := some 15, op := Op.move (Operand.tmp 5), type := 3, pos := "ref.go:96", after := #[], guard := none }, { dst := some 16, op := Op.index 9 (Operand.tmp 14) (Operand.tmp 15), type := 5, pos := "ref.go:96", after := #[{ on := 2, ground := Ground.data }, { on := 3, ground := Ground.data }], guard := none }, { dst := some 17, op := Op.binOp BinOp.quo 5 (Operand.tmp 16) (Operand.const (Value.int IntKind.u8 16)) 5, type := 5, pos := "ref.go:96", after := #[{ on := 4, ground := Ground.data }], guard := none }, { dst := some 18, op := Op.index 9 (Operand.tmp 13) (Operand.tmp 17), type := 5, pos := "ref.go:96", after := #[{ on := 1, ground := Ground.data }, { on := 5, ground := Ground.data }], guard := none }, { dst := some 19, op := Op.move (Operand.tmp 3), type := 9, pos := "ref.go:96", after := #[], guard := none }, { dst := some 20, op := Op.move (Operand.tmp 0), type := 9, pos := "ref.go:96", after := #[], guard := none }, { dst := some 21, op := Op.move (Operand.tmp 5), type := 3, pos := "ref.go:96", after := #[], guard := none }, { dst := some 22, op := Op.index 9 (Operand.tmp 20) (Operand.tmp 21), type := 5, pos := "ref.go:96", after := #[{ on := 8, ground := Ground.data }, { on := 9, ground := Ground.data }], guard := none }, { dst := some 23, op := Op.binOp BinOp.rem 5 (Operand.tmp 22) (Operand.const (Value.int IntKind.u8 16)) 5, type := 5, pos := "ref.go:96", after := #[{ on := 10, ground := Ground.data }], guard := none }, { dst := some 24, op := Op.index 9 (Operand.tmp 19) (Operand.tmp 23), type := 5, pos := "ref.go:96", after := #[{ on := 7, ground := Ground.data }, { on := 11, ground := Ground.data }], guard := none }, { dst := some 25, op := Op.buildSlice 30 2 #[(0, Operand.tmp 18), (1, Operand.tmp 24)], type := 30, pos := "ref.go:96", after := #[{ on := 6, ground := Ground.data }, { on := 12, ground := Ground.data }], guard := none }, { dst := some 26, op := Op.call { callee := Callee.builtin Builtin.append, args := #[Operand.tmp 12, Operand.tmp 25], argTypes := #[30, 30] }, type := 30, pos := "ref.go:96", after := #[{ on := 0, ground := Ground.data }, { on := 13, ground := Ground.data }], guard := none }, { dst := some 4, op := Op.assign (Operand.tmp 26), type := 30, pos := "ref.go:96", after := #[{ on := 14, ground := Ground.data }, { on := 14, ground := Ground.chain }, { on := 0, ground := Ground.phase }, { on := 1, ground := Ground.phase }, { on := 2, ground := Ground.phase }, { on := 3, ground := Ground.phase }, { on := 4, ground := Ground.phase }, { on := 5, ground := Ground.phase }, { on := 6, ground := Ground.phase }, { on := 7, ground := Ground.phase }, { on := 8, ground := Ground.phase }, { on := 9, ground := Ground.phase }, { on := 10, ground := Ground.phase }, { on := 11, ground := Ground.phase }, { on := 12, ground := Ground.phase }, { on := 13, ground := Ground.phase }, { on := 14, ground := Ground.phase }], guard := none }]) true).wp Tryd.prog R ({ tmps := List.toArray ((.string ⟨l.toArray⟩) :: undef :: t2 :: (.string ⟨digL.toArray⟩) :: v4 :: (.int .i64 (i : Nat)) :: (.int .i64 (i : Nat)) :: (.string ⟨l.toArray⟩) :: (.int .i64 (l.length : Nat)) :: (.bool true) :: t10 :: t11 :: s12 :: s13 :: s14 :: s15 :: s16 :: s17 :: s18 :: s19 :: s20 :: s21 :: s22 :: s23 :: s24 :: s25 :: s26 :: undef :: undef :: []), defers := [] } : Act) W := by
  refine wp_region_inv0 (by kernel_rfl) (fun d a' w' => ∃ X4 U12 U13 U14 U15 U16 U17 U18 U19 U20 U21 U22 U23 U24 U25 U26 : Value, a' = ({ tmps := List.toArray ((.string ⟨l.toArray⟩) :: undef :: t2 :: (.string ⟨digL.toArray⟩) :: X4 :: (.int .i64 (i : Nat)) :: (.int .i64 (i : Nat)) :: (.string ⟨l.toArray⟩) :: (.int .i64 (l.length : Nat)) :: (.bool true) :: t10 :: t11 :: U12 :: U13 :: U14 :: U15 :: U16 :: U17 :: U18 :: U19 :: U20 :: U21 :: U22 :: U23 :: U24 :: U25 :: U26 :: undef :: undef :: []), defers := [] } : Act) ∧ (d 0 = true → U12 = v4) ∧ (d 1 = true → U13 = .string ⟨digL.toArray⟩) ∧ (d 2 = true → U14 = .string ⟨l.toArray⟩) ∧ (d 3 = true → U15 = .int .i64 (i : Nat)) ∧ (d 4 = true → U16 = .int .u8 (bf l i : Nat)) ∧ (d 5 = true → U17 = .int .u8 (bf l i / 16 : Nat)) ∧ (d 6 = true → U18 = .int .u8 (bf digL (bf l i / 16) : Nat)) ∧ (d 7 = true → U19 = .string ⟨digL.toArray⟩) ∧ (d 8 = true → U20 = .string ⟨l.toArray⟩) ∧ (d 9 = true → U21 = .int .i64 (i : Nat)) ∧ (d 10 = true → U22 = .int .u8 (bf l i : Nat)) ∧ (d 11 = true → U23 = .int .u8 (bf l i % 16 : Nat)) ∧ (d 12 = true → U24 = .int .u8 (bf digL (bf l i % 16) : Nat)) ∧
      (d 15 = false → X4 = v4) ∧ (d 15 = true → X4 = U26 ∧ d 14 = true ∧ d 0 = true) ∧
      (d 14 = false → OB w' base v4 pre ∧ (d 13 = true → ∃ g, U25 = .slice (some ⟨g, 0, none⟩) 2 2 ∧ Row w' g #[.int .u8 (bf digL (bf l i / 16) : Nat), .int .u8 (bf digL (bf l i % 16) : Nat)] 5)) ∧
      (d 14 = true → OB w' base U26 (pre ++ [digL.getD (bf l i / 16) 0, digL.getD (bf l i % 16) 0])) ∧ Below base W0 w') (by kernel_rfl) ?start ?step ?fin
  case start =>
    exact ⟨v4, s12, s13, s14, s15, s16, s17, s18, s19, s20, s21, s22, s23, s24, s25, s26, rfl, nofun, nofun, nofun, nofun, nofun, nofun, nofun, nofun, nofun, nofun, nofun, nofun, nofun, fun _ => rfl, nofun, fun _ => ⟨hown.kept fun _ _ _ => rfl, nofun⟩, nofun, sb.drew⟩
  case step =>
    intro k o ho d a' w1 hI hd hpre
    obtain ⟨X4, U12, U13, U14, U15, U16, U17, U18, U19, U20, U21, U22, U23, U24, U25, U26, rfl, q0, q1, q2, q3, q4, q5, q6, q7, q8, q9, q10, q11, q12, p15, q15, p14, q14, sb⟩ := hI
    match k, ho with
    | 0, ho =>
      have ho' := Option.some.inj ho
      subst ho'
      have e15 : d 15 = false := by
        cases h : d 15 with
        | false => rfl
        | true => rw [(q15 h).2.2] at hd; cases hd
      obtain rfl : v4 = X4 := (p15 e15).symm
      refine opw_value (v4) (rfl) ?_
      exact ⟨_, _, U13, U14, U15, U16, U17, U18, U19, U20, U21, U22, U23, U24, U25, U26, rfl, fun _ => rfl, q1, q2, q3, q4, q5, q6, q7, q8, q9, q10, q11, q12, p15, fun h => ⟨(q15 h).1, (q15 h).2.1, rfl⟩, p14, q14, sb⟩
    | 1, ho =>
      have ho' := Option.some.inj ho
      subst ho'
      refine opw_value (.string ⟨digL.toArray⟩) (rfl) ?_
      exact ⟨X4, U12, _, U14, U15, U16, U17, U18, U19, U20, U21, U22, U23, U24, U25, U26, rfl, q0, fun _ => rfl, q2, q3, q4, q5, q6, q7, q8, q9, q10, q11, q12, p15, q15, p14, q14, sb⟩
    | 2, ho =>
      have ho' := Option.some.inj ho
      subst ho'
      refine opw_value (.string ⟨l.toArray⟩) (rfl) ?_
      exact ⟨X4, U12, U13, _, U15, U16, U17, U18, U19, U20, U21, U22, U23, U24, U25, U26, rfl, q0, q1, fun _ => rfl, q3, q4, q5, q6, q7, q8, q9, q10, q11, q12, p15, q15, p14, q14, sb⟩
    | 3, ho =>
      have ho' := Option.some.inj ho
      subst ho'
      refine opw_value (.int .i64 (i : Nat)) (rfl) ?_
      exact ⟨X4, U12, U13, U14, _, U16, U17, U18, U19, U20, U21, U22, U23, U24, U25, U26, rfl, q0, q1, q2, fun _ => rfl, q4, q5, q6, q7, q8, q9, q10, q11, q12, p15, q15, p14, q14, sb⟩
    | 4, ho =>
      have ho' := Option.some.inj ho
      subst ho'
      obtain rfl : U14 = .string ⟨l.toArray⟩ := q2 (hpre ⟨2, .data⟩ (by simp) rfl)
      obtain rfl : U15 = .int .i64 (i : Nat) := q3 (hpre ⟨3, .data⟩ (by simp) rfl)
      refine opw_value (.int .u8 (bf l i : Nat)) (x_index _ _ _ rfl Tryd.underlying9 l rfl .i64 i rfl hi w1) ?_
      exact ⟨X4, U12, U13, _, _, _, U17, U18, U19, U20, U21, U22, U23, U24, U25, U26, rfl, q0, q1, fun _ => rfl, fun _ => rfl, fun _ => rfl, q5, q6, q7, q8, q9, q10, q11, q12, p15, q15, p14, q14, sb⟩
    | 5, ho =>
      have ho' := Option.some.inj ho
      subst ho'
      obtain rfl : U16 = .int .u8 (bf l i : Nat) := q4 (hpre ⟨4, .data⟩ (by simp) rfl)
      refine opw_value (.int .u8 (bf l i / 16 : Nat)) (x8_quo _ _ _ _ rfl (bf l i) 16 rfl rfl (by omega) (bf_lt _ _) w1) ?_
      exact ⟨X4, U12, U13, U14, U15, _, _, U18, U19, U20, U21, U22, U23, U24, U25, U26, rfl, q0, q1, q2, q3, fun _ => rfl, fun _ => rfl, q6, q7, q8, q9, q10, q11, q12, p15, q15, p14, q14, sb⟩
    | 6, ho =>
      have ho' := Option.some.inj ho
      subst ho'
      obtain rfl : U13 = .string ⟨digL.toArray⟩ := q1 (hpre ⟨1, .data⟩ (by simp) rfl)
      obtain rfl : U17 = .int .u8 (bf l i / 16 : Nat) := q5 (hpre ⟨5, .data⟩ (by simp) rfl)
      refine opw_value (.int .u8 (bf digL (bf l i / 16) : Nat)) (x_index _ _ _ rfl Tryd.underlying9 digL rfl .u8 (bf l i / 16) rfl (by show _ < 16; have := bf_lt l i; omega) w1) ?_
      exact ⟨X4, U12, _, U14, U15, U16, _, _, U19, U20, U21, U22, U23, U24, U25, U26, rfl, q0, fun _ => rfl, q2, q3, q4, fun _ => rfl, fun _ => rfl, q7, q8, q9, q10, q11, q12, p15, q15, p14, q14, sb⟩
    | 7, ho =>
      have ho' := Option.some.inj ho
      subst ho'
      refine opw_value (.string ⟨digL.toArray⟩) (rfl) ?_
      exact ⟨X4, U12, U13, U14, U15, U16, U17, U18, _, U20, U21, U22, U23, U24, U25, U26, rfl, q0, q1, q2, q3, q4, q5, q6, fun _ => rfl, q8, q9, q10, q11, q12, p15, q15, p14, q14, sb⟩
    | 8, ho =>
      have ho' := Option.some.inj ho
      subst ho'
      refine opw_value (.string ⟨l.toArray⟩) (rfl) ?_
      exact ⟨X4, U12, U13, U14, U15, U16, U17, U18, U19, _, U21, U22, U23, U24, U25, U26, rfl, q0, q1, q2, q3, q4, q5, q6, q7, fun _ => rfl, q9, q10, q11, q12, p15, q15, p14, q14, sb⟩
    | 9, ho =>
      have ho' := Option.some.inj ho
      subst ho'
      refine opw_value (.int .i64 (i : Nat)) (rfl) ?_
      exact ⟨X4, U12, U13, U14, U15, U16, U17, U18, U19, U20, _, U22, U23, U24, U25, U26, rfl, q0, q1, q2, q3, q4, q5, q6, q7, q8, fun _ => rfl, q10, q11, q12, p15, q15, p14, q14, sb⟩
    | 10, ho =>
      have ho' := Option.some.inj ho
      subst ho'
      obtain rfl : U20 = .string ⟨l.toArray⟩ := q8 (hpre ⟨8, .data⟩ (by simp) rfl)
      obtain rfl : U21 = .int .i64 (i : Nat) := q9 (hpre ⟨9, .data⟩ (by simp) rfl)
      refine opw_value (.int .u8 (bf l i : Nat)) (x_index _ _ _ rfl Tryd.underlying9 l rfl .i64 i rfl hi w1) ?_
      exact ⟨X4, U12, U13, U14, U15, U16, U17, U18, U19, _, _, _, U23, U24, U25, U26, rfl, q0, q1, q2, q3, q4, q5, q6, q7, fun _ => rfl, fun _ => rfl, fun _ => rfl, q11, q12, p15, q15, p14, q14, sb⟩
    | 11, ho =>
      have ho' := Option.some.inj ho
      subst ho'
      obtain rfl : U22 = .int .u8 (bf l i : Nat) := q10 (hpre ⟨10, .data⟩ (by simp) rfl)
      refine opw_value (.int .u8 (bf l i % 16 : Nat)) (x8_rem _ _ _ _ rfl (bf l i) 16 rfl rfl (by omega) w1) ?_
      exact ⟨X4, U12, U13, U14, U15, U16, U17, U18, U19, U20, U21, _, _, U24, U25, U26, rfl, q0, q1, q2, q3, q4, q5, q6, q7, q8, q9, fun _ => rfl, fun _ => rfl, q12, p15, q15, p14, q14, sb⟩
    | 12, ho =>
      have ho' := Option.some.inj ho
      subst ho'
      obtain rfl : U19 = .string ⟨digL.toArray⟩ := q7 (hpre ⟨7, .data⟩ (by simp) rfl)
      obtain rfl : U23 = .int .u8 (bf l i % 16 : Nat) := q11 (hpre ⟨11, .data⟩ (by simp) rfl)
      refine opw_value (.int .u8 (bf digL (bf l i % 16) : Nat)) (x_index _ _ _ rfl Tryd.underlying9 digL rfl .u8 (bf l i % 16) rfl (by show _ < 16; omega) w1) ?_
      exact ⟨X4, U12, U13, U14, U15, U16, U17, U18, _, U20, U21, U22, _, _, U25, U26, rfl, q0, q1, q2, q3, q4, q5, q6, fun _ => rfl, q8, q9, q10, fun _ => rfl, fun _ => rfl, p15, q15, p14, q14, sb⟩
    | 13, ho =>
      have ho' := Option.some.inj ho
      subst ho'
      obtain rfl : U18 = .int .u8 (bf digL (bf l i / 16) : Nat) := q6 (hpre ⟨6, .data⟩ (by simp) rfl)
      obtain rfl : U24 = .int .u8 (bf digL (bf l i % 16) : Nat) := q12 (hpre ⟨12, .data⟩ (by simp) rfl)
      refine opw_lit2 _ _ rfl (bf digL (bf l i / 16)) (bf digL (bf l i % 16)) rfl rfl ?_
      have sb1 := sb.alloc (Nat.le_trans hbase sb.size) (.cells #[.int .u8 (bf digL (bf l i / 16) : Nat), .int .u8 (bf digL (bf l i % 16) : Nat)] 5)
      exact ⟨X4, U12, U13, U14, U15, U16, U17, _, U19, U20, U21, U22, U23, _, _, U26, rfl, q0, q1, q2, q3, q4, q5, fun _ => rfl, q7, q8, q9, q10, q11, fun _ => rfl, p15, q15, fun h => ⟨(p14 h).1.alloc _, fun _ => ⟨_, rfl, Row.new _ _ _⟩⟩, fun h => (q14 h).alloc _, sb1⟩
    | 14, ho =>
      have ho' := Option.some.inj ho
      subst ho'
      obtain rfl : v4 = U12 := (q0 (hpre ⟨0, .data⟩ (by simp) rfl)).symm
      obtain ⟨hown, h13⟩ := p14 hd
      obtain ⟨g, rfl, hR⟩ := h13 (hpre ⟨13, .data⟩ (by simp) rfl)
      have e15 : d 15 = false := by
        cases h : d 15 with
        | false => rfl
        | true => rw [(q15 h).2.1] at hd; cases hd
      have D0 := hpre ⟨0, .data⟩ (by simp) rfl
      refine opw_app _ _ rfl base v4 pre [digL.getD (bf l i / 16) 0, digL.getD (bf l i % 16) 0] rfl hown ⟨g, 0, none⟩ 2 2 rfl rfl (new_two hR) hlen (Nat.le_trans hbase sb.size) ?_
      intro v' w2 own2 gr
      exact ⟨X4, _, U13, U14, U15, U16, U17, U18, U19, U20, U21, U22, U23, U24, _, _, rfl, fun _ => rfl, q1, q2, q3, q4, q5, q6, q7, q8, q9, q10, q11, q12, p15, fun h => (by have h' : d 15 = true := h; rw [e15] at h'; cases h'), fun h => Bool.noConfusion (h : true = false), fun _ => own2, OB.grown sb hown gr (Nat.le_trans hbase sb.size) (Nat.le_refl _)⟩
    | 15, ho =>
      have ho' := Option.some.inj ho
      subst ho'
      have D14 := hpre ⟨14, .data⟩ (by simp) rfl
      have D0 := hpre ⟨0, .phase⟩ (by simp) rfl
      refine opw_value U26 rfl ?_
      exact ⟨_, U12, U13, U14, U15, U16, U17, U18, U19, U20, U21, U22, U23, U24, U25, U26, rfl, q0, q1, q2, q3, q4, q5, q6, q7, q8, q9, q10, q11, q12, fun h => Bool.noConfusion (h : true = false), fun _ => ⟨rfl, D14, D0⟩, p14, q14, sb⟩
    | k + 16, ho => cases ho
  case fin =>
    intro d a' w1 hI hall
    obtain ⟨X4, U12, U13, U14, U15, U16, U17, U18, U19, U20, U21, U22, U23, U24, U25, U26, rfl, q0, q1, q2, q3, q4, q5, q6, q7, q8, q9, q10, q11, q12, p15, q15, p14, q14, sb⟩ := hI
    obtain ⟨rfl, _, _⟩ := q15 (hall 15 (by decide))
    exact hend _ _ _ _ _ _ _ _ _ _ _ _ _ _ _ _ _ (q14 (hall 14 (by decide))) sb
set_option maxRecDepth 100000 in
set_option maxHeartbeats 2000000 in
theorem rhex_any (l : List UInt8) (w : World) (hl : l.length < 4294967296) :
    Calls Tryd.prog 12 #[.string ⟨l.toArray⟩] w fun e w' => e = .returned (.string ⟨(hexL l).toArray⟩) ∧ Below w.heap.size w w' := by
  have hsz : (⟨l.toArray⟩ : ByteArray).size = l.length := by simp [ByteArray.size]
  have HL : Hid (l.length < 4294967296) := hl
  clear hl
  go_enter Tryd.func12, Tryd.ntmps12
  go_wp2_with fail
  go_loopg [4, 5] l.length (fun g s4 s5 wr => ∃ i : Nat, i + g = l.length ∧ s5 = .int .i64 i ∧ OB wr w.heap.size s4 (hexL (l.take i)) ∧ Below w.heap.size w wr)
  case atStart => exact ⟨0, by omega, rfl, ob_nil _ _, Below.refl _ _⟩
  case round =>
    obtain ⟨i, hi, rfl, own, sb⟩ := hrel
    have hl := HL.out
    cases gk with
    | zero =>
      obtain rfl : i = l.length := by omega
      clear hi
      rw [List.take_length] at own
      (repeat ((fail_if_success (with_reducible show Code.wp _ (Code.region _ _ _) _ _ _)); go_step))
      refine wp_region_qp ?_
      refine qw_move (by rfl) rfl rfl ?_
      simp only [Act.put, pb, pc, pd]
      refine qw_move (by rfl) rfl rfl ?_
      simp only [Act.put, pb, pc, pd]
      refine qw_value (by rfl) (.int .i64 (l.length : Nat)) (fun w' => (x_lenS _ _ rfl ⟨l.toArray⟩ rfl Tryd.underlying9 w').trans (by rw [hsz])) ?_
      simp only [Act.put, pb, pc, pd]
      refine qw_value (by rfl) (.bool false) (x_lt _ _ _ _ rfl l.length l.length rfl rfl false (decide_eq_false (by omega))) ?_
      simp only [Act.put, pb, pc, pd]
      refine qw_nil ?_
      intro w5 hqb
      replace own := own.belowAll hqb
      replace sb := below_on sb (Nat.le_refl _) hqb
      clear hqb
      rcases own with ⟨rfl, h0⟩ | ⟨gd, capd, curd, frd, rfl, hgd, hrow, hncd, hcmd, hcsd, hcelld, _⟩
      · (repeat ((fail_if_success (with_reducible show Code.wp _ (Code.region _ _ _) _ _ _)); go_step))
        refine wp_region_qp ?_
        refine qw_move (by rfl) rfl rfl ?_
        simp only [Act.put, pb, pc, pd]
        refine qw_value (by rfl) (.string ⟨#[]⟩) (x_strNil _ rfl rfl) ?_
        simp only [Act.put, pb, pc, pd]
        refine qw_asg (by rfl) rfl rfl ?_
        simp only [Act.put, pb, pc, pd]
        refine qw_nil ?_
        intro w6 hqb
        replace sb := below_on sb (Nat.le_refl _) hqb
        clear hqb
        go_wp2
        go_ret
        exact ⟨by rw [h0]; rfl, sb⟩
      have rD : RowR w5 gd curd 5 := ⟨frd, hrow⟩
      (repeat ((fail_if_success (with_reducible show Code.wp _ (Code.region _ _ _) _ _ _)); go_step))
      apply wp_region_mixp [] [_, _, _] trivial List.nodup_nil
      · intro p
        refine mx_move rfl rfl ?_
        simp only [Act.put, pb, pc, pd]
        refine mx_value (.string ⟨(hexL l).toArray⟩) [] (fun w' hkw _ => x_str _ rfl gd 0 capd (hexL l).length (hexL l) rfl rfl w' (hkw.rowR rD (by simp)) (fun j hj => by rw [Nat.zero_add]; exact hcelld j hj)) ?_
        simp only [Act.put, pb, pc, pd]
        refine mx_asg rfl rfl ?_
        simp only [Act.put, pb, pc, pd]
        refine mx_end ?_
        intro w8 hkw hrw hnew hdis
        replace sb := sb.trans (hkw.below w.heap.size sb.size (by simp <;> omega))
        clear hkw hrw hnew hdis
        go_wp2
        go_ret
        exact ⟨rfl, sb⟩
      · rfl
    | succ g =>
      have hil : i < l.length := by omega
      have hpl : (hexL (l.take i)).length + 2 ≤ 140737488355328 := by rw [hexL_length, List.length_take]; omega
      (repeat ((fail_if_success (with_reducible show Code.wp _ (Code.region _ _ _) _ _ _)); go_step))
      refine wp_region_qp ?_
      refine qw_move (by rfl) rfl rfl ?_
      simp only [Act.put, pb, pc, pd]
      refine qw_move (by rfl) rfl rfl ?_
      simp only [Act.put, pb, pc, pd]
      refine qw_value (by rfl) (.int .i64 (l.length : Nat)) (fun w' => (x_lenS _ _ rfl ⟨l.toArray⟩ rfl Tryd.underlying9 w').trans (by rw [hsz])) ?_
      simp only [Act.put, pb, pc, pd]
      refine qw_value (by rfl) (.bool true) (x_lt _ _ _ _ rfl i l.length rfl rfl true (decide_eq_true (by omega))) ?_
      simp only [Act.put, pb, pc, pd]
      refine qw_nil ?_
      intro w5 hqb
      replace own := own.belowAll hqb
      replace sb := below_on sb (Nat.le_refl _) hqb
      clear hqb
      (repeat ((fail_if_success (with_reducible show Code.wp _ (Code.region _ _ _) _ _ _)); go_step))
      refine rhex_region l (hexL (l.take i)) i w.heap.size _ _ _ _ _ _ _ _ _ _ _ _ _ _ _ _ _ _ _ w w5 _ hil hpl own (Nat.le_refl _) sb ?_
      intro v x12 x13 x14 x15 x16 x17 x18 x19 x20 x21 x22 x23 x24 x25 x26 w6 own6 sb6
      rw [show hexL (l.take i) ++ [digL.getD (bf l i / 16) 0, digL.getD (bf l i % 16) 0] = hexL (l.take (i + 1)) by rw [hexL_take l i hil, List.append_assoc]; rfl] at own6
      (repeat ((fail_if_success (with_reducible show Code.wp _ (Code.region _ _ _) _ _ _)); go_step))
      refine wp_region_qp ?_
      refine qw_move (by rfl) rfl rfl ?_
      simp only [Act.put, pb, pc, pd]
      refine qw_value (by rfl) (.int .i64 (i + 1 : Nat)) (xi_add _ _ _ _ rfl i 1 rfl rfl (by omega)) ?_
      simp only [Act.put, pb, pc, pd]
      refine qw_asg (by rfl) rfl rfl ?_
      simp only [Act.put, pb, pc, pd]
      refine qw_nil ?_
      intro w7 hqb
      replace own6 := own6.belowAll hqb
      replace sb6 := below_on sb6 (Nat.le_refl _) hqb
      clear hqb
      clear hsz hil hpl
      go_wp2
      go_roundg g
      case measure => omega
      case rel => exact ⟨i + 1, by omega, rfl, own6, sb6⟩
end Go.Proofs.YtiihgomjgdmabaaDoor
