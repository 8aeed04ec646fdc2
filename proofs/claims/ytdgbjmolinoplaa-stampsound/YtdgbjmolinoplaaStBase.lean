/- Blocks of older texts and small laws that layer 20 needs: stamps, ints in memory, counts. -/
import Derived.Test.YtdgbjmolinoplaaWgBase
namespace Go.Proofs.Ytdgbjmolinoplaa
open Go.RowKit
set_option linter.unusedVariables false
set_option linter.unusedSectionVars false
set_option linter.unusedSimpArgs false
/-- Which stands ahead: -1, 0, 1. -/
def cpz (x y : Int) : Int := if x < y then -1 else if x > y then 1 else 0
theorem wrap_sm (z : Int) (h1 : -9223372036854775808 ≤ z) (h2 : z < 9223372036854775808) : IntKind.i64.wrap z = z := by
 rw [IntKind.wrap_i64]; omega
section
variable {P : Program} {o : Oper} {ρ : Operand → Value}
theorem x_neg (t : TypeId) (x : Operand) (ho : o.op = .unOp .neg t x) (n r : Int) (hx : ρ x = .int .i64 n) (hr : IntKind.i64.wrap (-n) = r) (w : World) :
  (execOp ρ o).run P w = .ok (.value (.int .i64 r)) w := by
 subst hr
 unfold execOp
 simp only [ho, hx]
 simp [go_sem]
theorem exec_not (t : TypeId) (x : Operand) (ho : o.op = .unOp .not t x) (b : Bool) (hx : ρ x = .bool b) (w : World) : (execOp ρ o).run P w = .ok (.value (.bool (!b))) w := by
 unfold execOp
 simp only [ho, hx]
 simp [go_sem]
theorem x_andz (t : TypeId) (x y : Operand) (u : TypeId) (ho : o.op = .binOp .and t x y u) (n m : Int) (hx : ρ x = .int .i64 n) (hy : ρ y = .int .i64 m) (w : World) :
  (execOp ρ o).run P w = .ok (.value (.int .i64 (bits .and .i64 n m))) w := by
 unfold execOp
 simp only [ho, hx, hy]
 simp [go_sem]
theorem x_max2 (t u : TypeId) (x y : Operand) (ho : o.op = .call { callee := .builtin .max, args := #[x, y], argTypes := #[t, u] }) (n m : Int) (hx : ρ x = .int .i64 n) (hy : ρ y = .int .i64 m) (w : World) :
  (execOp ρ o).run P w = .ok (.value (.int .i64 (max n m))) w := by
 unfold execOp
 simp only [ho]
 simp only [resolve, invoke, Sem.run_bind, Sem.run_pure, Result.andThen_ok, List.map_toArray, List.map_cons, List.map_nil, hx, hy]
 simp [builtin, run_max_int2]
 split <;> omega
theorem x_addz (t : TypeId) (x y : Operand) (u : TypeId) (ho : o.op = .binOp .add t x y u) (n m r : Int) (hx : ρ x = .int .i64 n) (hy : ρ y = .int .i64 m) (hr : n + m = r) (h1 : -9223372036854775808 ≤ r) (h2 : r < 9223372036854775808) (w : World) :
  (execOp ρ o).run P w = .ok (.value (.int .i64 r)) w := by
 subst hr
 unfold execOp
 simp only [ho, hx, hy]
 simp [go_sem]
 exact wrap_sm _ h1 h2
theorem x_mulz (t : TypeId) (x y : Operand) (u : TypeId) (ho : o.op = .binOp .mul t x y u) (n m r : Int) (hx : ρ x = .int .i64 n) (hy : ρ y = .int .i64 m) (hr : n * m = r) (h1 : -9223372036854775808 ≤ r) (h2 : r < 9223372036854775808) (w : World) :
  (execOp ρ o).run P w = .ok (.value (.int .i64 r)) w := by
 subst hr
 unfold execOp
 simp only [ho, hx, hy]
 simp [go_sem]
 exact wrap_sm _ h1 h2
end
/-- The cells of a stamp. -/
def tsC (sq cl : Int) : Array Value := #[.int .i64 sq, .int .i64 cl]
theorem info_st : (Try.prog.info? 23).map (fun i => (i.zero, i.size)) = some (some (.agg (tsC 0 0)), 2) := by kernel_rfl
theorem zero_st (w : World) : (zeroValue 23).run Try.prog w = .ok (.agg (tsC 0 0)) w := (zero_of_info info_st).1 w
theorem size_st : (Try.prog.info? 23).map (·.size) = some 2 := (zero_of_info info_st).2
theorem st_one (x y : Int) : (tsC x y).all (·.oneCell') = true := by simp [tsC, Value.oneCell']
theorem built_st0 : Try.prog.built 23 [] = some (tsC 0 0) := by kernel_rfl
theorem part_st0 (x y : Int) (w : World) : (part 3 (tsC x y) 0).run Try.prog w = .ok (.int .i64 x) w := by unfold tsC; kernel_rfl
theorem part_st1 (x y : Int) (w : World) : (part 3 (tsC x y) 1).run Try.prog w = .ok (.int .i64 y) w := by unfold tsC; kernel_rfl
theorem equal_st (x y x' y' : Int) (w : World) : (Op.equalIn 10000 23 (.agg (tsC x y)) (.agg (tsC x' y'))).run Try.prog w = .ok (decide (x = x' ∧ y = y')) w := by
 rw [run_equalIn_struct w 9999 _ _ _ (by kernel_rfl) (by kernel_rfl)]
 simp only [Program.fieldsOf, Try.underlying23, Op.eqFields]
 by_cases h1 : x = x' <;> by_cases h2 : y = y' <;>
  simp [Sem.run_bind, part_st0, part_st1, run_equalIn_int _ _ _ _ _ _ _ Try.underlying3, h1, h2]
theorem exec_eql_st {o : Oper} {ρ : Operand → Value} (p q : Operand) (u : TypeId) (ho : o.op = .binOp .eql 23 p q u) (x y x' y' : Int) (hx : ρ p = .agg (tsC x y)) (hy : ρ q = .agg (tsC x' y')) (c : Bool) (hb : decide (x = x' ∧ y = y') = c) (w : World) :
  (execOp ρ o).run Try.prog w = .ok (.value (.bool c)) w := by
 unfold execOp
 simp only [ho, hx, hy]
 simp [run_eqGuard_agg _ _ _ _ _ _ _ (show Try.prog.eqGuardType Try.prog.depth 23 = false by kernel_rfl), run_eql_struct, equal_st]
 simpa using hb
def stB (sq cl : Int) : Bool := decide (1 ≤ sq ∧ sq ≤ 1099511627776 ∧ 1 ≤ cl ∧ cl ≤ 4)
theorem built_st (x y : Int) : Try.prog.built 23 [(0, .int .i64 x), (1, .int .i64 y)] = some (tsC x y) := by unfold tsC; kernel_rfl
theorem part_all (c : Array Value) : ∀ j v, c.toList[j]? = some v → c[0 + j]? = some v := fun j v h => by rw [Nat.zero_add, ← Array.getElem?_toList]; exact h
/-- Ints, whatever they are. -/
structure ZsAt (w : World) (ab : Option Addr) (n : Nat) (Z : Nat → Int) (gb ob : Nat) (bcs : Array Value) (tb : TypeId) : Prop where
 at' : n = 0 ∨ (ab = some ⟨gb, ob, none⟩ ∧ RowR w gb bcs tb ∧ ∀ i, i < n → bcs[ob + i * 1]? = some (.int .i64 (Z i)))
theorem ZsAt.below {w w2 : World} {ab : Option Addr} {n : Nat} {Z : Nat → Int} {gb ob : Nat} {bcs : Array Value} {tb : TypeId} (h : ZsAt w ab n Z gb ob bcs tb) (hb : Below w.heap.size w w2) : ZsAt w2 ab n Z gb ob bcs tb :=
 ⟨h.at'.imp id fun ⟨h1, h2, h3⟩ => ⟨h1, h2.belowAll hb, h3⟩⟩
theorem ZsAt.congr {w : World} {ab : Option Addr} {n : Nat} {Z Z' : Nat → Int} {gb ob : Nat} {bcs : Array Value} {tb : TypeId} (h : ZsAt w ab n Z gb ob bcs tb) (he : ∀ i, i < n → Z i = Z' i) : ZsAt w ab n Z' gb ob bcs tb :=
 ⟨h.at'.imp id fun ⟨h1, h2, h3⟩ => ⟨h1, h2, fun i hi => by rw [← he i hi]; exact h3 i hi⟩⟩
theorem size1tint : (Try.prog.info? 3).map (·.size) = some 1 := by kernel_rfl
theorem z_int (w : World) : (zeroValue 3).run Try.prog w = .ok (.int .i64 0) w := by kernel_rfl
section
variable {P : Program} {ops : Array Oper} {Q : Exit → Act → World → Prop} {rest : List Oper} {o : Oper} {a : Act} {w : World}
/-- A variable of one cell. -/
theorem pw_newv (hw : Region.wanted o (yielded ops a.tmps) = true) (t : TypeId) (ho : o.op = .alloc t) (v : Value) (hz : ∀ w, (zeroValue t).run P w = .ok v w) (hv : v.cells = #[v])
  (h : ∀ g w', w.heap.size ≤ g → Row w' g #[v] t → Kept [] w w' → PW P ops Q rest (a.put o.dst (.pointer (some ⟨g, 0, none⟩))) w') : PW P ops Q (o :: rest) a w :=
 pw_made hw (fun g => .pointer (some ⟨g, 0, none⟩)) t #[v] (by unfold execOp; simp only [ho, Instr.alloc, Sem.run_bind, hz, Result.andThen_ok, newVar, hv, newRow]; rfl) h
end
theorem ret_rowE {P : Program} {fn : Func} {R : Ending → World → Prop} {a : Act} {w : World} {p u : Tmp} {ty : TypeId} (hf : fn.results = #[.cell p ty, .tmp u]) (g : Nat) (hp : a.tmps.getD p undef = .pointer (some ⟨g, 0, none⟩))
  {t : TypeId} {cs : Array Value} (hr : Row w g cs t) (fs : Array Field) (hu : P.underlying ty = some (.struct fs)) (hi : (P.info? ty).map (·.size) = some cs.size) (hd : a.defers = [])
  (v : Value) (hv : a.tmps.getD u undef = v) (h : R (.returned (.tuple #[.agg cs, v])) w) : bodyPost P fn R .ret a w := by
 refine bodyPost_ret (v := .tuple #[.agg cs, v]) ?_ hd h
 rw [results_cell_tmp hf, hp, hv]
 simp only [asAddr, Sem.run_pure, Result.andThen_ok]
 rw [run_loadVar_row w g t ty cs (0, 0) _ hr hu rfl hi]
 rfl
theorem lit_z2 (a b : Int) (k : Nat) (hk : k = 1) : Instr.fill (fun i => some (i * k, k)) ((Array.range (2 * k)).map ((Value.int .i64 0).cells[· % (Value.int .i64 0).cells.size]!)) [(0, .int .i64 a), (1, .int .i64 b)] = some #[.int .i64 a, .int .i64 b] := by
 subst hk
 kernel_rfl
theorem lit_z4 (a b c d : Int) (k : Nat) (hk : k = 1) : Instr.fill (fun i => some (i * k, k)) ((Array.range (4 * k)).map ((Value.int .i64 0).cells[· % (Value.int .i64 0).cells.size]!)) [(0, .int .i64 a), (1, .int .i64 b), (2, .int .i64 c), (3, .int .i64 d)] = some #[.int .i64 a, .int .i64 b, .int .i64 c, .int .i64 d] := by
 subst hk
 kernel_rfl
/-- Ints, one cell each. -/
def zC (n : Nat) (Z : Nat → Int) : Array Value := vsC n (fun i => .int .i64 (Z i))
theorem zs_row {w : World} {g n : Nat} {Z : Nat → Int} {t : TypeId} (h : Row w g (zC n Z) t) : ZsAt w (some ⟨g, 0, none⟩) n Z g 0 (zC n Z) t :=
 ⟨.inr ⟨rfl, h.r, fun i hi => by rw [Nat.zero_add, Nat.mul_one]; exact vsC_get _ hi⟩⟩
theorem zs_rowR {w : World} {g n : Nat} {Z : Nat → Int} {t : TypeId} {cs : Array Value} (h : Row w g cs t) (hc : ∀ i, i < n → cs[i]? = some (.int .i64 (Z i))) : ZsAt w (some ⟨g, 0, none⟩) n Z g 0 cs t :=
 ⟨.inr ⟨rfl, h.r, fun i hi => by rw [Nat.zero_add, Nat.mul_one]; exact hc i hi⟩⟩
def z4 (a b c d : Int) (i : Nat) : Int := if i = 0 then a else if i = 1 then b else if i = 2 then c else d
theorem z4_c (a b c d : Int) : ∀ i, i < 4 → (#[.int .i64 a, .int .i64 b, .int .i64 c, .int .i64 d] : Array Value)[i]? = some (.int .i64 (z4 a b c d i)) := by
 intro i hi
 match i, hi with
 | 0, _ => rfl
 | 1, _ => rfl
 | 2, _ => rfl
 | 3, _ => rfl
/-- How many of some ints that are not below 0 are such. -/
def ct (p : Int → Bool) (Z : Nat → Int) : Nat → Nat
 | 0 => 0
 | k + 1 => if (decide (0 ≤ Z k) && p (Z k)) = true then ct p Z k + 1 else ct p Z k
theorem ct_yes {p : Int → Bool} {Z : Nat → Int} {k : Nat} (h : 0 ≤ Z k) (hp : p (Z k) = true) : ct p Z (k + 1) = ct p Z k + 1 := by
 show (if (decide (0 ≤ Z k) && p (Z k)) = true then _ else _) = _
 rw [decide_eq_true h, hp]
 rfl
theorem ct_no {p : Int → Bool} {Z : Nat → Int} {k : Nat} (hp : p (Z k) = false) : ct p Z (k + 1) = ct p Z k := by
 show (if (decide (0 ≤ Z k) && p (Z k)) = true then _ else _) = _
 rw [hp, Bool.and_false]
 rfl
theorem ct_neg {p : Int → Bool} {Z : Nat → Int} {k : Nat} (h : ¬ 0 ≤ Z k) : ct p Z (k + 1) = ct p Z k := by
 show (if (decide (0 ≤ Z k) && p (Z k)) = true then _ else _) = _
 rw [decide_eq_false h]
 rfl
theorem ct_le (p : Int → Bool) (Z : Nat → Int) : ∀ n, ct p Z n ≤ n
 | 0 => Nat.le_refl _
 | n + 1 => by
  have := ct_le p Z n
  unfold ct
  split <;> omega
def upZ (v : Int) (z : Int) : Bool := decide (v ≤ z)
def dnZ (v : Int) (z : Int) : Bool := decide (z ≤ v)
/-- The greatest number that so many reach, of the first k. -/
def gre (Z : Nat → Int) (n : Nat) (t : Int) : Nat → Int
 | 0 => -1
 | k + 1 => if gre Z n t k < Z k ∧ t + 1 ≤ (ct (upZ (Z k)) Z n : Nat) then Z k else gre Z n t k
theorem gre_ge (Z : Nat → Int) (n : Nat) (t : Int) : ∀ k, -1 ≤ gre Z n t k
 | 0 => Int.le_refl _
 | k + 1 => by
  have := gre_ge Z n t k
  unfold gre
  split <;> omega
theorem gre_is (Z : Nat → Int) (n : Nat) (t : Int) : ∀ k, gre Z n t k = -1 ∨ ∃ j, j < k ∧ gre Z n t k = Z j ∧ t + 1 ≤ (ct (upZ (Z j)) Z n : Nat)
 | 0 => .inl rfl
 | k + 1 => by
  by_cases h : gre Z n t k < Z k ∧ t + 1 ≤ (ct (upZ (Z k)) Z n : Nat)
  ·rw [show gre Z n t (k + 1) = Z k from if_pos h]
   exact .inr ⟨k, Nat.lt_succ_self k, rfl, h.2⟩
  ·rw [show gre Z n t (k + 1) = gre Z n t k from if_neg h]
   exact (gre_is Z n t k).imp id fun ⟨j, h1, h2, h3⟩ => ⟨j, by omega, h2, h3⟩
/-- What the document's loop makes of the greatest. -/
theorem gre_max (Z : Nat → Int) (n : Nat) (t : Int) (k : Nat) : gre Z n t (k + 1) = if (decide (0 ≤ Z k) && decide (t + 1 ≤ (ct (upZ (Z k)) Z n : Nat))) = true then max (gre Z n t k) (Z k) else gre Z n t k := by
 have := gre_ge Z n t k
 show (if gre Z n t k < Z k ∧ t + 1 ≤ (ct (upZ (Z k)) Z n : Nat) then _ else _) = _
 by_cases h1 : gre Z n t k < Z k
 ·by_cases h2 : t + 1 ≤ (ct (upZ (Z k)) Z n : Nat)
  ·rw [if_pos ⟨h1, h2⟩, if_pos (by rw [decide_eq_true (show 0 ≤ Z k by omega), decide_eq_true h2]; rfl)]
   omega
  ·rw [if_neg (fun h => h2 h.2), if_neg (by rw [decide_eq_false h2, Bool.and_false]; exact Bool.false_ne_true)]
 ·rw [if_neg (fun h => h1 h.1)]
  split
  ·omega
  ·rfl
/-- The number for which enough vouch. -/
def voOK (t : Int) (n : Nat) : Bool := decide (1 ≤ t ∧ t ≤ 2 ∧ (n : Int) = 3 * t + 1)
def voB (t : Int) (n : Nat) (Z : Nat → Int) : Bool := voOK t n && decide (2 * t + 1 ≤ (ct (dnZ (gre Z n t n)) Z n : Nat))
def voV (t : Int) (n : Nat) (Z : Nat → Int) : Int := if voB t n Z = true then gre Z n t n else 0
theorem ct_dn0 (Z : Nat → Int) : ∀ n, ct (dnZ (-1)) Z n = 0
 | 0 => rfl
 | n + 1 => by
  by_cases h : 0 ≤ Z n
  ·rw [ct_no (decide_eq_false (by omega))]; exact ct_dn0 Z n
  ·rw [ct_neg h]; exact ct_dn0 Z n
theorem vo_ge {t : Int} {n : Nat} {Z : Nat → Int} (h : voB t n Z = true) : 1 ≤ t ∧ t ≤ 2 ∧ (n : Int) = 3 * t + 1 ∧ 2 * t + 1 ≤ (ct (dnZ (gre Z n t n)) Z n : Nat) ∧ 0 ≤ gre Z n t n ∧ ∃ j, j < n ∧ gre Z n t n = Z j ∧ t + 1 ≤ (ct (upZ (Z j)) Z n : Nat) := by
 unfold voB voOK at h
 rw [Bool.and_eq_true, decide_eq_true_iff, decide_eq_true_iff] at h
 obtain ⟨⟨h1, h2, h3⟩, h4⟩ := h
 refine ⟨h1, h2, h3, h4, ?_⟩
 have hg := gre_ge Z n t n
 rcases gre_is Z n t n with h5 | h5
 ·rw [h5, ct_dn0] at h4
  omega
 ·obtain ⟨j, h6, h7, h8⟩ := h5
  refine ⟨?_, j, h6, h7, h8⟩
  by_cases h9 : gre Z n t n = -1
  ·rw [h9, ct_dn0] at h4
   omega
  ·omega
/-- The first that is not 0 of so many ints. -/
def orF (Z : Nat → Int) : Nat → Nat → Int
 | _, 0 => 0
 | i, m + 1 => if Z i = 0 then orF Z (i + 1) m else Z i
def z2 (a b : Int) (i : Nat) : Int := if i = 0 then a else b
def orI (x y : Int) : Int := if x = 0 then y else x
theorem orF2 (x y : Int) : orF (z2 x y) 0 2 = orI x y := by
 show (if x = 0 then (if y = 0 then 0 else y) else x) = if x = 0 then y else x
 split
 ·split <;> omega
 ·rfl
theorem z2_c (a b : Int) : ∀ i, i < 2 → (#[.int .i64 a, .int .i64 b] : Array Value)[i]? = some (.int .i64 (z2 a b i)) := by
 intro i hi
 match i, hi with
 | 0, _ => rfl
 | 1, _ => rfl
/-- Which of two stamps is later. -/
def cpS (a b c d : Int) : Int := orI (cpz a c) (cpz b d)
def clB (c : Int) : Bool := decide (1 ≤ c ∧ c ≤ 4)
/-- The stamp behind a number. -/
def nxE (n c : Int) : Int := if n < 0 ∨ clB c = false then 1 else if 1099511627776 ≤ n then 2 else 0
def nxS (n c : Int) : Int := if nxE n c = 0 then n + 1 else 0
def nxC (n c : Int) : Int := if nxE n c = 0 then c else 0
end Go.Proofs.Ytdgbjmolinoplaa
