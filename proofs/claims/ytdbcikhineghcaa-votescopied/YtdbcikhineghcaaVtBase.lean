/- Types and small laws of layer 21: votes in memory. -/
import Derived.Test.YtdbcikhineghcaaFrClone
import Derived.Test.YtdbcikhineghcaaWgBase
import Derived.Test.YtdbcikhineghcaaVtMath
namespace Go.Proofs.Ytdbcikhineghcaa
open Go.RowKit
set_option linter.unusedVariables false
set_option linter.unusedSectionVars false
set_option linter.unusedSimpArgs false
/-- The cells of a stamp. -/
def tsC (sq cl : Int) : Array Value := #[.int .i64 sq, .int .i64 cl]
theorem info_st : (Try.prog.info? 32).map (fun i => (i.zero, i.size)) = some (some (.agg (tsC 0 0)), 2) := by kernel_rfl
theorem zero_st (w : World) : (zeroValue 32).run Try.prog w = .ok (.agg (tsC 0 0)) w := (zero_of_info info_st).1 w
theorem size_st : (Try.prog.info? 32).map (·.size) = some 2 := (zero_of_info info_st).2
theorem st_one (x y : Int) : (tsC x y).all (·.oneCell') = true := by simp [tsC, Value.oneCell']
theorem built_st0 : Try.prog.built 32 [] = some (tsC 0 0) := by kernel_rfl
theorem part_st0 (x y : Int) (w : World) : (part 3 (tsC x y) 0).run Try.prog w = .ok (.int .i64 x) w := by unfold tsC; kernel_rfl
theorem part_st1 (x y : Int) (w : World) : (part 3 (tsC x y) 1).run Try.prog w = .ok (.int .i64 y) w := by unfold tsC; kernel_rfl
theorem equal_st (x y x' y' : Int) (w : World) : (Op.equalIn 10000 32 (.agg (tsC x y)) (.agg (tsC x' y'))).run Try.prog w = .ok (decide (x = x' ∧ y = y')) w := by
 rw [run_equalIn_struct w 9999 _ _ _ (by kernel_rfl) (by kernel_rfl)]
 simp only [Program.fieldsOf, Try.underlying32, Op.eqFields]
 by_cases h1 : x = x' <;> by_cases h2 : y = y' <;>
  simp [Sem.run_bind, part_st0, part_st1, run_equalIn_int _ _ _ _ _ _ _ Try.underlying3, h1, h2]
theorem exec_eql_st {o : Oper} {ρ : Operand → Value} (p q : Operand) (u : TypeId) (ho : o.op = .binOp .eql 32 p q u) (x y x' y' : Int) (hx : ρ p = .agg (tsC x y)) (hy : ρ q = .agg (tsC x' y')) (c : Bool) (hb : decide (x = x' ∧ y = y') = c) (w : World) :
  (execOp ρ o).run Try.prog w = .ok (.value (.bool c)) w := by
 unfold execOp
 simp only [ho, hx, hy]
 simp [run_eqGuard_agg _ _ _ _ _ _ _ (show Try.prog.eqGuardType Try.prog.depth 32 = false by kernel_rfl), run_eql_struct, equal_st]
 simpa using hb
theorem built_st (x y : Int) : Try.prog.built 32 [(0, .int .i64 x), (1, .int .i64 y)] = some (tsC x y) := by unfold tsC; kernel_rfl
theorem part_all (c : Array Value) : ∀ j v, c.toList[j]? = some v → c[0 + j]? = some v := fun j v h => by rw [Nat.zero_add, ← Array.getElem?_toList]; exact h
theorem ret_rowE {P : Program} {fn : Func} {R : Ending → World → Prop} {a : Act} {w : World} {p u : Tmp} {ty : TypeId} (hf : fn.results = #[.cell p ty, .tmp u]) (g : Nat) (hp : a.tmps.getD p undef = .pointer (some ⟨g, 0, none⟩))
  {t : TypeId} {cs : Array Value} (hr : Row w g cs t) (fs : Array Field) (hu : P.underlying ty = some (.struct fs)) (hi : (P.info? ty).map (·.size) = some cs.size) (hd : a.defers = [])
  (v : Value) (hv : a.tmps.getD u undef = v) (h : R (.returned (.tuple #[.agg cs, v])) w) : bodyPost P fn R .ret a w := by
 refine bodyPost_ret (v := .tuple #[.agg cs, v]) ?_ hd h
 rw [results_cell_tmp hf, hp, hv]
 simp only [asAddr, Sem.run_pure, Result.andThen_ok]
 rw [run_loadVar_row w g t ty cs (0, 0) _ hr hu rfl hi]
 rfl
section
variable {P : Program} {ops : Array Oper} {Q : Exit → Act → World → Prop} {rest : List Oper} {o : Oper} {a : Act} {w : World}
/-- A variable of one cell. -/
theorem pw_newv (hw : Region.wanted o (yielded ops a.tmps) = true) (t : TypeId) (ho : o.op = .alloc t) (v : Value) (hz : ∀ w, (zeroValue t).run P w = .ok v w) (hv : v.cells = #[v])
  (h : ∀ g w', w.heap.size ≤ g → Row w' g #[v] t → Kept [] w w' → PW P ops Q rest (a.put o.dst (.pointer (some ⟨g, 0, none⟩))) w') : PW P ops Q (o :: rest) a w :=
 pw_made hw (fun g => .pointer (some ⟨g, 0, none⟩)) t #[v] (by unfold execOp; simp only [ho, Instr.alloc, Sem.run_bind, hz, Result.andThen_ok, newVar, hv, newRow]; rfl) h
end
theorem z_int (w : World) : (zeroValue 3).run Try.prog w = .ok (.int .i64 0) w := by kernel_rfl
theorem exec_neq_nilp {P : Program} {o : Oper} {ρ : Operand → Value} (t : TypeId) (x y : Operand) (u : TypeId) (ho : o.op = .binOp .neq t x y u) (q : Option Addr) (hx : ρ x = .pointer q) (hy : ρ y = .pointer none) (ht : P.underlying t = some (.pointer (P.pointee t))) (w : World) :
  (execOp ρ o).run P w = .ok (.value (.bool (!q.isNone))) w := by
 unfold execOp
 simp only [ho, hx, hy]
 simp [eqGuard, run_neq_pointer_nil w t q ht]
theorem exec_eql_nilp {P : Program} {o : Oper} {ρ : Operand → Value} (t : TypeId) (x y : Operand) (u : TypeId) (ho : o.op = .binOp .eql t x y u) (q : Option Addr) (hx : ρ x = .pointer q) (hy : ρ y = .pointer none) (ht : P.underlying t = some (.pointer (P.pointee t))) (w : World) :
  (execOp ρ o).run P w = .ok (.value (.bool q.isNone)) w := by
 unfold execOp
 simp only [ho, hx, hy]
 simp [eqGuard, run_eql_pointer_nil w t q ht]
theorem wrap_sm (z : Int) (h1 : -9223372036854775808 ≤ z) (h2 : z < 9223372036854775808) : IntKind.i64.wrap z = z := by
 rw [IntKind.wrap_i64]; omega
theorem own_low {w : World} {base : Nat} {e : TypeId} {k : Nat} {v : Value} {n : Nat} {xs : List Value} (h : w.ownsRow base e k v n xs) {g : Nat} (hg : g < base) : v.ownBlock ≠ some g := fun e => by
 have := (h.lt g e).1
 omega
theorem exec_neq_st {o : Oper} {ρ : Operand → Value} (p q : Operand) (u : TypeId) (ho : o.op = .binOp .neq 32 p q u) (x y x' y' : Int) (hx : ρ p = .agg (tsC x y)) (hy : ρ q = .agg (tsC x' y')) (c : Bool) (hb : (!decide (x = x' ∧ y = y')) = c) (w : World) :
  (execOp ρ o).run Try.prog w = .ok (.value (.bool c)) w := by
 unfold execOp
 simp only [ho, hx, hy]
 simp [run_eqGuard_agg _ _ _ _ _ _ _ (show Try.prog.eqGuardType Try.prog.depth 32 = false by kernel_rfl), run_neq_struct, equal_st]
 simpa using hb
/-- A vote's cells. -/
def voA (x : Vt) : Array Value := #[.int .i64 x.1, .int .i64 x.2.1, .string ⟨x.2.2.toArray⟩]
theorem voA_size (x : Vt) : (voA x).size = 3 := rfl
theorem info_vo : (Try.prog.info? 46).map (fun i => (i.zero, i.size)) = some (some (.agg (voA vt0)), 3) := by kernel_rfl
theorem zero_vo (w : World) : (zeroValue 46).run Try.prog w = .ok (.agg (voA vt0)) w := (zero_of_info info_vo).1 w
theorem size_vo : (Try.prog.info? 46).map (·.size) = some 3 := (zero_of_info info_vo).2
theorem vo_one (x : Vt) : (voA x).all (·.oneCell') = true := by simp [voA, Value.oneCell']
theorem built_vo (s c : Int) (d : List UInt8) : Try.prog.built 46 [(0, .agg (tsC s c)), (1, .string ⟨d.toArray⟩)] = some (voA (s, c, d)) := by kernel_rfl
theorem part_vo0 (x : Vt) (w : World) : (part 32 (voA x) 0).run Try.prog w = .ok (.agg (tsC x.1 x.2.1)) w := by unfold voA; kernel_rfl
theorem part_vo1 (x : Vt) (w : World) : (part 9 (voA x) 2).run Try.prog w = .ok (.string ⟨x.2.2.toArray⟩) w := by unfold voA; kernel_rfl
theorem equal_st9 (x y x' y' : Int) (w : World) : (Op.equalIn 9999 32 (.agg (tsC x y)) (.agg (tsC x' y'))).run Try.prog w = .ok (decide (x = x' ∧ y = y')) w := by
 rw [run_equalIn_struct w 9998 _ _ _ (by kernel_rfl) (by kernel_rfl)]
 simp only [Program.fieldsOf, Try.underlying32, Op.eqFields]
 by_cases h1 : x = x' <;> by_cases h2 : y = y' <;>
  simp [Sem.run_bind, part_st0, part_st1, run_equalIn_int _ _ _ _ _ _ _ Try.underlying3, h1, h2]
theorem equal_vo (x y : Vt) (w : World) : (Op.equalIn 10000 46 (.agg (voA x)) (.agg (voA y))).run Try.prog w = .ok (decide (x = y)) w := by
 obtain ⟨s, c, d⟩ := x
 obtain ⟨s', c', d'⟩ := y
 rw [run_equalIn_struct w 9999 _ _ _ (by kernel_rfl) (by kernel_rfl)]
 simp only [Program.fieldsOf, Try.underlying46, Op.eqFields]
 by_cases h1 : s = s' <;> by_cases h2 : c = c' <;> by_cases h3 : d = d' <;>
  simp [Sem.run_bind, part_vo0, part_vo1, equal_st9, run_equalIn_string _ _ _ _ _ Try.underlying9, h1, h2, h3]
theorem exec_eql_vo {o : Oper} {ρ : Operand → Value} (p q : Operand) (u : TypeId) (ho : o.op = .binOp .eql 46 p q u) (x y : Vt) (hx : ρ p = .agg (voA x)) (hy : ρ q = .agg (voA y)) (c : Bool) (hb : decide (x = y) = c) (w : World) :
  (execOp ρ o).run Try.prog w = .ok (.value (.bool c)) w := by
 unfold execOp
 simp only [ho, hx, hy]
 simp [run_eqGuard_agg _ _ _ _ _ _ _ (show Try.prog.eqGuardType Try.prog.depth 46 = false by kernel_rfl), run_eql_struct, equal_vo]
 simpa using hb
/-- All places: 56 votes behind the number of servers. -/
def voF (n : Int) (V : Nat → Vt) (i : Nat) : Value := if i = 0 then .int .i64 n else if (i - 1) % 3 = 0 then .int .i64 (V ((i - 1) / 3)).1 else if (i - 1) % 3 = 1 then .int .i64 (V ((i - 1) / 3)).2.1 else .string ⟨(V ((i - 1) / 3)).2.2.toArray⟩
def voC (n : Int) (V : Nat → Vt) : Array Value := vsC 169 (voF n V)
theorem voC_size (n : Int) (V : Nat → Vt) : (voC n V).size = 169 := vsC_size _ _
theorem voF_at (n : Int) (V : Nat → Vt) (i j : Nat) (hj : j < 3) : some (voF n V (1 + i * 3 + j)) = (voA (V i))[j]? := by
 unfold voF
 rw [if_neg (by omega), show (1 + i * 3 + j - 1) % 3 = j by omega, show (1 + i * 3 + j - 1) / 3 = i by omega]
 match j, hj with
 | 0, _ => rfl
 | 1, _ => rfl
 | 2, _ => rfl
theorem voC_get (n : Int) (V : Nat → Vt) (i j : Nat) (hi : i < 56) (hj : j < 3) : (voC n V)[1 + i * 3 + j]? = (voA (V i))[j]? := by
 unfold voC
 rw [vsC_get _ (by omega)]
 exact voF_at n V i j hj
theorem voC_part {n : Int} {V : Nat → Vt} (i : Nat) (hi : i < 56) (off : Nat) (ho : off = 1 + i * 3) : ∀ j v, (voA (V i)).toList[j]? = some v → (voC n V)[off + j]? = some v := by
 intro j v hv
 subst ho
 rw [Array.getElem?_toList] at hv
 have hj : j < 3 := (Array.getElem?_eq_some_iff.1 hv).1
 rw [voC_get n V i j hi hj, hv]
theorem voC_seq {n : Int} {V : Nat → Vt} (i : Nat) (hi : i < 56) (off : Nat) (ho : off = 1 + i * 3) : (voC n V)[off]? = some (.int .i64 (V i).1) := voC_part i hi off ho 0 _ rfl
theorem voC_dig {n : Int} {V : Nat → Vt} (i : Nat) (hi : i < 56) (off : Nat) (ho : off = 1 + i * 3) : (voC n V)[off + 2]? = some (.string ⟨(V i).2.2.toArray⟩) := voC_part i hi off ho 2 _ rfl
theorem voC_st {n : Int} {V : Nat → Vt} (i : Nat) (hi : i < 56) (off : Nat) (ho : off = 1 + i * 3) : ∀ j v, (tsC (V i).1 (V i).2.1).toList[j]? = some v → (voC n V)[off + j]? = some v := by
 intro j v hv
 refine voC_part i hi off ho j v ?_
 match j, hv with
 | 0, h => exact h
 | 1, h => exact h
theorem voC_zero (n : Int) (V : Nat → Vt) : (voC n V)[0]? = some (.int .i64 n) := by
 unfold voC
 rw [vsC_get _ (by omega)]
 rfl
theorem voC_put {n : Int} {V V' : Nat → Vt} (i : Nat) (hi : i < 56) (off : Nat) (ho : off = 1 + i * 3) (x : Vt) (hx : V' i = x) (hd : ∀ j, j < 56 → j ≠ i → V' j = V j) : putL (voC n V) off (voA x).toList = voC n V' := by
 subst ho
 subst hx
 apply Array.ext_getElem?
 intro k
 rw [putL_get _ _ _ _ (by rw [voC_size, Array.length_toList, voA_size]; omega), Array.length_toList, voA_size]
 by_cases hk : k < 169
 ·by_cases e : 1 + i * 3 ≤ k ∧ k < 1 + i * 3 + 3
  ·rw [if_pos e]
   obtain ⟨d, rfl⟩ : ∃ d, k = 1 + i * 3 + d := ⟨k - (1 + i * 3), by omega⟩
   rw [voC_get n V' i d hi (by omega), Array.getElem?_toList, Nat.add_sub_cancel_left]
  ·rw [if_neg e]
   by_cases h0 : k = 0
   ·subst h0
    rw [voC_zero, voC_zero]
   ·obtain ⟨m, d, rfl, hd3⟩ : ∃ m d, k = 1 + m * 3 + d ∧ d < 3 := ⟨(k - 1) / 3, (k - 1) % 3, by omega, by omega⟩
    rw [voC_get n V m d (by omega) hd3, voC_get n V' m d (by omega) hd3, hd m (by omega) (by omega)]
 ·rw [if_neg (by omega), Array.getElem?_eq_none (by rw [voC_size]; omega), Array.getElem?_eq_none (by rw [voC_size]; omega)]
theorem voC_one (n : Int) (V : Nat → Vt) : (voC n V).all (·.oneCell') = true := by
 rw [Array.all_eq_true]
 intro i hi
 rw [voC_size] at hi
 have : (voC n V)[i]? = some (voF n V i) := vsC_get _ hi
 rw [Array.getElem?_eq_getElem (by rw [voC_size]; exact hi)] at this
 rw [Option.some.inj this]
 unfold voF
 split
 ·rfl
 ·split
  ·rfl
  ·split <;> rfl
theorem info_vs : (Try.prog.info? 51).map (fun i => (i.zero, i.size)) = some (some (.agg (voC 0 fun _ => vt0)), 169) := by kernel_rfl
theorem zero_vs (w : World) : (zeroValue 51).run Try.prog w = .ok (.agg (voC 0 fun _ => vt0)) w := (zero_of_info info_vs).1 w
theorem size_vs : (Try.prog.info? 51).map (·.size) = some 169 := (zero_of_info info_vs).2
theorem built_vs (n : Int) : Try.prog.built 51 [(0, .int .i64 n)] = some (voC n fun _ => vt0) := by kernel_rfl
theorem built_vs0 : Try.prog.built 51 [] = some (voC 0 fun _ => vt0) := by kernel_rfl
/-- The document's vote. -/
def rvA (x : Rv) : Array Value := #[.int .i64 x.1, .int .i64 x.2.1, .int .i64 x.2.2.1, .string ⟨x.2.2.2.toArray⟩]
def rv0 : Rv := (0, 0, 0, [])
theorem rvA_size (x : Rv) : (rvA x).size = 4 := rfl
theorem info_rv : (Try.prog.info? 34).map (fun i => (i.zero, i.size)) = some (some (.agg (rvA rv0)), 4) := by kernel_rfl
theorem size_rv : (Try.prog.info? 34).map (·.size) = some 4 := (zero_of_info info_rv).2
theorem rv_one (x : Rv) : (rvA x).all (·.oneCell') = true := by simp [rvA, Value.oneCell']
theorem rv_st (x : Rv) : ∀ j v, (tsC x.2.1 x.2.2.1).toList[j]? = some v → (rvA x)[1 + j]? = some v := by
 intro j v hv
 match j, hv with
 | 0, h => exact h
 | 1, h => exact h
theorem ptr_vs : Try.prog.underlying 25 = some (.pointer (Try.prog.pointee 25)) := by kernel_rfl
theorem ptr_vo : Try.prog.underlying 57 = some (.pointer (Try.prog.pointee 57)) := by kernel_rfl
theorem an_mod (s : Int) : bits .and .i64 s 1 = s % 2 := by
 show IntKind.i64.wrap ((BitVec.ofInt 64 s &&& BitVec.ofInt 64 1).toNat : Int) = _
 rw [BitVec.toNat_and, show (BitVec.ofInt 64 1).toNat = 2 ^ 1 - 1 by decide, Nat.and_two_pow_sub_one_eq_mod, BitVec.toNat_ofInt, IntKind.wrap_i64]
 omega
section
variable {P : Program} {o : Oper} {ρ : Operand → Value}
theorem x_andz (t : TypeId) (x y : Operand) (u : TypeId) (ho : o.op = .binOp .and t x y u) (n m : Int) (hx : ρ x = .int .i64 n) (hy : ρ y = .int .i64 m) (w : World) :
  (execOp ρ o).run P w = .ok (.value (.int .i64 (bits .and .i64 n m))) w := by
 unfold execOp
 simp only [ho, hx, hy]
 simp [go_sem]
theorem x_addz (t : TypeId) (x y : Operand) (u : TypeId) (ho : o.op = .binOp .add t x y u) (n m r : Int) (hx : ρ x = .int .i64 n) (hy : ρ y = .int .i64 m) (hr : n + m = r) (h1 : -9223372036854775808 ≤ r) (h2 : r < 9223372036854775808) (w : World) :
  (execOp ρ o).run P w = .ok (.value (.int .i64 r)) w := by
 subst hr
 unfold execOp
 simp only [ho, hx, hy]
 simp [go_sem]
 exact wrap_sm _ h1 h2
theorem x_subz (t : TypeId) (x y : Operand) (u : TypeId) (ho : o.op = .binOp .sub t x y u) (n m r : Int) (hx : ρ x = .int .i64 n) (hy : ρ y = .int .i64 m) (hr : n - m = r) (h1 : -9223372036854775808 ≤ r) (h2 : r < 9223372036854775808) (w : World) :
  (execOp ρ o).run P w = .ok (.value (.int .i64 r)) w := by
 subst hr
 unfold execOp
 simp only [ho, hx, hy]
 simp [go_sem]
 exact wrap_sm _ h1 h2
theorem x_par (t : TypeId) (x : Operand) (u : TypeId) (ho : o.op = .binOp .and t x (.const (.int .i64 1)) u) (n : Int) (hx : ρ x = .int .i64 n) (hc : ρ (.const (.int .i64 1)) = .int .i64 1) (w : World) :
  (execOp ρ o).run P w = .ok (.value (.int .i64 (n % 2))) w := by
 have := x_andz (P := P) (ρ := ρ) t x _ u ho n 1 hx hc w
 rw [an_mod] at this
 exact this
theorem x_nb (t : TypeId) (x y : Operand) (u : TypeId) (ho : o.op = .binOp .neq t x y u) (n m : Bool) (hx : ρ x = .bool n) (hy : ρ y = .bool m) (hu : P.underlying t = some .bool) (r : Bool) (hr : (n != m) = r) (w : World) :
  (execOp ρ o).run P w = .ok (.value (.bool r)) w := by
 subst hr
 unfold execOp
 simp only [ho, hx, hy]
 simp [eqGuard, go_sem, hu]
 cases n <;> cases m <;> rfl
end
/-- n elements, one behind the other; each has k cells. -/
def esC (k n : Nat) (C : Nat → Array Value) : Array Value := Array.ofFn (n := n * k) fun i => ((C (i / k))[i.val % k]?).getD undef
theorem esC_size (k n : Nat) (C : Nat → Array Value) : (esC k n C).size = n * k := by simp [esC]
theorem esC_get {k n : Nat} {C : Nat → Array Value} (hC : ∀ i, (C i).size = k) (i j : Nat) (hi : i < n) (hj : j < k) : (esC k n C)[i * k + j]? = (C i)[j]? := by
 have h1 : i * k + j < n * k := Nat.lt_of_lt_of_le (Nat.add_lt_add_left hj _) (by rw [← Nat.succ_mul]; exact Nat.mul_le_mul_right k hi)
 have h2 : (i * k + j) / k = i := by rw [Nat.mul_comm, Nat.mul_add_div (by omega), Nat.div_eq_of_lt hj, Nat.add_zero]
 have h3 : (i * k + j) % k = j := by rw [Nat.mul_comm, Nat.mul_add_mod, Nat.mod_eq_of_lt hj]
 have h4 : j < (C i).size := by rw [hC]; exact hj
 simp [esC, h1, h2, h3, h4]
theorem esC_part {k n : Nat} {C : Nat → Array Value} (hC : ∀ i, (C i).size = k) (i : Nat) (hi : i < n) (off : Nat) (ho : off = i * k) : ∀ j v, (C i).toList[j]? = some v → (esC k n C)[off + j]? = some v := by
 intro j v hv
 subst ho
 rw [Array.getElem?_toList] at hv
 have hj : j < k := by
  have := (Array.getElem?_eq_some_iff.1 hv).1
  rw [hC] at this
  exact this
 rw [esC_get hC i j hi hj, hv]
theorem div_lt_n {k n i : Nat} (h : i < n * k) : i / k < n := Nat.div_lt_of_lt_mul (by rw [Nat.mul_comm]; exact h)
theorem esC_at {k n : Nat} {C : Nat → Array Value} (hC : ∀ i, (C i).size = k) (i : Nat) (h : i < n * k) : (esC k n C)[i]? = (C (i / k))[i % k]? := by
 have hk : 0 < k := by
  rcases Nat.eq_zero_or_pos k with e | e
  ·rw [e, Nat.mul_zero] at h; omega
  ·exact e
 have e : i / k * k + i % k = i := by rw [Nat.mul_comm]; exact Nat.div_add_mod i k
 have := esC_get hC (i / k) (i % k) (div_lt_n h) (Nat.mod_lt _ hk)
 rw [e] at this
 exact this
theorem esC_congr {k n : Nat} {C D : Nat → Array Value} (h : ∀ i, i < n → C i = D i) : esC k n C = esC k n D := by
 apply Array.ext_getElem?
 intro i
 by_cases hi : i < n * k
 ·have := h (i / k) (div_lt_n hi)
  simp [esC, hi, this]
 ·rw [Array.getElem?_eq_none (by rw [esC_size]; omega), Array.getElem?_eq_none (by rw [esC_size]; omega)]
theorem esC_snoc {k : Nat} {C : Nat → Array Value} (hC : ∀ i, (C i).size = k) (n : Nat) : (esC k n C).toList ++ (C n).toList = (esC k (n + 1) C).toList := by
 refine List.ext_getElem? fun j => ?_
 rw [List.getElem?_append, Array.length_toList, esC_size, Array.getElem?_toList, Array.getElem?_toList, Array.getElem?_toList]
 have hs : (n + 1) * k = n * k + k := Nat.succ_mul n k
 by_cases h : j < n * k
 ·rw [if_pos h, esC_at hC j h, esC_at hC j (by omega)]
 ·rw [if_neg h]
  by_cases h2 : j < n * k + k
  ·obtain ⟨d, rfl⟩ : ∃ d, j = n * k + d := ⟨j - n * k, by omega⟩
   rw [esC_get hC n d (by omega) (by omega), Nat.add_sub_cancel_left]
  ·rw [Array.getElem?_eq_none (by rw [hC]; omega), Array.getElem?_eq_none (by rw [esC_size]; omega)]
theorem esC_put {k n : Nat} {C D : Nat → Array Value} (hC : ∀ i, (C i).size = k) (hD : ∀ i, (D i).size = k) (i : Nat) (hi : i < n) (off : Nat) (ho : off = i * k) (hd : ∀ j, j < n → j ≠ i → D j = C j) : putL (esC k n C) off (D i).toList = esC k n D := by
 subst ho
 have h1 : i * k + k ≤ n * k := by rw [← Nat.succ_mul]; exact Nat.mul_le_mul_right k hi
 apply Array.ext_getElem?
 intro x
 rw [putL_get _ _ _ _ (by rw [esC_size, Array.length_toList, hD]; exact h1), Array.length_toList, hD]
 by_cases hx : x < n * k
 ·by_cases e : i * k ≤ x ∧ x < i * k + k
  ·rw [if_pos e]
   obtain ⟨d, rfl⟩ : ∃ d, x = i * k + d := ⟨x - i * k, by omega⟩
   rw [Nat.add_sub_cancel_left, esC_get hD i d hi (by omega), Array.getElem?_toList]
  ·rw [if_neg e, esC_at hC x hx, esC_at hD x hx, hd (x / k) (div_lt_n hx) (fun h => e ?_)]
   have hk : 0 < k := by
    rcases Nat.eq_zero_or_pos k with e | e
    ·rw [e, Nat.mul_zero] at hx; omega
    ·exact e
   have h2 := Nat.div_add_mod x k
   have h3 := Nat.mod_lt x hk
   rw [h, Nat.mul_comm] at h2
   omega
 ·rw [if_neg (by omega), Array.getElem?_eq_none (by rw [esC_size]; omega), Array.getElem?_eq_none (by rw [esC_size]; omega)]
theorem made_els {k n : Nat} (z : Array Value) (hz : z.size = k) : madeCells z (n * k) = esC k n (fun _ => z) := by
 apply Array.ext_getElem?
 intro i
 by_cases hi : i < n * k
 ·have hk : 0 < k := by
   rcases Nat.eq_zero_or_pos k with e | e
   ·rw [e, Nat.mul_zero] at hi; omega
   ·exact e
  rw [esC_at (fun _ => hz) i hi]
  unfold madeCells
  have : i % k < z.size := by rw [hz]; exact Nat.mod_lt _ hk
  simp [hi, hz]
  rw [getElem!_pos z (i % k) this, Array.getElem?_eq_getElem this]
 ·rw [Array.getElem?_eq_none (by rw [size_madeCells]; omega), Array.getElem?_eq_none (by rw [esC_size]; omega)]
/-- What a slice of such elements tells. -/
structure ElsAt (k : Nat) (w : World) (ab : Option Addr) (n : Nat) (C : Nat → Array Value) (gb ob : Nat) (bcs : Array Value) (tb : TypeId) : Prop where
 at' : n = 0 ∨ (ab = some ⟨gb, ob, none⟩ ∧ RowR w gb bcs tb ∧ ∀ i, i < n → ∀ j v, (C i).toList[j]? = some v → bcs[ob + i * k + j]? = some v)
section
variable {k : Nat} {w w2 : World} {ab : Option Addr} {n : Nat} {C D : Nat → Array Value} {gb ob : Nat} {bcs : Array Value} {tb : TypeId}
theorem ElsAt.below (h : ElsAt k w ab n C gb ob bcs tb) (hb : Below w.heap.size w w2) : ElsAt k w2 ab n C gb ob bcs tb :=
 ⟨h.at'.imp id fun ⟨h1, h2, h3⟩ => ⟨h1, h2.belowAll hb, h3⟩⟩
theorem ElsAt.belowAll (h : ElsAt k w ab n C gb ob bcs tb) (hb : Below w.heap.size w w2) : ElsAt k w2 ab n C gb ob bcs tb := h.below hb
theorem ElsAt.take (h : ElsAt k w ab n C gb ob bcs tb) {m : Nat} (hm : m ≤ n) : ElsAt k w ab m C gb ob bcs tb := by
 refine ⟨?_⟩
 rcases h.at' with h0 | ⟨h1, h2, h3⟩
 ·exact .inl (by omega)
 ·exact .inr ⟨h1, h2, fun i hi => h3 i (by omega)⟩
theorem ElsAt.congr (h : ElsAt k w ab n C gb ob bcs tb) (he : ∀ i, i < n → C i = D i) : ElsAt k w ab n D gb ob bcs tb :=
 ⟨h.at'.imp id fun ⟨h1, h2, h3⟩ => ⟨h1, h2, fun i hi => by rw [← he i hi]; exact h3 i hi⟩⟩
/-- Those from the m-th on (l[m:]), where there is one. -/
theorem ElsAt.drop (h : ElsAt k w (some ⟨gb, ob, none⟩) n C gb ob bcs tb) {m : Nat} (hm : m ≤ n) : ElsAt k w (some ⟨gb, ob + m * k, none⟩) (n - m) (fun i => C (m + i)) gb (ob + m * k) bcs tb := by
 refine ⟨?_⟩
 rcases h.at' with h0 | ⟨h1, h2, h3⟩
 ·exact .inl (by omega)
 ·refine .inr ⟨rfl, h2, fun i hi j v hv => ?_⟩
  have := h3 (m + i) (by omega) j v hv
  rw [Nat.add_mul] at this
  rw [show ob + m * k + i * k + j = ob + (m * k + i * k) + j by omega]
  exact this
theorem els_nil (w : World) (ab : Option Addr) (C : Nat → Array Value) : ElsAt k w ab 0 C 0 0 #[] 0 := ⟨.inl rfl⟩
theorem els_row {g : Nat} {t : TypeId} (hC : ∀ i, (C i).size = k) (h : Row w g (esC k n C) t) : ElsAt k w (some ⟨g, 0, none⟩) n C g 0 (esC k n C) t :=
 ⟨.inr ⟨rfl, h.r, fun i hi => esC_part hC i hi _ (by omega)⟩⟩
/-- Elements that the call appends. -/
def OwnE (k : Nat) (e : TypeId) (w : World) (base : Nat) (v : Value) (n : Nat) (C : Nat → Array Value) : Prop := w.ownsRow base e k v n (esC k n C).toList
theorem ownE_nil (e : TypeId) (w : World) (base : Nat) (C : Nat → Array Value) : OwnE k e w base (.slice none 0 0) 0 C := by
 have h : (esC k 0 C).toList = [] := by
  apply List.eq_nil_of_length_eq_zero
  rw [Array.length_toList, esC_size, Nat.zero_mul]
 unfold OwnE
 rw [h]
 exact World.ownsRow_nil w base _ _
variable {e : TypeId} {S : List Nat} {bs : Nat} {v : Value}
theorem OwnE.on (h : OwnE k e w bs v n C) (hk : Kept S w w2) (hS : ∀ b, v.ownBlock = some b → b ∉ S) : OwnE k e w2 bs v n C := own_on h hk hS
theorem OwnE.new (h : OwnE k e w bs v n C) {g : Nat} (hg : w.heap.size ≤ g) : v.ownBlock ≠ some g := own_new h hg
theorem OwnE.low (h : OwnE k e w bs v n C) {g : Nat} (hg : g < bs) : v.ownBlock ≠ some g := own_low h hg
theorem OwnE.base (h : OwnE k e w bs v n C) : ∀ g ∈ v.ownBlock.toList, bs ≤ g := own_base h
/-- An own one, as one that is handed on. -/
theorem ownE_els (hC : ∀ i, (C i).size = k) (h : OwnE k e w bs v n C) : ∃ ab c gb cur, v = .slice ab n c ∧ n ≤ c ∧ ElsAt k w ab n C gb 0 cur e := by
 rcases h.2 with ⟨rfl, rfl⟩ | ⟨g, cap, cur, rfl, _, hg, hnc, _, hcs, htk⟩
 ·exact ⟨none, 0, 0, #[], rfl, Nat.le_refl _, ⟨.inl rfl⟩⟩
 ·refine ⟨_, cap, g, cur, rfl, hnc, ⟨.inr ⟨rfl, Row.r hg, fun i hi j v hv => ?_⟩⟩⟩
  have hj : j < k := by
   rw [Array.getElem?_toList] at hv
   have := (Array.getElem?_eq_some_iff.1 hv).1
   rw [hC] at this
   exact this
  have hl : i * k + j < n * k := Nat.lt_of_lt_of_le (Nat.add_lt_add_left hj _) (by rw [← Nat.succ_mul]; exact Nat.mul_le_mul_right k hi)
  refine take_part htk (0 + i * k + j) v (by omega) ?_
  have := esC_part hC i hi (i * k) rfl j v hv
  rw [Nat.zero_add]
  exact this
end
section
variable {P : Program} {ops : Array Oper} {Q : Exit → Act → World → Prop} {rest : List Oper} {o : Oper} {a : Act} {w : World}
/-- append of one element. -/
theorem pw_appE (hw : Region.wanted o (yielded ops a.tmps) = true) (s x : Operand) (t : TypeId) (ho : o.op = .call { callee := .builtin .append, args := #[s, x], argTypes := #[t, t] })
  (base : Nat) (e : TypeId) (i : TypeInfo) (z : Value) (k bytes : Nat) (ht : P.underlying t = some (.slice e)) (hi : P.info? e = some i) (hz : i.zero = some z) (hsize : i.size = k) (hby : i.bytes = bytes) (hzs : z.cells.size = k) (hk : 0 < k) (hby2 : bytes ≤ 1000)
  (v : Value) (n : Nat) (C : Nat → Array Value) (hC : ∀ i, (C i).size = k) (hs : a.eval s = v) (hown : OwnE k e w base v n C) (gx c : Nat) (hx : a.eval x = .slice (some ⟨gx, 0, none⟩) 1 c) {tx : TypeId} (rx : Row w gx (C n) tx) (h1 : (C n).all (·.oneCell') = true)
  (hn : n ≤ 1000000) (hbase : base ≤ w.heap.size)
  (h : ∀ v' w', OwnE k e w' base v' (n + 1) C → Kept v.ownBlock.toList w w' → (v'.ownBlock = v.ownBlock ∨ v'.ownBlock = some w.heap.size) → PW P ops Q rest (a.put o.dst v') w') : PW P ops Q (o :: rest) a w := by
 refine pw_app1 hw s x t ho base e i z k bytes ht hi hz hsize hby hzs hk v n _ hs hown gx c hx rx (hC n) h1 (by unfold maxLen; omega) ?_ hbase fun v' w' h1 h2 h3 => h v' w' ?_ h2 h3
 ·exact Nat.le_trans (Nat.mul_le_mul (show n + 1 ≤ 1000001 by omega) hby2) (by decide)
 ·rw [esC_snoc hC] at h1
  exact h1
end
end Go.Proofs.Ytdbcikhineghcaa
