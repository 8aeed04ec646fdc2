/- Types and small laws of layer 22: keys, spaces and maps in memory. -/
import Derived.Test.YtchiiphmpkmloaaFrClone
import Derived.Test.YtchiiphmpkmloaaWgBase
import Derived.Test.YtchiiphmpkmloaaSpMath
import Derived.MapKept
namespace Go.Proofs.Ytchiiphmpkmloaa
open Go.RowKit
set_option linter.unusedVariables false
set_option linter.unusedSectionVars false
set_option linter.unusedSimpArgs false
theorem part_all (c : Array Value) : ∀ j v, c.toList[j]? = some v → c[0 + j]? = some v := fun j v h => by rw [Nat.zero_add, ← Array.getElem?_toList]; exact h
theorem ret_rowE {P : Program} {fn : Func} {R : Ending → World → Prop} {a : Act} {w : World} {p u : Tmp} {ty : TypeId} (hf : fn.results = #[.cell p ty, .tmp u]) (g : Nat) (hp : a.tmps.getD p undef = .pointer (some ⟨g, 0, none⟩))
  {t : TypeId} {cs : Array Value} (hr : Row w g cs t) (fs : Array Field) (hu : P.underlying ty = some (.struct fs)) (hi : (P.info? ty).map (·.size) = some cs.size) (hd : a.defers = [])
  (v : Value) (hv : a.tmps.getD u undef = v) (h : R (.returned (.tuple #[.agg cs, v])) w) : bodyPost P fn R .ret a w := by
 refine bodyPost_ret (v := .tuple #[.agg cs, v]) ?_ hd h
 rw [results_cell_tmp hf, hp, hv]
 simp only [asAddr, Sem.run_pure, Result.andThen_ok]
 rw [run_loadVar_row w g t ty cs (0, 0) _ hr hu rfl hi]
 rfl
section
variable {P : Program} {ops : Array Oper} {Q : Exit → Act → World → Prop} {rest : List Oper} {o : Oper} {a : Act} {w : World}
/-- A variable of one cell. -/
theorem pw_newv (hw : Region.wanted o (yielded ops a.tmps) = true) (t : TypeId) (ho : o.op = .alloc t) (v : Value) (hz : ∀ w, (zeroValue t).run P w = .ok v w) (hv : v.cells = #[v])
  (h : ∀ g w', w.heap.size ≤ g → Row w' g #[v] t → Kept [] w w' → PW P ops Q rest (a.put o.dst (.pointer (some ⟨g, 0, none⟩))) w') : PW P ops Q (o :: rest) a w :=
 pw_made hw (fun g => .pointer (some ⟨g, 0, none⟩)) t #[v] (by unfold execOp; simp only [ho, Instr.alloc, Sem.run_bind, hz, Result.andThen_ok, newVar, hv, newRow]; rfl) h
end
theorem z_int (w : World) : (zeroValue 3).run Try.prog w = .ok (.int .i64 0) w := by kernel_rfl
theorem exec_neq_nilp {P : Program} {o : Oper} {ρ : Operand → Value} (t : TypeId) (x y : Operand) (u : TypeId) (ho : o.op = .binOp .neq t x y u) (q : Option Addr) (hx : ρ x = .pointer q) (hy : ρ y = .pointer none) (ht : P.underlying t = some (.pointer (P.pointee t))) (w : World) :
  (execOp ρ o).run P w = .ok (.value (.bool (!q.isNone))) w := by
 unfold execOp
 simp only [ho, hx, hy]
 simp [eqGuard, run_neq_pointer_nil w t q ht]
theorem exec_eql_nilp {P : Program} {o : Oper} {ρ : Operand → Value} (t : TypeId) (x y : Operand) (u : TypeId) (ho : o.op = .binOp .eql t x y u) (q : Option Addr) (hx : ρ x = .pointer q) (hy : ρ y = .pointer none) (ht : P.underlying t = some (.pointer (P.pointee t))) (w : World) :
  (execOp ρ o).run P w = .ok (.value (.bool q.isNone)) w := by
 unfold execOp
 simp only [ho, hx, hy]
 simp [eqGuard, run_eql_pointer_nil w t q ht]
theorem wrap_sm (z : Int) (h1 : -9223372036854775808 ≤ z) (h2 : z < 9223372036854775808) : IntKind.i64.wrap z = z := by
 rw [IntKind.wrap_i64]; omega
theorem own_low {w : World} {base : Nat} {e : TypeId} {k : Nat} {v : Value} {n : Nat} {xs : List Value} (h : w.ownsRow base e k v n xs) {g : Nat} (hg : g < base) : v.ownBlock ≠ some g := fun e => by
 have := (h.lt g e).1
 omega
section
variable {P : Program} {o : Oper} {ρ : Operand → Value}
theorem toList_mk (l : List UInt8) : (⟨l.toArray⟩ : ByteArray).toList = l := by rw [ByteArray.toList_eq]
theorem x_addz (t : TypeId) (x y : Operand) (u : TypeId) (ho : o.op = .binOp .add t x y u) (n m r : Int) (hx : ρ x = .int .i64 n) (hy : ρ y = .int .i64 m) (hr : n + m = r) (h1 : -9223372036854775808 ≤ r) (h2 : r < 9223372036854775808) (w : World) :
  (execOp ρ o).run P w = .ok (.value (.int .i64 r)) w := by
 subst hr
 unfold execOp
 simp only [ho, hx, hy]
 simp [go_sem]
 exact wrap_sm _ h1 h2
theorem x_mulz (t : TypeId) (x y : Operand) (u : TypeId) (ho : o.op = .binOp .mul t x y u) (n m r : Int) (hx : ρ x = .int .i64 n) (hy : ρ y = .int .i64 m) (hr : n * m = r) (h1 : -9223372036854775808 ≤ r) (h2 : r < 9223372036854775808) (w : World) :
  (execOp ρ o).run P w = .ok (.value (.int .i64 r)) w := by
 subst hr
 unfold execOp
 simp only [ho, hx, hy]
 simp [go_sem]
 exact wrap_sm _ h1 h2
theorem x_subz (t : TypeId) (x y : Operand) (u : TypeId) (ho : o.op = .binOp .sub t x y u) (n m r : Int) (hx : ρ x = .int .i64 n) (hy : ρ y = .int .i64 m) (hr : n - m = r) (h1 : -9223372036854775808 ≤ r) (h2 : r < 9223372036854775808) (w : World) :
  (execOp ρ o).run P w = .ok (.value (.int .i64 r)) w := by
 subst hr
 unfold execOp
 simp only [ho, hx, hy]
 simp [go_sem]
 exact wrap_sm _ h1 h2
theorem x_nb (t : TypeId) (x y : Operand) (u : TypeId) (ho : o.op = .binOp .neq t x y u) (n m : Bool) (hx : ρ x = .bool n) (hy : ρ y = .bool m) (hu : P.underlying t = some .bool) (r : Bool) (hr : (n != m) = r) (w : World) :
  (execOp ρ o).run P w = .ok (.value (.bool r)) w := by
 subst hr
 unfold execOp
 simp only [ho, hx, hy]
 simp [eqGuard, go_sem, hu]
 cases n <;> cases m <;> rfl
/-- Texts in order. -/
theorem y_lss (t : TypeId) (x y : Operand) (u : TypeId) (ho : o.op = .binOp .lss t x y u) (a c : Ky) (hx : ρ x = .string ⟨a.toArray⟩) (hy : ρ y = .string ⟨c.toArray⟩) (b : Bool) (hb : lb a c = b) (w : World) :
  (execOp ρ o).run P w = .ok (.value (.bool b)) w := by
 subst hb
 unfold execOp lb
 simp only [ho, hx, hy]
 have e : ∀ l : Ky, (⟨l.toArray⟩ : ByteArray).toList = l := fun l => toList_mk l
 simp [go_sem, eqGuard, e]
theorem y_geqS (t : TypeId) (x y : Operand) (u : TypeId) (ho : o.op = .binOp .geq t x y u) (a c : Ky) (hx : ρ x = .string ⟨a.toArray⟩) (hy : ρ y = .string ⟨c.toArray⟩) (b : Bool) (hb : (!lb a c) = b) (w : World) :
  (execOp ρ o).run P w = .ok (.value (.bool b)) w := by
 subst hb
 unfold execOp lb
 simp only [ho, hx, hy]
 have e : ∀ l : Ky, (⟨l.toArray⟩ : ByteArray).toList = l := fun l => toList_mk l
 simp [binOp, Op.stringOp, eqGuard, e]
end
/-- n elements, one behind the other; each has k cells. -/
def esC (k n : Nat) (C : Nat → Array Value) : Array Value := Array.ofFn (n := n * k) fun i => ((C (i / k))[i.val % k]?).getD undef
theorem esC_size (k n : Nat) (C : Nat → Array Value) : (esC k n C).size = n * k := by simp [esC]
theorem esC_get {k n : Nat} {C : Nat → Array Value} (hC : ∀ i, (C i).size = k) (i j : Nat) (hi : i < n) (hj : j < k) : (esC k n C)[i * k + j]? = (C i)[j]? := by
 have h1 : i * k + j < n * k := Nat.lt_of_lt_of_le (Nat.add_lt_add_left hj _) (by rw [← Nat.succ_mul]; exact Nat.mul_le_mul_right k hi)
 have h2 : (i * k + j) / k = i := by rw [Nat.mul_comm, Nat.mul_add_div (by omega), Nat.div_eq_of_lt hj, Nat.add_zero]
 have h3 : (i * k + j) % k = j := by rw [Nat.mul_comm, Nat.mul_add_mod, Nat.mod_eq_of_lt hj]
 have h4 : j < (C i).size := by rw [hC]; exact hj
 simp [esC, h1, h2, h3, h4]
theorem esC_part {k n : Nat} {C : Nat → Array Value} (hC : ∀ i, (C i).size = k) (i : Nat) (hi : i < n) (off : Nat) (ho : off = i * k) : ∀ j v, (C i).toList[j]? = some v → (esC k n C)[off + j]? = some v := by
 intro j v hv
 subst ho
 rw [Array.getElem?_toList] at hv
 have hj : j < k := by
  have := (Array.getElem?_eq_some_iff.1 hv).1
  rw [hC] at this
  exact this
 rw [esC_get hC i j hi hj, hv]
theorem div_lt_n {k n i : Nat} (h : i < n * k) : i / k < n := Nat.div_lt_of_lt_mul (by rw [Nat.mul_comm]; exact h)
theorem esC_at {k n : Nat} {C : Nat → Array Value} (hC : ∀ i, (C i).size = k) (i : Nat) (h : i < n * k) : (esC k n C)[i]? = (C (i / k))[i % k]? := by
 have hk : 0 < k := by
  rcases Nat.eq_zero_or_pos k with e | e
  ·rw [e, Nat.mul_zero] at h; omega
  ·exact e
 have e : i / k * k + i % k = i := by rw [Nat.mul_comm]; exact Nat.div_add_mod i k
 have := esC_get hC (i / k) (i % k) (div_lt_n h) (Nat.mod_lt _ hk)
 rw [e] at this
 exact this
theorem esC_congr {k n : Nat} {C D : Nat → Array Value} (h : ∀ i, i < n → C i = D i) : esC k n C = esC k n D := by
 apply Array.ext_getElem?
 intro i
 by_cases hi : i < n * k
 ·have := h (i / k) (div_lt_n hi)
  simp [esC, hi, this]
 ·rw [Array.getElem?_eq_none (by rw [esC_size]; omega), Array.getElem?_eq_none (by rw [esC_size]; omega)]
theorem esC_snoc {k : Nat} {C : Nat → Array Value} (hC : ∀ i, (C i).size = k) (n : Nat) : (esC k n C).toList ++ (C n).toList = (esC k (n + 1) C).toList := by
 refine List.ext_getElem? fun j => ?_
 rw [List.getElem?_append, Array.length_toList, esC_size, Array.getElem?_toList, Array.getElem?_toList, Array.getElem?_toList]
 have hs : (n + 1) * k = n * k + k := Nat.succ_mul n k
 by_cases h : j < n * k
 ·rw [if_pos h, esC_at hC j h, esC_at hC j (by omega)]
 ·rw [if_neg h]
  by_cases h2 : j < n * k + k
  ·obtain ⟨d, rfl⟩ : ∃ d, j = n * k + d := ⟨j - n * k, by omega⟩
   rw [esC_get hC n d (by omega) (by omega), Nat.add_sub_cancel_left]
  ·rw [Array.getElem?_eq_none (by rw [hC]; omega), Array.getElem?_eq_none (by rw [esC_size]; omega)]
theorem esC_put {k n : Nat} {C D : Nat → Array Value} (hC : ∀ i, (C i).size = k) (hD : ∀ i, (D i).size = k) (i : Nat) (hi : i < n) (off : Nat) (ho : off = i * k) (hd : ∀ j, j < n → j ≠ i → D j = C j) : putL (esC k n C) off (D i).toList = esC k n D := by
 subst ho
 have h1 : i * k + k ≤ n * k := by rw [← Nat.succ_mul]; exact Nat.mul_le_mul_right k hi
 apply Array.ext_getElem?
 intro x
 rw [putL_get _ _ _ _ (by rw [esC_size, Array.length_toList, hD]; exact h1), Array.length_toList, hD]
 by_cases hx : x < n * k
 ·by_cases e : i * k ≤ x ∧ x < i * k + k
  ·rw [if_pos e]
   obtain ⟨d, rfl⟩ : ∃ d, x = i * k + d := ⟨x - i * k, by omega⟩
   rw [Nat.add_sub_cancel_left, esC_get hD i d hi (by omega), Array.getElem?_toList]
  ·rw [if_neg e, esC_at hC x hx, esC_at hD x hx, hd (x / k) (div_lt_n hx) (fun h => e ?_)]
   have hk : 0 < k := by
    rcases Nat.eq_zero_or_pos k with e | e
    ·rw [e, Nat.mul_zero] at hx; omega
    ·exact e
   have h2 := Nat.div_add_mod x k
   have h3 := Nat.mod_lt x hk
   rw [h, Nat.mul_comm] at h2
   omega
 ·rw [if_neg (by omega), Array.getElem?_eq_none (by rw [esC_size]; omega), Array.getElem?_eq_none (by rw [esC_size]; omega)]
theorem made_els {k n : Nat} (z : Array Value) (hz : z.size = k) : madeCells z (n * k) = esC k n (fun _ => z) := by
 apply Array.ext_getElem?
 intro i
 by_cases hi : i < n * k
 ·have hk : 0 < k := by
   rcases Nat.eq_zero_or_pos k with e | e
   ·rw [e, Nat.mul_zero] at hi; omega
   ·exact e
  rw [esC_at (fun _ => hz) i hi]
  unfold madeCells
  have : i % k < z.size := by rw [hz]; exact Nat.mod_lt _ hk
  simp [hi, hz]
  rw [getElem!_pos z (i % k) this, Array.getElem?_eq_getElem this]
 ·rw [Array.getElem?_eq_none (by rw [size_madeCells]; omega), Array.getElem?_eq_none (by rw [esC_size]; omega)]
/-- What a slice of such elements tells. -/
structure ElsAt (k : Nat) (w : World) (ab : Option Addr) (n : Nat) (C : Nat → Array Value) (gb ob : Nat) (bcs : Array Value) (tb : TypeId) : Prop where
 at' : n = 0 ∨ (ab = some ⟨gb, ob, none⟩ ∧ RowR w gb bcs tb ∧ ∀ i, i < n → ∀ j v, (C i).toList[j]? = some v → bcs[ob + i * k + j]? = some v)
section
variable {k : Nat} {w w2 : World} {ab : Option Addr} {n : Nat} {C D : Nat → Array Value} {gb ob : Nat} {bcs : Array Value} {tb : TypeId}
theorem ElsAt.below (h : ElsAt k w ab n C gb ob bcs tb) (hb : Below w.heap.size w w2) : ElsAt k w2 ab n C gb ob bcs tb :=
 ⟨h.at'.imp id fun ⟨h1, h2, h3⟩ => ⟨h1, h2.belowAll hb, h3⟩⟩
theorem ElsAt.belowAll (h : ElsAt k w ab n C gb ob bcs tb) (hb : Below w.heap.size w w2) : ElsAt k w2 ab n C gb ob bcs tb := h.below hb
theorem ElsAt.take (h : ElsAt k w ab n C gb ob bcs tb) {m : Nat} (hm : m ≤ n) : ElsAt k w ab m C gb ob bcs tb := by
 refine ⟨?_⟩
 rcases h.at' with h0 | ⟨h1, h2, h3⟩
 ·exact .inl (by omega)
 ·exact .inr ⟨h1, h2, fun i hi => h3 i (by omega)⟩
theorem ElsAt.congr (h : ElsAt k w ab n C gb ob bcs tb) (he : ∀ i, i < n → C i = D i) : ElsAt k w ab n D gb ob bcs tb :=
 ⟨h.at'.imp id fun ⟨h1, h2, h3⟩ => ⟨h1, h2, fun i hi => by rw [← he i hi]; exact h3 i hi⟩⟩
/-- Those from the m-th on (l[m:]), where there is one. -/
theorem ElsAt.drop (h : ElsAt k w (some ⟨gb, ob, none⟩) n C gb ob bcs tb) {m : Nat} (hm : m ≤ n) : ElsAt k w (some ⟨gb, ob + m * k, none⟩) (n - m) (fun i => C (m + i)) gb (ob + m * k) bcs tb := by
 refine ⟨?_⟩
 rcases h.at' with h0 | ⟨h1, h2, h3⟩
 ·exact .inl (by omega)
 ·refine .inr ⟨rfl, h2, fun i hi j v hv => ?_⟩
  have := h3 (m + i) (by omega) j v hv
  rw [Nat.add_mul] at this
  rw [show ob + m * k + i * k + j = ob + (m * k + i * k) + j by omega]
  exact this
theorem els_nil (w : World) (ab : Option Addr) (C : Nat → Array Value) : ElsAt k w ab 0 C 0 0 #[] 0 := ⟨.inl rfl⟩
theorem els_row {g : Nat} {t : TypeId} (hC : ∀ i, (C i).size = k) (h : Row w g (esC k n C) t) : ElsAt k w (some ⟨g, 0, none⟩) n C g 0 (esC k n C) t :=
 ⟨.inr ⟨rfl, h.r, fun i hi => esC_part hC i hi _ (by omega)⟩⟩
/-- Elements that the call appends. -/
def OwnE (k : Nat) (e : TypeId) (w : World) (base : Nat) (v : Value) (n : Nat) (C : Nat → Array Value) : Prop := w.ownsRow base e k v n (esC k n C).toList
theorem ownE_nil (e : TypeId) (w : World) (base : Nat) (C : Nat → Array Value) : OwnE k e w base (.slice none 0 0) 0 C := by
 have h : (esC k 0 C).toList = [] := by
  apply List.eq_nil_of_length_eq_zero
  rw [Array.length_toList, esC_size, Nat.zero_mul]
 unfold OwnE
 rw [h]
 exact World.ownsRow_nil w base _ _
variable {e : TypeId} {S : List Nat} {bs : Nat} {v : Value}
theorem OwnE.on (h : OwnE k e w bs v n C) (hk : Kept S w w2) (hS : ∀ b, v.ownBlock = some b → b ∉ S) : OwnE k e w2 bs v n C := own_on h hk hS
theorem OwnE.new (h : OwnE k e w bs v n C) {g : Nat} (hg : w.heap.size ≤ g) : v.ownBlock ≠ some g := own_new h hg
theorem OwnE.low (h : OwnE k e w bs v n C) {g : Nat} (hg : g < bs) : v.ownBlock ≠ some g := own_low h hg
theorem OwnE.base (h : OwnE k e w bs v n C) : ∀ g ∈ v.ownBlock.toList, bs ≤ g := own_base h
/-- An own one, as one that is handed on. -/
theorem ownE_els (hC : ∀ i, (C i).size = k) (h : OwnE k e w bs v n C) : ∃ ab c gb cur, v = .slice ab n c ∧ n ≤ c ∧ ElsAt k w ab n C gb 0 cur e := by
 rcases h.2 with ⟨rfl, rfl⟩ | ⟨g, cap, cur, rfl, _, hg, hnc, _, hcs, htk⟩
 ·exact ⟨none, 0, 0, #[], rfl, Nat.le_refl _, ⟨.inl rfl⟩⟩
 ·refine ⟨_, cap, g, cur, rfl, hnc, ⟨.inr ⟨rfl, Row.r hg, fun i hi j v hv => ?_⟩⟩⟩
  have hj : j < k := by
   rw [Array.getElem?_toList] at hv
   have := (Array.getElem?_eq_some_iff.1 hv).1
   rw [hC] at this
   exact this
  have hl : i * k + j < n * k := Nat.lt_of_lt_of_le (Nat.add_lt_add_left hj _) (by rw [← Nat.succ_mul]; exact Nat.mul_le_mul_right k hi)
  refine take_part htk (0 + i * k + j) v (by omega) ?_
  have := esC_part hC i hi (i * k) rfl j v hv
  rw [Nat.zero_add]
  exact this
end
section
variable {P : Program} {ops : Array Oper} {Q : Exit → Act → World → Prop} {rest : List Oper} {o : Oper} {a : Act} {w : World}
/-- append of one element. -/
theorem pw_appE (hw : Region.wanted o (yielded ops a.tmps) = true) (s x : Operand) (t : TypeId) (ho : o.op = .call { callee := .builtin .append, args := #[s, x], argTypes := #[t, t] })
  (base : Nat) (e : TypeId) (i : TypeInfo) (z : Value) (k bytes : Nat) (ht : P.underlying t = some (.slice e)) (hi : P.info? e = some i) (hz : i.zero = some z) (hsize : i.size = k) (hby : i.bytes = bytes) (hzs : z.cells.size = k) (hk : 0 < k) (hby2 : bytes ≤ 1000)
  (v : Value) (n : Nat) (C : Nat → Array Value) (hC : ∀ i, (C i).size = k) (hs : a.eval s = v) (hown : OwnE k e w base v n C) (gx c : Nat) (hx : a.eval x = .slice (some ⟨gx, 0, none⟩) 1 c) {tx : TypeId} (rx : Row w gx (C n) tx) (h1 : (C n).all (·.oneCell') = true)
  (hn : n ≤ 1000000) (hbase : base ≤ w.heap.size)
  (h : ∀ v' w', OwnE k e w' base v' (n + 1) C → Kept v.ownBlock.toList w w' → (v'.ownBlock = v.ownBlock ∨ v'.ownBlock = some w.heap.size) → PW P ops Q rest (a.put o.dst v') w') : PW P ops Q (o :: rest) a w := by
 refine pw_app1 hw s x t ho base e i z k bytes ht hi hz hsize hby hzs hk v n _ hs hown gx c hx rx (hC n) h1 (by unfold maxLen; omega) ?_ hbase fun v' w' h1 h2 h3 => h v' w' ?_ h2 h3
 ·exact Nat.le_trans (Nat.mul_le_mul (show n + 1 ≤ 1000001 by omega) hby2) (by decide)
 ·rw [esC_snoc hC] at h1
  exact h1
end
/-- A map of ints. -/
structure MapI (w : World) (b : Nat) (U : Int → Int) : Prop where
 out : ∃ (es : Array MapEntry) (clock : Nat), w.heap[b]? = some (.map es clock) ∧ MapKept.Stamped es clock ∧ (∀ x ∈ es.toList, MapKept.IsKey (.int .i64) x.key) ∧ (∀ x ∈ es.toList, ∀ k, x.key = .int .i64 k → x.val = .int .i64 (U k)) ∧ ∀ k, (∀ x ∈ es.toList, x.key ≠ .int .i64 k) → U k = 0
theorem MapI.lt {w : World} {b : Nat} {U : Int → Int} (h : MapI w b U) : b < w.heap.size := by
 obtain ⟨es, cl, hb, _⟩ := h.out
 exact (Array.getElem?_eq_some_iff.1 hb).1
theorem MapI.on {w w2 : World} {b : Nat} {U : Int → Int} {S : List Nat} (h : MapI w b U) (hk : Kept S w w2) (hS : b ∉ S) : MapI w2 b U := by
 have hl := h.lt
 obtain ⟨es, cl, hb, h1⟩ := h.out
 exact ⟨es, cl, (hk.block b hl hS).trans hb, h1⟩
theorem MapI.below {w w2 : World} {b : Nat} {U : Int → Int} (h : MapI w b U) (hb : Below w.heap.size w w2) : MapI w2 b U := h.on (Kept.ofBelow hb) (by simp)
theorem MapI.made (w : World) : MapI (w.alloc (.map #[] 0)) w.heap.size fun _ => 0 :=
 ⟨#[], 0, (MapKept.heap_alloc w _).1, MapKept.stamped_empty 0, by simp, by simp, fun _ _ => rfl⟩
/-- Not a row. -/
theorem MapI.ne {w : World} {b g : Nat} {U : Int → Int} {c : Array Value} {t : TypeId} (h : MapI w b U) (r : Row w g c t) : g ≠ b := by
 rintro rfl
 obtain ⟨es, cl, hb, _⟩ := h.out
 have := r.symm.trans hb
 cases this
section
variable {P : Program} {mt kt et : TypeId} {w : World} {b : Nat} {U : Int → Int}
theorem MapI.look (h : MapI w b U) (hm : P.underlying mt = some (.map kt et)) (hk : P.underlying kt = some (.int .i64)) (hz : ∀ w, (zeroValue et).run P w = .ok (.int .i64 0) w) (k : Int) :
  (Instr.lookup mt (.map (some b)) (.int .i64 k) false).run P w = .ok (.int .i64 (U k)) w := by
 obtain ⟨es, cl, hb, hs, hks, hv, h0⟩ := h.out
 have hK : MapKept.IsKey (.int .i64) (.int .i64 k) := rfl
 rcases MapKept.findNow_spec hK es.toList 0 hks with ⟨h1, h2⟩ | ⟨j, e, h1, h2, h3⟩
 ·rw [h0 k h2]
  simp [Instr.lookup, run_underlying hm, MapKept.run_getObj_map hb, MapKept.run_checkKey hk hK, MapKept.run_findKey hk h1, hz, Result.andThen]
 ·rw [← hv e (List.mem_of_getElem? h2) k h3]
  simp [Instr.lookup, run_underlying hm, MapKept.run_getObj_map hb, MapKept.run_checkKey hk hK, MapKept.run_findKey hk h1, Result.andThen]
theorem MapI.put (h : MapI w b U) (hm : P.underlying mt = some (.map kt et)) (hk : P.underlying kt = some (.int .i64)) (k v : Int) :
  ∃ w', (Instr.mapUpdate mt (.map (some b)) (.int .i64 k) (.int .i64 v)).run P w = .ok () w' ∧ MapI w' b (fun j => if j = k then v else U j) ∧ Kept [b] w w' := by
 have hl := h.lt
 obtain ⟨es, cl, hb, hs, hks, hv, h0⟩ := h.out
 have hK : MapKept.IsKey (.int .i64) (.int .i64 k) := rfl
 have hkp : ∀ o, Kept [b] w { w with heap := w.heap.setIfInBounds b o } := fun o => ⟨rfl, rfl, rfl, by simp, fun i _ hi => by
  have : b ≠ i := fun e => hi (by rw [e]; exact List.mem_singleton.2 rfl)
  simp [this]⟩
 have hat : ∀ o : Obj, ({ w with heap := w.heap.setIfInBounds b o } : World).heap[b]? = some o := fun o => by simp [hl]
 rcases MapKept.findNow_spec hK es.toList 0 hks with ⟨h1, h2⟩ | ⟨j, e, h1, h2, h3⟩
 ·refine ⟨_, ?_, ⟨es.push { key := .int .i64 k, val := .int .i64 v, born := cl }, cl + 1, hat _, MapKept.stamped_push hs h2, ?_, ?_, ?_⟩, hkp _⟩
  ·simp [Instr.mapUpdate, run_underlying hm, MapKept.run_getObj_map hb, MapKept.run_checkKey hk hK, MapKept.run_findKey hk h1, MapKept.run_setObj_map _ hb, Result.andThen]
  ·intro x hx
   rw [Array.toList_push, List.mem_append, List.mem_singleton] at hx
   rcases hx with hx | rfl
   ·exact hks x hx
   ·exact hK
  ·intro x hx i hi
   rw [Array.toList_push, List.mem_append, List.mem_singleton] at hx
   rcases hx with hx | rfl
   ·have hne : i ≠ k := fun q => h2 x hx (by rw [hi, q])
    rw [if_neg hne]
    exact hv x hx i hi
   ·have : k = i := by simpa using hi
    rw [if_pos this.symm]
  ·intro i hi
   rw [Array.toList_push] at hi
   have hne : i ≠ k := fun q => hi _ (List.mem_append_right _ (List.mem_singleton.2 rfl)) (by rw [q])
   rw [if_neg hne]
   exact h0 i fun x hx => hi x (List.mem_append_left _ hx)
 ·have h2a : es[j]? = some e := by rw [← Array.getElem?_toList]; exact h2
  have hkey : ∀ e', es[j]? = some e' → ({ e' with key := .int .i64 k, val := .int .i64 v } : MapEntry).key = e'.key := fun e' he' => by
   rw [h2a] at he'
   obtain rfl := Option.some.inj he'
   exact h3.symm
  refine ⟨_, ?_, ⟨es.modify j (fun e => { e with key := .int .i64 k, val := .int .i64 v }), cl, hat _, MapKept.stamped_modify hs j _ (fun _ _ => rfl) (fun e' _ he' => hkey e' he'), MapKept.isKey_modify hks j _ hkey, ?_, ?_⟩, hkp _⟩
  ·simp [Instr.mapUpdate, run_underlying hm, MapKept.run_getObj_map hb, MapKept.run_checkKey hk hK, MapKept.run_findKey hk h1, h2a, h3, MapKept.run_keyThatStays hK, MapKept.run_setObj_map _ hb, Result.andThen]
  ·intro x hx i hi
   obtain ⟨n, hn⟩ := List.mem_iff_getElem?.1 hx
   rw [Array.getElem?_toList, Array.getElem?_modify] at hn
   by_cases hjn : j = n
   ·subst hjn
    rw [if_pos rfl, h2a] at hn
    obtain rfl := Option.some.inj hn
    have : k = i := by simpa using hi
    rw [if_pos this.symm]
   ·rw [if_neg hjn] at hn
    have hxm : x ∈ es.toList := List.mem_iff_getElem?.2 ⟨n, by rw [Array.getElem?_toList]; exact hn⟩
    have hne : i ≠ k := fun q => by
     have hd := hs.2.2
     have a1 : (es.toList.map (·.key))[j]? = some (.int .i64 k) := by rw [List.getElem?_map, h2, Option.map_some, h3]
     have a2 : (es.toList.map (·.key))[n]? = some (.int .i64 k) := by rw [List.getElem?_map, Array.getElem?_toList, hn, Option.map_some, hi, q]
     obtain ⟨l1, e1⟩ := List.getElem?_eq_some_iff.1 a1
     obtain ⟨l2, e2⟩ := List.getElem?_eq_some_iff.1 a2
     rcases Nat.lt_or_ge j n with hl' | hl'
     ·exact List.pairwise_iff_getElem.1 hd j n l1 l2 hl' (e1.trans e2.symm)
     ·exact List.pairwise_iff_getElem.1 hd n j l2 l1 (by omega) (e2.trans e1.symm)
    rw [if_neg hne]
    exact hv x hxm i hi
  ·intro i hi
   have hmk := MapKept.modify_keys (es := es) j (fun e => ({ e with key := .int .i64 k, val := .int .i64 v } : MapEntry)) hkey
   have hni : (.int .i64 i : Value) ∉ es.toList.map (·.key) := by
    rw [← hmk]
    intro hm'
    obtain ⟨x, hx, e1⟩ := List.mem_map.1 hm'
    exact hi x hx e1
   have hne : i ≠ k := fun q => hni (List.mem_map.2 ⟨e, List.mem_of_getElem? h2, by rw [h3, q]⟩)
   rw [if_neg hne]
   exact h0 i fun x hx e1 => hni (List.mem_map.2 ⟨x, hx, e1⟩)
end
section
variable {P : Program} {ops : Array Oper} {Q : Exit → Act → World → Prop} {rest : List Oper} {o : Oper} {a : Act} {w : World}
theorem x_look (mt kt et : TypeId) (x y : Operand) (ho : o.op = .lookup mt x y false) {ρ : Operand → Value} {b : Nat} {U : Int → Int} (hx : ρ x = .map (some b)) (k : Int) (hy : ρ y = .int .i64 k) (hm : P.underlying mt = some (.map kt et)) (hk : P.underlying kt = some (.int .i64)) (hz : ∀ w, (zeroValue et).run P w = .ok (.int .i64 0) w) (h : MapI w b U) :
  (execOp ρ o).run P w = .ok (.value (.int .i64 (U k))) w := by
 unfold execOp
 simp only [ho, hx, hy]
 simp [h.look hm hk hz k, Result.andThen]
theorem pw_look (hw : Region.wanted o (yielded ops a.tmps) = true) (mt kt et : TypeId) (x y : Operand) (ho : o.op = .lookup mt x y false) {b : Nat} {U : Int → Int} (hx : a.eval x = .map (some b)) (k : Int) (hy : a.eval y = .int .i64 k) (hm : P.underlying mt = some (.map kt et)) (hk : P.underlying kt = some (.int .i64)) (hz : ∀ w, (zeroValue et).run P w = .ok (.int .i64 0) w) (hM : MapI w b U)
  (h : PW P ops Q rest (a.put o.dst (.int .i64 (U k))) w) : PW P ops Q (o :: rest) a w :=
 pw_run hw _ w (x_look mt kt et x y ho hx k hy hm hk hz hM) h
theorem pw_mput (hw : Region.wanted o (yielded ops a.tmps) = true) (mt kt et : TypeId) (x y z : Operand) (ho : o.op = .mapUpdate mt x y z) {b : Nat} {U : Int → Int} (hx : a.eval x = .map (some b)) (k : Int) (hy : a.eval y = .int .i64 k) (v : Int) (hz : a.eval z = .int .i64 v) (hm : P.underlying mt = some (.map kt et)) (hk : P.underlying kt = some (.int .i64)) (hM : MapI w b U)
  (h : ∀ w', MapI w' b (fun j => if j = k then v else U j) → Kept [b] w w' → PW P ops Q rest (a.put o.dst undef) w') : PW P ops Q (o :: rest) a w := by
 obtain ⟨w', hr, h1, h2⟩ := hM.put (P := P) hm hk k v
 refine pw_stored hw w' ?_ (h w' h1 h2)
 unfold execOp
 simp only [ho, hx, hy, hz]
 simp [hr, Result.andThen]
theorem pw_mmap (hw : Region.wanted o (yielded ops a.tmps) = true) (mt : TypeId) (ho : o.op = .makeMap mt none)
  (h : ∀ g w', w.heap.size ≤ g → MapI w' g (fun _ => 0) → Kept [] w w' → PW P ops Q rest (a.put o.dst (.map (some g))) w') : PW P ops Q (o :: rest) a w := by
 refine pw_run hw (.map (some w.heap.size)) (w.alloc (.map #[] 0)) ?_ (h _ _ (Nat.le_refl _) (MapI.made w) (Kept.ofBelow (below_alloc _)))
 unfold execOp
 simp only [ho]
 simp [Instr.makeMap, Result.andThen]
end
/-- Keys, ints, one cell each. -/
def stC (l : List Ky) (i : Nat) : Array Value := #[.string ⟨(l.getD i []).toArray⟩]
def inC (l : List Int) (i : Nat) : Array Value := #[.int .i64 (l.getD i 0)]
theorem stC_size (l : List Ky) (i : Nat) : (stC l i).size = 1 := rfl
theorem inC_size (l : List Int) (i : Nat) : (inC l i).size = 1 := rfl
/-- What the law hands over: a key and an end. -/
abbrev Ac := Ky × Int
def ac0 : Ac := ([], 0)
def acA (x : Ac) : Array Value := #[.string ⟨x.1.toArray⟩, .int .i64 x.2]
def acC (l : List Ac) (i : Nat) : Array Value := acA (l.getD i ac0)
theorem acA_size (x : Ac) : (acA x).size = 2 := rfl
/-- A space's cells, and those of the document's. -/
def sxC (n m : Int) (kv mv : Value) : Array Value := #[.int .i64 n, .int .i64 m, kv, mv]
theorem sxC_size (n m : Int) (kv mv : Value) : (sxC n m kv mv).size = 4 := rfl
theorem info_sp : (Try.prog.info? 57).map (fun i => (i.zero, i.size)) = some (some (.agg (sxC 0 0 (.slice none 0 0) (.map none))), 4) := by kernel_rfl
theorem zero_sp (w : World) : (zeroValue 57).run Try.prog w = .ok (.agg (sxC 0 0 (.slice none 0 0) (.map none))) w := (zero_of_info info_sp).1 w
theorem size_sp : (Try.prog.info? 57).map (·.size) = some 4 := (zero_of_info info_sp).2
theorem info_rf : (Try.prog.info? 33).map (fun i => (i.zero, i.size)) = some (some (.agg (sxC 0 0 (.slice none 0 0) (.slice none 0 0))), 4) := by kernel_rfl
theorem zero_rf (w : World) : (zeroValue 33).run Try.prog w = .ok (.agg (sxC 0 0 (.slice none 0 0) (.slice none 0 0))) w := (zero_of_info info_rf).1 w
theorem size_rf : (Try.prog.info? 33).map (·.size) = some 4 := (zero_of_info info_rf).2
theorem info_str : (Try.prog.info? 9).map (fun i => (i.zero, i.size, i.bytes)) = some (some (.string ⟨#[]⟩), 1, 16) := by kernel_rfl
theorem info_int : (Try.prog.info? 3).map (fun i => (i.zero, i.size, i.bytes)) = some (some (.int .i64 0), 1, 8) := by kernel_rfl
theorem of_info {t : TypeId} {z : Value} {s b : Nat} (h : (Try.prog.info? t).map (fun i => (i.zero, i.size, i.bytes)) = some (some z, s, b)) : ∃ i, Try.prog.info? t = some i ∧ i.zero = some z ∧ i.size = s ∧ i.bytes = b := by
 cases e : Try.prog.info? t with
 | none => rw [e] at h; cases h
 | some i =>
  rw [e] at h
  simp only [Option.map_some, Option.some.injEq, Prod.mk.injEq] at h
  exact ⟨i, rfl, h.1, h.2.1, h.2.2⟩
theorem size_str : (Try.prog.info? 9).map (·.size) = some 1 := by kernel_rfl
theorem size_strs : (Try.prog.info? 30).map (·.size) = some 1 := by kernel_rfl
theorem sl_strs : Try.prog.underlying 30 = some (.slice (Try.prog.elem 30)) := by kernel_rfl
theorem sl_ints : Try.prog.underlying 31 = some (.slice (Try.prog.elem 31)) := by kernel_rfl
theorem ptr_sp : Try.prog.underlying 26 = some (.pointer (Try.prog.pointee 26)) := by kernel_rfl
theorem z_strs (w : World) : (zeroValue 30).run Try.prog w = .ok (.slice none 0 0) w := by kernel_rfl
end Go.Proofs.Ytchiiphmpkmloaa
