/- A plain region walked in the text's order, with what is kept of the world told at each step; single operations on texts, bytes and fields. -/
import Derived.Test.YtchiiphmpkmloaaPWalk
namespace Go.Proofs.Ytchiiphmpkmloaa
open Go.RowKit
theorem Kept.ofBelow {w w' : World} (h : Below w.heap.size w w') : Kept [] w w' := ⟨h.os, h.tape, h.output, h.size, fun k hk _ => h.block k hk⟩
theorem Kept.nil {w w' : World} (h : Kept [] w w') : Below w.heap.size w w' := h.below w.heap.size (Nat.le_refl _) (by simp)
section
variable {P : Program} {ops : Array Oper} {Q : Exit → Act → World → Prop} {rest : List Oper} {o : Oper} {a : Act} {w : World}
theorem pw_skip (hw : Region.wanted o (yielded ops a.tmps) = false) (h : PW P ops Q rest (a.put o.dst undef) w) : PW P ops Q (o :: rest) a w := by
 refine ⟨?_⟩
 unfold wpList
 rw [if_neg (by rw [hw]; simp)]
 exact h.out
theorem pw_mv (hw : Region.wanted o (yielded ops a.tmps) = true) {t : Tmp} {v : Value} (ho : o.op = .move (.tmp t)) (hx : a.tmps.toList[t]? = some v) (h : PW P ops Q rest (a.put o.dst v) w) : PW P ops Q (o :: rest) a w :=
 pw_value hw v (fun w => by unfold execOp; rw [ho]; simp only [eval_at hx]; rfl) h
theorem pw_as (hw : Region.wanted o (yielded ops a.tmps) = true) {t : Tmp} {v : Value} (ho : o.op = .assign (.tmp t)) (hx : a.tmps.toList[t]? = some v) (h : PW P ops Q rest (a.put o.dst v) w) : PW P ops Q (o :: rest) a w :=
 pw_value hw v (fun w => by unfold execOp; rw [ho]; simp only [eval_at hx]; rfl) h
theorem pw_ext (hw : Region.wanted o (yielded ops a.tmps) = true) {x : Operand} {i : Nat} {vs : Array Value} {v : Value} (ho : o.op = .extract x i) (hx : a.eval x = .tuple vs) (hv : vs.toList[i]? = some v) (h : PW P ops Q rest (a.put o.dst v) w) : PW P ops Q (o :: rest) a w := by
 have hv' : vs[i]? = some v := by rw [← Array.getElem?_toList]; exact hv
 refine pw_run hw v w ?_ h
 unfold execOp
 rw [ho]
 simp only [hx, Instr.extract]
 simp [hv']
theorem pw_callE {fn : Func} (hw : Region.wanted o (yielded ops a.tmps) = true) (f : FuncId) (args : Array Operand) (ts : Array TypeId)
  (ho : o.op = .call { callee := .value (.func f), args := args, argTypes := ts }) (hf : P.funcs[f]? = some fn) (hb : (fn.name == "runtime.NumGoroutine" || fn.body.isNone) = false)
  (vs : Array Value) (hv' : args.toList.map a.eval = vs.toList) {R : Ending → World → Prop} (hc : Calls P f vs w R)
  (h : ∀ e w', R e w' → ∃ v, e = .returned v ∧ PW P ops Q rest (a.put o.dst v) w') : PW P ops Q (o :: rest) a w := by
 refine ⟨?_⟩
 unfold wpList
 rw [if_pos hw]
 left
 refine (opw_call f args ts ho hf hb vs hv' ?_).out
 exact hc.mono fun e w' hR => by
  obtain ⟨v, he, hp⟩ := h e w' hR
  exact ⟨v, he, hp.out⟩
theorem p_f {fn : Func} (f : FuncId) (hf : P.funcs[f]? = some fn) (vs : Array Value) {R : Ending → World → Prop} (hc : Calls P f vs w R) (h : ∀ e w', R e w' → ∃ v, e = .returned v ∧ PW P ops Q rest (a.put o.dst v) w') {args : Array Operand} {ts : Array TypeId} (hw : Region.wanted o (yielded ops a.tmps) = true := by rfl) (ho : o.op = .call { callee := .value (.func f), args := args, argTypes := ts } := by exact rfl) (hb : (fn.name == "runtime.NumGoroutine" || fn.body.isNone) = false := by kernel_rfl) (hv' : args.toList.map a.eval = vs.toList := by exact rfl) : PW P ops Q (o :: rest) a w := pw_callE hw f args ts ho hf hb vs hv' hc h
theorem pw_callB {fn : Func} (hw : Region.wanted o (yielded ops a.tmps) = true) (f : FuncId) (args : Array Operand) (ts : Array TypeId)
  (ho : o.op = .call { callee := .value (.func f), args := args, argTypes := ts }) (hf : P.funcs[f]? = some fn) (hb : (fn.name == "runtime.NumGoroutine" || fn.body.isNone) = false)
  (vs : Array Value) (hv' : args.toList.map a.eval = vs.toList) (v : Value) (hc : Calls P f vs w fun e w' => e = .returned v ∧ Below w.heap.size w w')
  (h : ∀ w', Kept [] w w' → PW P ops Q rest (a.put o.dst v) w') : PW P ops Q (o :: rest) a w :=
 pw_call hw f args ts ho hf hb vs hv' v hc fun w' hb' => h w' (Kept.ofBelow hb')
theorem p_c {fn : Func} (f : FuncId) (hf : P.funcs[f]? = some fn) (vs : Array Value) {v : Value} (hc : Calls P f vs w fun e w' => e = .returned v ∧ Below w.heap.size w w') (h : ∀ w', Kept [] w w' → PW P ops Q rest (a.put o.dst v) w') {args : Array Operand} {ts : Array TypeId} (hw : Region.wanted o (yielded ops a.tmps) = true := by rfl) (ho : o.op = .call { callee := .value (.func f), args := args, argTypes := ts } := by exact rfl) (hb : (fn.name == "runtime.NumGoroutine" || fn.body.isNone) = false := by kernel_rfl) (hv' : args.toList.map a.eval = vs.toList := by exact rfl) : PW P ops Q (o :: rest) a w := pw_callB hw f args ts ho hf hb vs hv' v hc h
theorem pw_made (hw : Region.wanted o (yielded ops a.tmps) = true) (f : Nat → Value) (t : TypeId) (c : Array Value) (hr : (execOp a.eval o).run P w = .ok (.value (f w.heap.size)) (w.alloc (.cells c t)))
  (h : ∀ g w', w.heap.size ≤ g → Row w' g c t → Kept [] w w' → PW P ops Q rest (a.put o.dst (f g)) w') : PW P ops Q (o :: rest) a w :=
 pw_run hw _ _ hr (h _ _ (Nat.le_refl _) (Row.new _ _ _) (Kept.ofBelow (below_alloc _)))
theorem pw_new (hw : Region.wanted o (yielded ops a.tmps) = true) (t : TypeId) (ho : o.op = .alloc t) (c : Array Value) (hz : ∀ w, (zeroValue t).run P w = .ok (.agg c) w)
  (h : ∀ g w', w.heap.size ≤ g → Row w' g c t → Kept [] w w' → PW P ops Q rest (a.put o.dst (.pointer (some ⟨g, 0, none⟩))) w') : PW P ops Q (o :: rest) a w :=
 pw_made hw (fun g => .pointer (some ⟨g, 0, none⟩)) t c (by unfold execOp; simp only [ho, Instr.alloc, Sem.run_bind, hz, Result.andThen_ok, newVar, newRow]; rfl) h
theorem pw_boxr (hw : Region.wanted o (yielded ops a.tmps) = true) (t : TypeId) (x : Operand) (ho : o.op = .box t x) (c : Array Value) (hx : a.eval x = .agg c)
  (h : ∀ g w', w.heap.size ≤ g → Row w' g c t → Kept [] w w' → PW P ops Q rest (a.put o.dst (.pointer (some ⟨g, 0, none⟩))) w') : PW P ops Q (o :: rest) a w :=
 pw_made hw (fun g => .pointer (some ⟨g, 0, none⟩)) t c (by unfold execOp; simp only [ho, hx, Instr.box, Sem.run_bind, newVar, newRow]; rfl) h
theorem pw_litr (hw : Region.wanted o (yielded ops a.tmps) = true) (t e : TypeId) (len : Nat) (parts : Array (Nat × Operand)) (ho : o.op = .buildSlice t len parts) (cells : Array Value) (ie : TypeInfo) (z : Value)
  (hu : P.underlying t = some (.slice e)) (hie : P.info? e = some ie) (hz : ie.zero = some z) (hsmall : ¬ len * ie.size > 2 ^ 24) (hpos : ¬ len * ie.size = 0)
  (vals : List (Nat × Value)) (hv : parts.toList.map (fun x => (x.1, a.eval x.2)) = vals)
  (hf : Instr.fill (fun i => some (i * ie.size, ie.size)) ((Array.range (len * ie.size)).map (z.cells[· % z.cells.size]!)) vals = some cells)
  (h : ∀ g w', w.heap.size ≤ g → Row w' g cells e → Kept [] w w' → PW P ops Q rest (a.put o.dst (.slice (some ⟨g, 0, none⟩) len len)) w') : PW P ops Q (o :: rest) a w := by
 have hf' : Instr.fill (fun i => some (i * ie.size, ie.size)) ((Array.range (len * ie.size)).map (z.cells[· % z.cells.size]!)) (parts.map fun (i, x) => (i, a.eval x)).toList = some cells := by
  rw [Array.toList_map]; rw [← hv] at hf; exact hf
 refine pw_made hw (fun g => .slice (some ⟨g, 0, none⟩) len len) e cells ?_ h
 unfold execOp
 simp only [ho, Sem.run_bind, run_buildSlice w t e len _ cells ie z hu hie hz hsmall hpos hf', Result.andThen_ok]
 rfl
theorem pw_make (hw : Region.wanted o (yielded ops a.tmps) = true) (t e : TypeId) (x y : Operand) (ho : o.op = .makeSlice t x y) (i : TypeInfo) (z : Value) (ht : P.underlying t = some (.slice e)) (hi : P.info? e = some i) (hz : i.zero = some z) (m : Nat) (hx : a.eval x = .int .i64 m) (hy : a.eval y = .int .i64 m)
  (hcells : m * i.size ≤ 16777216) (hbytes : i.bytes * m ≤ 281474976710656) (h63 : m ≤ 9223372036854775807)
  (h : ∀ g w', w.heap.size ≤ g → Row w' g (madeCells z.cells (m * i.size)) e → Kept [] w w' → PW P ops Q rest (a.put o.dst (.slice (some ⟨g, 0, none⟩) m m)) w') : PW P ops Q (o :: rest) a w := by
 refine pw_made hw (fun g => .slice (some ⟨g, 0, none⟩) m m) e _ ?_ h
 have hb' : (i.bytes : Int) * (m : Int) ≤ 281474976710656 := by rw [← Int.natCast_mul]; omega
 have hr := run_makeSlice (P := P) w t e i z ht hi hz .i64 .i64 (m : Int) (m : Int) (by omega) (by omega) (by rw [Int.toNat_natCast]; exact hcells) hb' (by omega)
 rw [Int.toNat_natCast] at hr
 unfold execOp
 simp only [ho, hx, hy, Sem.run_bind, hr, Result.andThen_ok]
 rfl
theorem pw_loadm (hw : Region.wanted o (yielded ops a.tmps) = true) (ty : TypeId) (x : Operand) (ho : o.op = .load ty x) (g off : Nat) (hx : a.eval x = .pointer (some ⟨g, off, none⟩)) {t : TypeId} {cs : Array Value} (hg : RowR w g cs t)
  (sub : Array Value) (hs : ∀ j v, sub.toList[j]? = some v → cs[off + j]? = some v) (d : TypeDesc) (hu : P.underlying ty = some d) (hd : d.isRow = true) (hi : (P.info? ty).map (·.size) = some sub.size)
  (h : PW P ops Q rest (a.put o.dst (.agg sub)) w) : PW P ops Q (o :: rest) a w :=
 pw_run hw _ _ (run_load_mid ty x ho g off hx hg sub hs d hu hd hi) h
theorem pw_loadk (hw : Region.wanted o (yielded ops a.tmps) = true) (ty : TypeId) (x : Operand) (ho : o.op = .load ty x) (g i : Nat) (hx : a.eval x = .pointer (some ⟨g, i, none⟩)) {t : TypeId} {cs : Array Value} (hg : RowR w g cs t) (v : Value) (hc : cs[i]? = some v)
  (ha : ∀ w, (isAgg ty).run P w = .ok false w) (h : PW P ops Q rest (a.put o.dst v) w) : PW P ops Q (o :: rest) a w := by
 refine pw_run hw v w ?_ h
 unfold execOp
 simp only [ho, hx, Instr.loadAt, Instr.sureAddr, Sem.run_bind, Sem.run_pure, Result.andThen_ok, run_load_cell w g i ty v ha ((hg.cell i).trans hc)]
theorem p_x {t : TypeId} {x y : Operand} {g off len cap : Nat} (i : Nat) (hi : i < len) {e : TypeId} (hu : P.underlying t = some (.slice e)) {z : Nat} (hz : ∀ w, (sizeOf e).run P w = .ok z w) (h : PW P ops Q rest (a.put o.dst (.pointer (some ⟨g, off + i * z, none⟩))) w) (hw : Region.wanted o (yielded ops a.tmps) = true := by rfl) (ho : o.op = .indexAddr t x y := by exact rfl) (hx : a.eval x = .slice (some ⟨g, off, none⟩) len cap := by exact rfl) (hy : a.eval y = .int .i64 i := by exact rfl) : PW P ops Q (o :: rest) a w := pw_value hw _ (exec_index_s t x y ho g off len cap hx i hy hi e hu z hz) h
theorem p_d {ty : TypeId} {x : Operand} {g : Nat} (i : Nat) {t : TypeId} {cs : Array Value} (hg : RowR w g cs t) (v : Value) (hc : cs[i]? = some v) (ha : ∀ w, (isAgg ty).run P w = .ok false w) (h : PW P ops Q rest (a.put o.dst v) w) (hw : Region.wanted o (yielded ops a.tmps) = true := by rfl) (ho : o.op = .load ty x := by exact rfl) (hx : a.eval x = .pointer (some ⟨g, i, none⟩) := by exact rfl) : PW P ops Q (o :: rest) a w := pw_loadk hw ty x ho g i hx hg v hc ha h
theorem kept_only {g : Nat} {w w' : World} (h : Only g w w') : Kept [g] w w' := ⟨h.os, h.tape, h.output, by rw [h.size]; exact Nat.le_refl _, fun k _ hk => h.block k (by simpa using hk)⟩
theorem pw_stored (hw : Region.wanted o (yielded ops a.tmps) = true) (w' : World) (hr : (execOp a.eval o).run P w = .ok .skip w') (h : PW P ops Q rest (a.put o.dst undef) w') : PW P ops Q (o :: rest) a w := by
 refine ⟨?_⟩
 unfold wpList
 rw [if_pos hw]
 left
 unfold Oper.wp
 rw [hr]
 exact h.out
/-- A store inside a row. -/
theorem pw_putm (hw : Region.wanted o (yielded ops a.tmps) = true) (ty : TypeId) (x y : Operand) (ho : o.op = .store ty x y) (g off : Nat) (hx : a.eval x = .pointer (some ⟨g, off, none⟩)) {t : TypeId} {old : Array Value} (hg : Row w g old t) (sub : Array Value) (hy : a.eval y = .agg sub)
  (hi : (P.info? ty).map (·.size) = some sub.size) (hold : off + sub.size ≤ old.size) (h1 : sub.all (·.oneCell') = true) (c : Array Value) (hc : putL old off sub.toList = c)
  (h : ∀ w', Row w' g c t → Kept [g] w w' → PW P ops Q rest (a.put o.dst undef) w') : PW P ops Q (o :: rest) a w := by
 subst hc
 refine pw_stored hw (w.setCells g off sub.toList) ?_ (h _ (Row.setCells _ _ hg) (kept_only (only_setCells _ _ _ _)))
 unfold execOp
 simp only [ho, hx, hy, Instr.storeAt, Instr.sureAddr, Sem.run_bind, Sem.run_pure, Result.andThen_ok, run_storeVar_mid w _ off ty sub (there_of_row hg off _ hold) hi h1]
/-- A store of a whole row. -/
theorem pw_put (hw : Region.wanted o (yielded ops a.tmps) = true) (ty : TypeId) (x y : Operand) (ho : o.op = .store ty x y) (g : Nat) (hx : a.eval x = .pointer (some ⟨g, 0, none⟩)) {t : TypeId} {old : Array Value} (hg : Row w g old t) (c : Array Value) (hy : a.eval y = .agg c)
  (hi : (P.info? ty).map (·.size) = some c.size) (hold : old.size = c.size) (h1 : c.all (·.oneCell') = true)
  (h : ∀ w', Row w' g c t → Kept [g] w w' → PW P ops Q rest (a.put o.dst undef) w') : PW P ops Q (o :: rest) a w := by
 refine pw_stored hw (w.setRow g c) ?_ (h _ (hg.setRow _) (kept_only (only_setRow _ _ _)))
 unfold execOp
 simp only [ho, hx, hy, Instr.storeAt, Instr.sureAddr, Sem.run_bind, Sem.run_pure, Result.andThen_ok, run_storeVar_row w _ t ty old c hg hi hold h1]
/-- A store of a value of one cell. -/
theorem pw_putv (hw : Region.wanted o (yielded ops a.tmps) = true) (ty : TypeId) (x y : Operand) (ho : o.op = .store ty x y) (g i : Nat) (hx : a.eval x = .pointer (some ⟨g, i, none⟩)) {t : TypeId} {old : Array Value} (hg : Row w g old t) (v : Value) (hy : a.eval y = v)
  (hv : v.cells = #[v]) (h1 : v.oneCell' = true) (hz : (P.info? ty).map (·.size) = some 1) (hi : i < old.size) (c : Array Value) (hc : old.setIfInBounds i v = c)
  (h : ∀ w', Row w' g c t → Kept [g] w w' → PW P ops Q rest (a.put o.dst undef) w') : PW P ops Q (o :: rest) a w := by
 subst hc
 refine pw_stored hw (w.setCell ⟨g, i, none⟩ v) ?_ (h _ (hg.setCell _ _) (kept_only (only_setCell _ _ _ _)))
 have hcell : w.cell? ⟨g, i, none⟩ = some old[i] := (hg.cell i).trans (by simp [hi])
 unfold execOp
 simp only [ho, hx, hy, Instr.storeAt, Instr.sureAddr, Sem.run_bind, Sem.run_pure, Result.andThen_ok, run_store_val w _ i ty v _ hv h1 hz hcell (hg.frozen i)]
end
/-- A function's end: one result, a struct in memory. -/
theorem ret_rowd {P : Program} {fn : Func} {R : Ending → World → Prop} {a : Act} {w : World} {p : Tmp} {ty : TypeId} (hf : fn.results = #[.cell p ty]) (g : Nat) (hp : a.tmps.getD p undef = .pointer (some ⟨g, 0, none⟩))
  {t : TypeId} {cs : Array Value} (hr : Row w g cs t) (fs : Array Field) (hu : P.underlying ty = some (.struct fs)) (hi : (P.info? ty).map (·.size) = some cs.size) (hd : a.defers = [])
  (h : R (.returned (.agg cs)) w) : bodyPost P fn R .ret a w :=
 bodyPost_ret (results_cell_row hf a.tmps w g t cs (0, 0) _ hp hr hu rfl hi) hd h
section
variable {P : Program} {o : Oper} {ρ : Operand → Value}
theorem y_lenS (t : TypeId) (x : Operand) (ho : o.op = .call { callee := .builtin .len, args := #[x], argTypes := #[t] }) (l : List UInt8) (hx : ρ x = .string ⟨l.toArray⟩) (hu : P.underlying t = some .string) (w : World) :
  (execOp ρ o).run P w = .ok (.value (.int .i64 l.length)) w := by
 have hs : (⟨l.toArray⟩ : ByteArray).size = l.length := by simp [ByteArray.size]
 unfold execOp
 simp only [ho]
 simp [resolve, invoke, builtin, hx, go_sem, goInt, hu, hs]
/-- A byte of a text. -/
def yb (l : List UInt8) (i : Nat) : Nat := (l.getD i 0).toNat
theorem yb_lt (l : List UInt8) (i : Nat) : yb l i < 256 := (l.getD i 0).toNat_lt
theorem y_index (t : TypeId) (x ix : Operand) (ho : o.op = .index t x ix) (hu : P.underlying t = some .string) (l : List UInt8) (hx : ρ x = .string ⟨l.toArray⟩)
  (k : IntKind) (i : Nat) (hi : ρ ix = .int k i) (h1 : i < l.length) (w : World) : (execOp ρ o).run P w = .ok (.value (.int .u8 (yb l i : Nat))) w := by
 have hs : (⟨l.toArray⟩ : ByteArray).size = l.length := by simp [ByteArray.size]
 unfold execOp
 simp only [ho, hx, hi, Sem.run_bind]
 rw [run_index_string w t ⟨l.toArray⟩ k i hu, dif_pos ⟨by omega, by omega⟩]
 show Result.ok (Next.value _) w = _
 congr 4
 have : (⟨l.toArray⟩ : ByteArray)[(i : Int).toNat]'(by rw [hs]; omega) = l[i] := by
  simp [ByteArray.getElem_eq_getElem_data]
 rw [this]
 unfold yb
 simp [h1]
theorem y_sub8 (t : TypeId) (x y : Operand) (u : TypeId) (ho : o.op = .binOp .sub t x y u) (n m : Nat) (hx : ρ x = .int .u8 n) (hy : ρ y = .int .u8 m) (hm : m ≤ n) (hn : n < 256) (w : World) :
  (execOp ρ o).run P w = .ok (.value (.int .u8 ((n - m : Nat) : Int))) w := by
 unfold execOp
 simp only [ho, hx, hy]
 simp [go_sem]
 rw [IntKind.wrap_u8']
 omega
theorem y_conv (s d : TypeId) (x : Operand) (ho : o.op = .convert s d x) (ks kd : IntKind) (hs : P.underlying s = some (.int ks)) (hd : P.underlying d = some (.int kd)) (n : Int) (r : Int) (hx : ρ x = .int ks n) (hr : kd.wrap n = r) (w : World) :
  (execOp ρ o).run P w = .ok (.value (.int kd r)) w := by
 subst hr
 unfold execOp
 simp only [ho, hx]
 simp [convert, run_underlying hs, run_underlying hd, go_sem]
theorem exec_fieldv (s : TypeId) (x : Operand) (fi : Nat) (ho : o.op = .field s x fi) (v r : Value) (hx : ρ x = v) (hr : ∀ w, (Instr.field s v fi).run P w = .ok r w) (w : World) : (execOp ρ o).run P w = .ok (.value r) w := by
 unfold execOp
 simp only [ho, hx, Sem.run_bind, hr, Result.andThen_ok]
 rfl
theorem exec_buildv (t : TypeId) (l : List (Nat × Operand)) (ho : o.op = .build t l.toArray) (vs : List (Nat × Value)) (hv : l.map (fun q => (q.1, ρ q.2)) = vs) (c : Array Value) (hb : P.built t vs = some c) (w : World) :
  (execOp ρ o).run P w = .ok (.value (.agg c)) w := by
 unfold execOp
 simp only [ho, List.map_toArray, Sem.run_bind]
 rw [show (l.map fun x => match x with | (i, y) => (i, ρ y)) = vs from hv, run_build w t vs.toArray c (by simpa using hb)]
 rfl
end
section
variable {P : Program} {ops : Array Oper} {Q : Exit → Act → World → Prop} {rest : List Oper} {o : Oper} {a : Act} {w : World}
theorem p_m {t : Tmp} {v : Value} (h : PW P ops Q rest (a.put o.dst v) w) (hw : Region.wanted o (yielded ops a.tmps) = true := by rfl) (ho : o.op = .move (.tmp t) := by exact rfl) (hx : a.tmps.toList[t]? = some v := by exact rfl) : PW P ops Q (o :: rest) a w := pw_mv hw ho hx h
theorem p_a {t : Tmp} {v : Value} (h : PW P ops Q rest (a.put o.dst v) w) (hw : Region.wanted o (yielded ops a.tmps) = true := by rfl) (ho : o.op = .assign (.tmp t) := by exact rfl) (hx : a.tmps.toList[t]? = some v := by exact rfl) : PW P ops Q (o :: rest) a w := pw_as hw ho hx h
theorem p_e {x : Operand} {i : Nat} {vs : Array Value} {v : Value} (h : PW P ops Q rest (a.put o.dst v) w) (hw : Region.wanted o (yielded ops a.tmps) = true := by rfl) (ho : o.op = .extract x i := by exact rfl) (hx : a.eval x = .tuple vs := by exact rfl) (hv : vs.toList[i]? = some v := by exact rfl) : PW P ops Q (o :: rest) a w := pw_ext hw ho hx hv h
theorem p_s (h : PW P ops Q rest (a.put o.dst undef) w) (hw : Region.wanted o (yielded ops a.tmps) = false := by rfl) : PW P ops Q (o :: rest) a w := pw_skip hw h
theorem p_1 {t : Tmp} {v : Value} (h : PW P ops Q rest (a.put o.dst v) w) (ho : o.op = .move (.tmp t) := by exact rfl) (hw : Region.wanted o (yielded ops a.tmps) = true := by rfl) (hx : a.tmps.toList[t]? = some v := by exact rfl) : PW P ops Q (o :: rest) a w := pw_mv hw ho hx h
theorem p_2 {t : Tmp} {v : Value} (h : PW P ops Q rest (a.put o.dst v) w) (ho : o.op = .assign (.tmp t) := by exact rfl) (hw : Region.wanted o (yielded ops a.tmps) = true := by rfl) (hx : a.tmps.toList[t]? = some v := by exact rfl) : PW P ops Q (o :: rest) a w := pw_as hw ho hx h
theorem p_3 {x : Operand} {i : Nat} {vs : Array Value} {v : Value} (h : PW P ops Q rest (a.put o.dst v) w) (ho : o.op = .extract x i := by exact rfl) (hw : Region.wanted o (yielded ops a.tmps) = true := by rfl) (hx : a.eval x = .tuple vs := by exact rfl) (hv : vs.toList[i]? = some v := by exact rfl) : PW P ops Q (o :: rest) a w := pw_ext hw ho hx hv h
theorem p_W {A B : Prop} (b : B) (h : B → A := by (intro b; (try simp only [pv]); (repeat ((first | refine p_1 ?_ | refine p_2 ?_ | refine p_3 ?_ | refine p_s ?_ | refine pw_nil ?_); try simp only [pv])); exact b)) : A := h b
theorem r_p {id : Nat} {l : List Oper} {B : Prop} (b : B) (h : B → PW P l.toArray Q l a w := by exact fun b => p_W b) : (Code.region id l.toArray false).wp P Q a w := rp (h b)
theorem p_V (v : Value) (hr : ∀ w, (execOp a.eval o).run P w = .ok (.value v) w) {B : Prop} (b : B) (hw : Region.wanted o (yielded ops a.tmps) = true := by rfl) (h : B → PW P ops Q rest (a.put o.dst v) w := by exact fun b => p_W b) : PW P ops Q (o :: rest) a w := p_v v hr (h b) hw
theorem p_K {c x y : Operand} (b : Bool) (v : Value) {B : Prop} (bb : B) (hw : Region.wanted o (yielded ops a.tmps) = true := by rfl) (ho : o.op = .pick c x y := by exact rfl) (hc : a.eval c = .bool b := by exact rfl) (hv : a.eval (if b then x else y) = v := by exact rfl) (h : B → PW P ops Q rest (a.put o.dst v) w := by exact fun b => p_W b) : PW P ops Q (o :: rest) a w := p_k b v (h bb) hw ho hc hv
theorem p_D {ty : TypeId} {x : Operand} {g : Nat} (i : Nat) {t : TypeId} {cs : Array Value} (hg : RowR w g cs t) (v : Value) (hc : cs[i]? = some v) (ha : ∀ w, (isAgg ty).run P w = .ok false w) {B : Prop} (b : B) (hw : Region.wanted o (yielded ops a.tmps) = true := by rfl) (ho : o.op = .load ty x := by exact rfl) (hx : a.eval x = .pointer (some ⟨g, i, none⟩) := by exact rfl) (h : B → PW P ops Q rest (a.put o.dst v) w := by exact fun b => p_W b) : PW P ops Q (o :: rest) a w := p_d i hg v hc ha (h b) hw ho hx
theorem p_X {t : TypeId} {x y : Operand} {g off len cap : Nat} (i : Nat) (hi : i < len) {e : TypeId} (hu : P.underlying t = some (.slice e)) {z : Nat} (hz : ∀ w, (sizeOf e).run P w = .ok z w) {B : Prop} (b : B) (hw : Region.wanted o (yielded ops a.tmps) = true := by rfl) (ho : o.op = .indexAddr t x y := by exact rfl) (hx : a.eval x = .slice (some ⟨g, off, none⟩) len cap := by exact rfl) (hy : a.eval y = .int .i64 i := by exact rfl) (h : B → PW P ops Q rest (a.put o.dst (.pointer (some ⟨g, off + i * z, none⟩))) w := by exact fun b => p_W b) : PW P ops Q (o :: rest) a w := p_x i hi hu hz (h b) hw ho hx hy
end
end Go.Proofs.Ytchiiphmpkmloaa
