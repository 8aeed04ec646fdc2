/- Laws of my own on whole rows in a walk, over any program: a new row, a box, an empty literal; 'Below' behind a whole row's store. -/
import Derived.WalkKit
import Derived.WalkSpells
import Derived.Deep.WholeRow
import Derived.Deep.LoopGhost
import Derived.Deep.QuietTactic
import Derived.BigQuiet
import Derived.Test.YtchiiphmpkmloaaPutA
namespace Go.Proofs.Ytchiiphmpkmloaa
open Go.RowKit
/-- A value is handed back, and what was there stays. -/
abbrev Rt (v : Value) (w : World) : Ending → World → Prop := fun e w' => e = .returned v ∧ Below w.heap.size w w'
section
variable {P : Program}
theorem wpList_alloc_row {ops : Array Oper} {rest : List Oper} {o : Oper} {a : Act} {w : World} {Q : Exit → Act → World → Prop} (hgd : o.guard = none) (t : TypeId) (ho : o.op = .alloc t)
  (c : Array Value) (hz : ∀ w, (zeroValue t).run P w = .ok (.agg c) w)
  (h : wpList P ops Q rest (a.put o.dst (.pointer (some ⟨w.heap.size, 0, none⟩))) (w.alloc (.cells c t))) : wpList P ops Q (o :: rest) a w :=
 wpList_plain hgd fun _ hK => by
  unfold Oper.wp execOp
  simp only [ho, Instr.alloc, Sem.run_bind, hz, Result.andThen_ok, newVar, newRow]
  exact hK _ _ h
theorem wpList_box_row {ops : Array Oper} {rest : List Oper} {o : Oper} {a : Act} {w : World} {Q : Exit → Act → World → Prop} (hgd : o.guard = none) (t : TypeId) (x : Operand) (ho : o.op = .box t x)
  (c : Array Value) (hx : a.eval x = .agg c)
  (h : wpList P ops Q rest (a.put o.dst (.pointer (some ⟨w.heap.size, 0, none⟩))) (w.alloc (.cells c t))) : wpList P ops Q (o :: rest) a w :=
 wpList_plain hgd fun _ hK => by
  unfold Oper.wp execOp
  simp only [ho, hx, Instr.box, Sem.run_bind, newVar, newRow]
  exact hK _ _ h
theorem wpList_build_zero {ops : Array Oper} {rest : List Oper} {o : Oper} {a : Act} {w : World} {Q : Exit → Act → World → Prop} (hgd : o.guard = none) (t : TypeId) (ho : o.op = .build t #[])
  (c : Array Value) (hb : P.built t [] = some c)
  (h : wpList P ops Q rest (a.put o.dst (.agg c)) w) : wpList P ops Q (o :: rest) a w :=
 wpList_plain hgd fun _ hK => by
  unfold Oper.wp execOp
  simp only [ho, Sem.run_bind, run_build w t #[] c hb, Array.map_empty, Result.andThen_ok]
  exact hK _ _ h
theorem below_setRow {B : Nat} {a w : World} (h : Below B a w) {g : Nat} (hg : B ≤ g) (cs : Array Value) : Below B a (w.setRow g cs) :=
 h.trans ⟨rfl, rfl, rfl, by simp, fun k hk => setRow_other w g k cs (by omega)⟩
theorem below_setCell {B : Nat} {a w : World} (h : Below B a w) {g : Nat} (hg : B ≤ g) (i : Nat) (v : Value) : Below B a (w.setCell ⟨g, i, none⟩ v) := h.setCell hg v
theorem wpList_store_new {ops : Array Oper} {rest : List Oper} {o : Oper} {a : Act} {w : World} {Q : Exit → Act → World → Prop} (hgd : o.guard = none) (ty : TypeId) (x y : Operand) (ho : o.op = .store ty x y)
  (cells : Array Value) (hx : a.eval x = .pointer (some ⟨w.heap.size, 0, none⟩)) (hy : a.eval y = .agg cells)
  (t : TypeId) (old : Array Value) (hi : (P.info? ty).map (·.size) = some cells.size) (hold : old.size = cells.size) (h1 : cells.all (·.oneCell') = true)
  (h : wpList P ops Q rest (a.put o.dst undef) (w.alloc (.cells cells t))) : wpList P ops Q (o :: rest) a (w.alloc (.cells old t)) :=
 wpList_store_row hgd ty x y ho w.heap.size cells hx hy t old (heap_alloc_new w _) hi hold h1 (by rw [World.setRow_alloc_new]; exact h)
/-- Block b holds the row c, of type t, whole. -/
def Row (w : World) (b : Nat) (c : Array Value) (t : TypeId) : Prop := w.heap[b]? = some (.cells c t (0, 0))
theorem Row.lt {w : World} {b : Nat} {c : Array Value} {t : TypeId} (h : Row w b c t) : b < w.heap.size := (Array.getElem?_eq_some_iff.1 h).1
theorem Row.cell {w : World} {b : Nat} {c : Array Value} {t : TypeId} (h : Row w b c t) (i : Nat) : w.cell? ⟨b, i, none⟩ = c[i]? := cell_of_row w b i c t (0, 0) h
theorem Row.frozen {w : World} {b : Nat} {c : Array Value} {t : TypeId} (h : Row w b c t) (i : Nat) : w.frozen? ⟨b, i, none⟩ = false := frozen_of_row w b i c t h
theorem Row.new (w : World) (c : Array Value) (t : TypeId) : Row (w.alloc (.cells c t)) w.heap.size c t := heap_alloc_new w _
theorem Row.here {w : World} {b : Nat} {c : Array Value} {t : TypeId} (h : b = w.heap.size) : Row (w.alloc (.cells c t)) b c t := h ▸ Row.new w c t
theorem Row.alloc {w : World} {b : Nat} {c : Array Value} {t : TypeId} (h : Row w b c t) (o : Obj) : Row (w.alloc o) b c t := by
 unfold Row; exact (Below.heap_alloc w o b h.lt).trans h
theorem Row.below {w w' : World} {B b : Nat} {c : Array Value} {t : TypeId} (h : Row w b c t) (hb : Below B w w') (hlt : b < B) : Row w' b c t := (hb.block b hlt).trans h
theorem Row.belowAll {w w' : World} {b : Nat} {c : Array Value} {t : TypeId} (h : Row w b c t) (hb : Below w.heap.size w w') : Row w' b c t := h.below hb h.lt
theorem Row.setCell {w : World} {b : Nat} {c : Array Value} {t : TypeId} (h : Row w b c t) (i : Nat) (v : Value) : Row (w.setCell ⟨b, i, none⟩ v) b (c.setIfInBounds i v) t := heap_setCell_same w b i c t v h
theorem Row.setCell_far {w : World} {b : Nat} {c : Array Value} {t : TypeId} (h : Row w b c t) (g i : Nat) (v : Value) (hp : b ≠ g) : Row (w.setCell ⟨g, i, none⟩ v) b c t := (heap_setCell_other w ⟨g, i, none⟩ b v hp).trans h
theorem Row.setRow {w : World} {b : Nat} {c : Array Value} {t : TypeId} (h : Row w b c t) (c' : Array Value) : Row (w.setRow b c') b c' t := setRow_heap w b c c' t _ h
theorem Row.setRow_far {w : World} {b : Nat} {c : Array Value} {t : TypeId} (h : Row w b c t) (g : Nat) (c' : Array Value) (hp : b ≠ g) : Row (w.setRow g c') b c t := (setRow_other w g b c' hp).trans h
theorem Row.drew {w : World} {b : Nat} {c : Array Value} {t : TypeId} (h : Row w b c t) : Row w.drew b c t := h
theorem wpList_loadR {ops : Array Oper} {rest : List Oper} {o : Oper} {a : Act} {w : World} {Q : Exit → Act → World → Prop} (hgd : o.guard = none) (ty : TypeId) (x : Operand) (ho : o.op = .load ty x)
  (g : Nat) (hx : a.eval x = .pointer (some ⟨g, 0, none⟩)) {t : TypeId} {cs : Array Value} (hg : Row w g cs t) (n : Nat) (e : TypeId)
  (hu : P.underlying ty = some (.array n e)) (hi : (P.info? ty).map (·.size) = some cs.size)
  (h : wpList P ops Q rest (a.put o.dst (.agg cs)) w) : wpList P ops Q (o :: rest) a w := wpList_load_row hgd ty x ho g hx t cs (0, 0) _ hg hu rfl hi h
theorem wpList_storeR {ops : Array Oper} {rest : List Oper} {o : Oper} {a : Act} {w : World} {Q : Exit → Act → World → Prop} (hgd : o.guard = none) (ty : TypeId) (x y : Operand) (ho : o.op = .store ty x y)
  (g : Nat) (cells : Array Value) (hx : a.eval x = .pointer (some ⟨g, 0, none⟩)) (hy : a.eval y = .agg cells)
  {t : TypeId} {old : Array Value} (hg : Row w g old t) (hi : (P.info? ty).map (·.size) = some cells.size)
  (hold : old.size = cells.size) (h1 : cells.all (·.oneCell') = true)
  (h : wpList P ops Q rest (a.put o.dst undef) (w.setRow g cells)) : wpList P ops Q (o :: rest) a w := wpList_store_row hgd ty x y ho g cells hx hy t old hg hi hold h1 h
theorem Row.one {w : World} {b : Nat} {c : Array Value} {t : TypeId} {o : Obj} (h : b = w.heap.size) : Row ((w.alloc (.cells c t)).alloc o) b c t := (Row.here h).alloc o
theorem Row.two {w : World} {b : Nat} {c : Array Value} {t : TypeId} {o o' : Obj} (h : b = w.heap.size) : Row (((w.alloc (.cells c t)).alloc o).alloc o') b c t := (Row.one h).alloc o'
theorem below_alloc {w : World} (o : Obj) : Below w.heap.size w (w.alloc o) := (Below.refl _ _).alloc (Nat.le_refl _) _
theorem below_alloc2 {w : World} (o o' : Obj) : Below w.heap.size w ((w.alloc o).alloc o') := (below_alloc o).alloc (by simp) _
theorem below_alloc3 {w : World} (o o' o'' : Obj) : Below w.heap.size w (((w.alloc o).alloc o').alloc o'') := (below_alloc2 o o').alloc (by simp; omega) _
theorem below_on {B : Nat} {a w w' : World} (h : Below B a w) (hB : B ≤ a.heap.size) (k : Below w.heap.size w w') : Below B a w' := h.trans (k.mono (Nat.le_trans hB h.size))
/-- A function's end: one result, a row in memory. -/
theorem ret_row {fn : Func} {R : Ending → World → Prop} {a : Act} {w : World} {p : Tmp} {ty : TypeId} (hf : fn.results = #[.cell p ty]) (g : Nat) (hp : a.tmps.getD p undef = .pointer (some ⟨g, 0, none⟩))
  {t : TypeId} {cs : Array Value} (hr : Row w g cs t) (n : Nat) (e : TypeId) (hu : P.underlying ty = some (.array n e)) (hi : (P.info? ty).map (·.size) = some cs.size) (hd : a.defers = [])
  (h : R (.returned (.agg cs)) w) : bodyPost P fn R .ret a w :=
 bodyPost_ret (results_cell_row hf a.tmps w g t cs (0, 0) _ hp hr hu rfl hi) hd h
/-- A function's end: two results, the first a row in memory. -/
theorem ret_row2 {fn : Func} {R : Ending → World → Prop} {a : Act} {w : World} {p u : Tmp} {ty : TypeId} (hf : fn.results = #[.cell p ty, .tmp u]) (g : Nat) (hp : a.tmps.getD p undef = .pointer (some ⟨g, 0, none⟩))
  {t : TypeId} {cs : Array Value} (hr : Row w g cs t) (n : Nat) (e : TypeId) (hu : P.underlying ty = some (.array n e)) (hi : (P.info? ty).map (·.size) = some cs.size) (hd : a.defers = [])
  (v : Value) (hv : a.tmps.getD u undef = v) (h : R (.returned (.tuple #[.agg cs, v])) w) : bodyPost P fn R .ret a w := by
 refine bodyPost_ret (v := .tuple #[.agg cs, v]) ?_ hd h
 rw [results_cell_tmp hf, hp, hv]
 simp only [asAddr, Sem.run_pure, Result.andThen_ok]
 rw [run_loadVar_row w g t ty cs (0, 0) _ hr hu rfl hi]
 rfl
theorem setCell_size (w : World) (p : Addr) (v : Value) : (w.setCell p v).heap.size = w.heap.size := by simp [World.setCell]
theorem alloc_size (w : World) (o : Obj) : (w.alloc o).heap.size = w.heap.size + 1 := by show (w.heap.push o).size = _; simp
end
end Go.Proofs.Ytchiiphmpkmloaa
