/- More laws of the walk of a region: loads and stores inside a row, calls that lean on rows, slices that are made, fields, functions that the model carries out in place. -/
import Derived.Test.YtchiiphmpkmloaaQMore
import Derived.Test.YtchiiphmpkmloaaMixLaws
import Derived.Test.YtchiiphmpkmloaaWTimes
import Derived.Deep.MidRow
import Derived.Great.BuildSlice
import Derived.Laws.MakeOwn
namespace Go.Proofs.Ytchiiphmpkmloaa
open Go.RowKit
section
variable {P : Program} {olds : Olds} {p : Nat → Nat} {W : World} {F : Act → Ct → Prop} {n : Nat} {l : List Oper} {pl : List Sp} {a : Act} {ct : Ct} {o : Oper}
theorem exec_extern {fn : Func} {en : Array Value → Sem Value} {w : World}
  (f : FuncId) (args : Array Operand) (ts : Array TypeId) (ho : o.op = .call { callee := .value (.func f), args := args, argTypes := ts })
  (hf : P.funcs[f]? = some fn) (hname : (fn.name == "runtime.NumGoroutine") = false) (hb : fn.body.isNone = true) (hn : Extern.findNext fn = none) (he : Extern.find fn = some en)
  (vs : Array Value) (hv' : args.toList.map a.eval = vs.toList) (v : Value) (hr : (en vs).run P w = .ok v w) : (execOp a.eval o).run P w = .ok (.value v) w := by
 have hv : args.map a.eval = vs := by apply Array.toList_inj.1; rw [Array.toList_map]; exact hv'
 unfold execOp
 have hc := run_callFunc_extern (P := P) hf hname hb hn he vs w
 rw [hr] at hc
 simp only [ho, resolve, hv, Act.eval]
 simp [Deferred.ofValue, invoke, hc]
/-- A row that is only read, whatever of it is frozen. -/
def RowR (w : World) (b : Nat) (c : Array Value) (t : TypeId) : Prop := ∃ fr, w.heap[b]? = some (.cells c t fr)
theorem Row.r {w : World} {b : Nat} {c : Array Value} {t : TypeId} (h : Row w b c t) : RowR w b c t := ⟨_, h⟩
theorem RowR.lt {w : World} {b : Nat} {c : Array Value} {t : TypeId} (h : RowR w b c t) : b < w.heap.size := by
 obtain ⟨fr, h⟩ := h
 exact (Array.getElem?_eq_some_iff.1 h).1
theorem RowR.cell {w : World} {b : Nat} {c : Array Value} {t : TypeId} (h : RowR w b c t) (i : Nat) : w.cell? ⟨b, i, none⟩ = c[i]? := by
 obtain ⟨fr, h⟩ := h
 exact cell_of_row w b i c t fr h
theorem RowR.belowAll {w w' : World} {b : Nat} {c : Array Value} {t : TypeId} (h : RowR w b c t) (hb : Below w.heap.size w w') : RowR w' b c t := by
 have hl := h.lt
 obtain ⟨fr, h⟩ := h
 exact ⟨fr, (hb.block b hl).trans h⟩
theorem Kept.rowR {S : List Nat} {w w' : World} (h : Kept S w w') {b : Nat} {c : Array Value} {t : TypeId} (r : RowR w b c t) (hb : b ∉ S) : RowR w' b c t := by
 have hl := r.lt
 obtain ⟨fr, r⟩ := r
 exact ⟨fr, (h.block b hl hb).trans r⟩
/-- The part of a row from a place on. -/
theorem Kept.trans {S S' : List Nat} {w w1 w2 : World} (h : Kept S w w1) (h' : Kept S' w1 w2) (hs : ∀ g ∈ S', g ∈ S ∨ w.heap.size ≤ g) : Kept S w w2 :=
 ⟨h'.os.trans h.os, h'.tape.trans h.tape, h'.output.trans h.output, Nat.le_trans h.size h'.size, fun b hb hn => (h'.block b (Nat.lt_of_lt_of_le hb h.size) fun hm => by
  rcases hs b hm with h1 | h1
  ·exact hn h1
  ·omega).trans (h.block b hb hn)⟩
theorem Kept.refl (S : List Nat) (w : World) : Kept S w w := ⟨rfl, rfl, rfl, Nat.le_refl _, fun _ _ _ => rfl⟩
theorem range_of_row {w : World} {g off : Nat} {cs : Array Value} {t : TypeId} (h : RowR w g cs t) (sub : List Value) (hs : ∀ j v, sub[j]? = some v → cs[off + j]? = some v) : w.rangeAt g off sub :=
 fun j v hv => (h.cell (off + j)).trans (hs j v hv)
theorem run_load_mid {w : World} {ρ : Operand → Value} (ty : TypeId) (x : Operand) (ho : o.op = .load ty x) (g off : Nat) (hx : ρ x = .pointer (some ⟨g, off, none⟩)) {t : TypeId} {cs : Array Value} (hg : RowR w g cs t)
  (sub : Array Value) (hs : ∀ j v, sub.toList[j]? = some v → cs[off + j]? = some v) (d : TypeDesc) (hu : P.underlying ty = some d) (hd : d.isRow = true) (hi : (P.info? ty).map (·.size) = some sub.size) :
  (execOp ρ o).run P w = .ok (.value (.agg sub)) w := by
 unfold execOp
 simp only [ho, hx, Instr.loadAt, Instr.sureAddr, Sem.run_bind, Sem.run_pure, Result.andThen_ok, run_loadVar_mid w g off ty sub.toList d (range_of_row hg sub.toList hs) hu hd (by rw [Array.length_toList]; exact hi)]
theorem mx_loadm (ty : TypeId) (x : Operand) (ho : o.op = .load ty x) (g off : Nat) (hx : a.eval x = .pointer (some ⟨g, off, none⟩)) {t : TypeId} {cs : Array Value} (hg : Row W g cs t) (hS : g ∉ olds.map (·.1))
  (sub : Array Value) (hs : ∀ j v, sub.toList[j]? = some v → cs[off + j]? = some v) (d : TypeDesc) (hu : P.underlying ty = some d) (hd : d.isRow = true) (hi : (P.info? ty).map (·.size) = some sub.size)
  (h : MX P olds p W F (n + 1) l pl (a.put o.dst (.agg sub)) ct) : MX P olds p W F n (o :: l) ((fun _ => .agg sub, [], none, []) :: pl) a ct := by
 exact mx_value (.agg sub) [] (fun w hk _ => run_load_mid ty x ho g off hx (hk.row hg hS).r sub hs d hu hd hi) h
theorem mx_loadmR (ty : TypeId) (x : Operand) (ho : o.op = .load ty x) (g off : Nat) (hx : a.eval x = .pointer (some ⟨g, off, none⟩)) {t : TypeId} {cs : Array Value} (hg : RowR W g cs t) (hS : g ∉ olds.map (·.1))
  (sub : Array Value) (hs : ∀ j v, sub.toList[j]? = some v → cs[off + j]? = some v) (d : TypeDesc) (hu : P.underlying ty = some d) (hd : d.isRow = true) (hi : (P.info? ty).map (·.size) = some sub.size)
  (h : MX P olds p W F (n + 1) l pl (a.put o.dst (.agg sub)) ct) : MX P olds p W F n (o :: l) ((fun _ => .agg sub, [], none, []) :: pl) a ct := by
 exact mx_value (.agg sub) [] (fun w hk _ => run_load_mid ty x ho g off hx (hk.rowR hg hS) sub hs d hu hd hi) h
theorem mx_loadmT (k : Nat) (ty : TypeId) (x : Operand) (ho : o.op = .load ty x) (off : Nat) {t : TypeId} {cs : Array Value} (hct : ct k = some (t, cs)) (hx : a.eval x = .pointer (some ⟨addrOf olds p k, off, none⟩))
  (sub : Array Value) (hs : ∀ j v, sub.toList[j]? = some v → cs[off + j]? = some v) (d : TypeDesc) (hu : P.underlying ty = some d) (hd : d.isRow = true) (hi : (P.info? ty).map (·.size) = some sub.size)
  (h : MX P olds p W F (n + 1) l pl (a.put o.dst (.agg sub)) ct) : MX P olds p W F n (o :: l) ((fun _ => .agg sub, [k], none, []) :: pl) a ct := by
 exact mx_value (.agg sub) [k] (fun w _ hrw => run_load_mid ty x ho _ off hx (hrw k (List.mem_singleton.2 rfl) _ hct).r sub hs d hu hd hi) h
/-- A call whose contract leans on rows that stand. -/
theorem mx_callK {fn : Func} (f : FuncId) (args : Array Operand) (ts : Array TypeId)
  (ho : o.op = .call { callee := .value (.func f), args := args, argTypes := ts }) (hf : P.funcs[f]? = some fn) (hb : (fn.name == "runtime.NumGoroutine" || fn.body.isNone) = false)
  (vs : Array Value) (hv' : args.toList.map a.eval = vs.toList) (v : Value)
  (hc : ∀ w, Kept (olds.map (·.1)) W w → Calls P f vs w fun e w' => e = .returned v ∧ Below w.heap.size w w')
  (h : MX P olds p W F (n + 1) l pl (a.put o.dst v) ct) : MX P olds p W F n (o :: l) ((fun _ => v, [], none, []) :: pl) a ct := by
 refine mx_enter f vs v [] (fun w => ?_) (fun w hk _ => hc w hk) h
 have hv : args.map a.eval = vs := by apply Array.toList_inj.1; rw [Array.toList_map]; exact hv'
 have hr := run_callFunc_body (P := P) hf hb vs w
 unfold execOp
 simp only [ho, resolve, hv, Act.eval]
 simp [Deferred.ofValue, invoke, hr]
theorem m_k {fn : Func} (f : FuncId) (hf : P.funcs[f]? = some fn) (vs : Array Value) {v : Value} (hc : ∀ w, Kept (olds.map (·.1)) W w → Calls P f vs w fun e w' => e = .returned v ∧ Below w.heap.size w w') (h : MX P olds p W F (n + 1) l pl (a.put o.dst v) ct) {args : Array Operand} {ts : Array TypeId} (ho : o.op = .call { callee := .value (.func f), args := args, argTypes := ts } := by exact rfl) (hb : (fn.name == "runtime.NumGoroutine" || fn.body.isNone) = false := by kernel_rfl) (hv' : args.toList.map a.eval = vs.toList := by exact rfl) : MX P olds p W F n (o :: l) ((fun _ => v, [], none, []) :: pl) a ct := mx_callK f args ts ho hf hb vs hv' v hc h
theorem m_K {fn : Func} (f : FuncId) (hf : P.funcs[f]? = some fn) (vs : Array Value) {v : Value} (hc : ∀ w, Kept (olds.map (·.1)) W w → Calls P f vs w fun e w' => e = .returned v ∧ Below w.heap.size w w') {B : Prop} (b : B) {args : Array Operand} {ts : Array TypeId} (ho : o.op = .call { callee := .value (.func f), args := args, argTypes := ts } := by exact rfl) (hb : (fn.name == "runtime.NumGoroutine" || fn.body.isNone) = false := by kernel_rfl) (hv' : args.toList.map a.eval = vs.toList := by exact rfl) (h : B → MX P olds p W F (n + 1) l pl (a.put o.dst v) ct := by exact fun b => m_W b) : MX P olds p W F n (o :: l) ((fun _ => v, [], none, []) :: pl) a ct := m_k f hf vs hc (h b) ho hb hv'
/-- A row with others cells from a place on. -/
def putAt (cs : Array Value) (off : Nat) (sub : Array Value) : Array Value := sub.toList.zipIdx.foldl (fun c x => c.setIfInBounds (off + x.2) x.1) cs
theorem putAt_size (cs : Array Value) (off : Nat) (sub : Array Value) : (putAt cs off sub).size = cs.size := by
 unfold putAt
 generalize sub.toList.zipIdx = l
 induction l generalizing cs with
 | nil => rfl
 | cons x l ih => rw [List.foldl_cons, ih, Array.size_setIfInBounds]
theorem exec_nil {ρ : Operand → Value} (x : Operand) (ho : o.op = .nilCheck x) (g off : Nat) (hx : ρ x = .pointer (some ⟨g, off, none⟩)) (w : World) : (execOp ρ o).run P w = .ok (.value (.pointer (some ⟨g, off, none⟩))) w := by
 unfold execOp
 simp only [ho, hx]
 rfl
theorem exec_field {ρ : Operand → Value} (s : TypeId) (x : Operand) (fi : Nat) (ho : o.op = .fieldAddr s x fi) (g off : Nat) (hx : ρ x = .pointer (some ⟨g, off, none⟩)) (fs : Array Field) (hu : P.underlying s = some (.struct fs)) (f : Field) (hf : fs[fi]? = some f)
  (z : Nat) (hz : ∀ w, (sizeOf f.type).run P w = .ok (z + 1) w) (w : World) : (execOp ρ o).run P w = .ok (.value (.pointer (some ⟨g, off + f.offset, none⟩))) w := by
 unfold execOp
 simp only [ho, hx, Instr.fieldAt, Sem.run_bind, run_underlying hu, Result.andThen_ok, hf, Instr.sureAddr, Sem.run_pure, fieldPlace, hz]
 simp [Addr.add_mid]
/-- A slice literal. -/
theorem mx_lits (t e : TypeId) (len : Nat) (parts : Array (Nat × Operand)) (ho : o.op = .buildSlice t len parts) (cells : Array Value) (ie : TypeInfo) (z : Value)
  (hu : P.underlying t = some (.slice e)) (hie : P.info? e = some ie) (hz : ie.zero = some z) (hsmall : ¬ len * ie.size > 2 ^ 24) (hpos : ¬ len * ie.size = 0)
  (hf : Instr.fill (fun i => some (i * ie.size, ie.size)) ((Array.range (len * ie.size)).map (z.cells[· % z.cells.size]!)) (parts.map fun (i, x) => (i, a.eval x)).toList = some cells)
  (h : MX P olds p W F (n + 1) l pl (a.put o.dst (.slice (some ⟨p n, 0, none⟩) len len)) (ctSet ct (2 * n + 1) (e, cells))) :
  MX P olds p W F n (o :: l) ((fun q => .slice (some ⟨q n, 0, none⟩) len len, [], some (e, cells), []) :: pl) a ct :=
 mx_made (fun g => .slice (some ⟨g, 0, none⟩) len len) e cells (fun w => by
  unfold execOp
  simp only [ho, Sem.run_bind, run_buildSlice w t e len _ cells ie z hu hie hz hsmall hpos hf, Result.andThen_ok]
  rfl) h
/-- A slice that is made. -/
theorem mx_make (t e : TypeId) (x y : Operand) (ho : o.op = .makeSlice t x y) (i : TypeInfo) (z : Value) (ht : P.underlying t = some (.slice e)) (hi : P.info? e = some i) (hz : i.zero = some z) (m : Nat) (hx : a.eval x = .int .i64 m) (hy : a.eval y = .int .i64 m)
  (hcells : m * i.size ≤ 16777216) (hbytes : i.bytes * m ≤ 281474976710656) (h63 : m ≤ 9223372036854775807)
  (h : MX P olds p W F (n + 1) l pl (a.put o.dst (.slice (some ⟨p n, 0, none⟩) m m)) (ctSet ct (2 * n + 1) (e, madeCells z.cells (m * i.size)))) :
  MX P olds p W F n (o :: l) ((fun q => .slice (some ⟨q n, 0, none⟩) m m, [], some (e, madeCells z.cells (m * i.size)), []) :: pl) a ct :=
 mx_made (fun g => .slice (some ⟨g, 0, none⟩) m m) e _ (fun w => by
  have hb' : (i.bytes : Int) * (m : Int) ≤ 281474976710656 := by rw [← Int.natCast_mul]; omega
  have hr := run_makeSlice (P := P) w t e i z ht hi hz .i64 .i64 (m : Int) (m : Int) (by omega) (by omega) (by rw [Int.toNat_natCast]; exact hcells) hb' (by omega)
  rw [Int.toNat_natCast] at hr
  unfold execOp
  simp only [ho, hx, hy, Sem.run_bind, hr, Result.andThen_ok]
  rfl) h
end
section
variable {P : Program} {ops : Array Oper} {W : World} {Q : Act → Prop} {rest : List Oper} {o : Oper} {a : Act}
theorem qw_loadm (hw : Region.wanted o (yielded ops a.tmps) = true) (ty : TypeId) (x : Operand) (ho : o.op = .load ty x) (g off : Nat) (hx : a.eval x = .pointer (some ⟨g, off, none⟩)) {t : TypeId} {cs : Array Value} (hg : Row W g cs t)
  (sub : Array Value) (hs : ∀ j v, sub.toList[j]? = some v → cs[off + j]? = some v) (d : TypeDesc) (hu : P.underlying ty = some d) (hd : d.isRow = true) (hi : (P.info? ty).map (·.size) = some sub.size)
  (h : QW P ops W Q rest (a.put o.dst (.agg sub))) : QW P ops W Q (o :: rest) a := by
 refine ⟨?_⟩
 unfold wpQuiet
 rw [if_pos hw]
 refine ⟨.agg sub, fun w hC => ?_, h.out⟩
 unfold Oper.quietAt
 rw [run_load_mid ty x ho g off hx (hg.belowAll hC).r sub hs d hu hd hi]
 exact ⟨rfl, rfl⟩
theorem qw_loadc (hw : Region.wanted o (yielded ops a.tmps) = true) (ty : TypeId) (x : Operand) (ho : o.op = .load ty x) (g i : Nat) (hx : a.eval x = .pointer (some ⟨g, i, none⟩)) {t : TypeId} {cs : Array Value} (hg : Row W g cs t) (v : Value) (hc : cs[i]? = some v)
  (ha : ∀ w, (isAgg ty).run P w = .ok false w) (h : QW P ops W Q rest (a.put o.dst v)) : QW P ops W Q (o :: rest) a := by
 refine ⟨?_⟩
 unfold wpQuiet
 rw [if_pos hw]
 refine ⟨v, fun w hC => ?_, h.out⟩
 have hr : (execOp a.eval o).run P w = .ok (.value v) w := by
  unfold execOp
  simp only [ho, hx, Instr.loadAt, Instr.sureAddr, Sem.run_bind, Sem.run_pure, Result.andThen_ok, run_load_cell w g i ty v ha (((hg.belowAll hC).cell i).trans hc)]
 unfold Oper.quietAt
 rw [hr]
 exact ⟨rfl, rfl⟩
theorem qw_callK {fn : Func} (hw : Region.wanted o (yielded ops a.tmps) = true) (f : FuncId) (args : Array Operand) (ts : Array TypeId)
  (ho : o.op = .call { callee := .value (.func f), args := args, argTypes := ts }) (hf : P.funcs[f]? = some fn) (hb : (fn.name == "runtime.NumGoroutine" || fn.body.isNone) = false)
  (vs : Array Value) (hv' : args.toList.map a.eval = vs.toList) (v : Value)
  (hc : ∀ w, Below W.heap.size W w → Calls P f vs w fun e w' => e = .returned v ∧ Below w.heap.size w w')
  (h : QW P ops W Q rest (a.put o.dst v)) : QW P ops W Q (o :: rest) a := by
 refine ⟨?_⟩
 unfold wpQuiet
 rw [if_pos hw]
 refine ⟨v, fun w hC => ?_, h.out⟩
 have hv : args.map a.eval = vs := by apply Array.toList_inj.1; rw [Array.toList_map]; exact hv'
 have hr := run_callFunc_body (P := P) hf hb vs w
 have hd : (execOp a.eval o).run P w = .ok (.enter f vs) w := by
  unfold execOp
  simp only [ho, resolve, hv, Act.eval]
  simp [Deferred.ofValue, invoke, hr]
 unfold Oper.quietAt
 rw [hd]
 exact ⟨rfl, (hc w hC).mono fun e w' ⟨he, hb'⟩ => ⟨he, below_on hC (Nat.le_refl _) hb'⟩⟩
theorem q_k {fn : Func} (f : FuncId) (hf : P.funcs[f]? = some fn) (vs : Array Value) {v : Value} (hc : ∀ w, Below W.heap.size W w → Calls P f vs w fun e w' => e = .returned v ∧ Below w.heap.size w w') (h : QW P ops W Q rest (a.put o.dst v)) {args : Array Operand} {ts : Array TypeId} (hw : Region.wanted o (yielded ops a.tmps) = true := by rfl) (ho : o.op = .call { callee := .value (.func f), args := args, argTypes := ts } := by exact rfl) (hb : (fn.name == "runtime.NumGoroutine" || fn.body.isNone) = false := by kernel_rfl) (hv' : args.toList.map a.eval = vs.toList := by exact rfl) : QW P ops W Q (o :: rest) a := qw_callK hw f args ts ho hf hb vs hv' v hc h
end
end Go.Proofs.Ytchiiphmpkmloaa
