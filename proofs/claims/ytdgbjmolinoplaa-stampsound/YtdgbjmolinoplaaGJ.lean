/- More laws of the walk of a region: loads and stores inside a row, calls that lean on rows, slices that are made, fields, functions that the model carries out in place. -/
import Derived.Test.YtdgbjmolinoplaaGE
import Derived.Test.YtdgbjmolinoplaaGF
import Derived.Deep.MidRow
import Derived.Great.BuildSlice
import Derived.Laws.MakeOwn
namespace Go.Proofs.Ytdgbjmolinoplaa
open Go.RowKit
section
variable {P : Program} {olds : Olds} {p : Nat → Nat} {W : World} {F : Act → Ct → Prop} {n : Nat} {l : List Oper} {pl : List Sp} {a : Act} {ct : Ct} {o : Oper}
theorem exec_extern {fn : Func} {en : Array Value → Sem Value} {w : World}
  (f : FuncId) (args : Array Operand) (ts : Array TypeId) (ho : o.op = .call { callee := .value (.func f), args := args, argTypes := ts })
  (hf : P.funcs[f]? = some fn) (hname : (fn.name == "runtime.NumGoroutine") = false) (hb : fn.body.isNone = true) (hn : Extern.findNext fn = none) (he : Extern.find fn = some en)
  (vs : Array Value) (hv' : args.toList.map a.eval = vs.toList) (v : Value) (hr : (en vs).run P w = .ok v w) : (execOp a.eval o).run P w = .ok (.value v) w := by
 have hv : args.map a.eval = vs := by apply Array.toList_inj.1; rw [Array.toList_map]; exact hv'
 unfold execOp
 have hc := run_callFunc_extern (P := P) hf hname hb hn he vs w
 rw [hr] at hc
 simp only [ho, resolve, hv, Act.eval]
 simp [Deferred.ofValue, invoke, hc]
/-- A row that is only read, whatever of it is frozen. -/
def RowR (w : World) (b : Nat) (c : Array Value) (t : TypeId) : Prop := ∃ fr, w.heap[b]? = some (.cells c t fr)
theorem Row.r {w : World} {b : Nat} {c : Array Value} {t : TypeId} (h : Row w b c t) : RowR w b c t := ⟨_, h⟩
theorem RowR.lt {w : World} {b : Nat} {c : Array Value} {t : TypeId} (h : RowR w b c t) : b < w.heap.size := by
 obtain ⟨fr, h⟩ := h
 exact (Array.getElem?_eq_some_iff.1 h).1
theorem RowR.cell {w : World} {b : Nat} {c : Array Value} {t : TypeId} (h : RowR w b c t) (i : Nat) : w.cell? ⟨b, i, none⟩ = c[i]? := by
 obtain ⟨fr, h⟩ := h
 exact cell_of_row w b i c t fr h
theorem RowR.belowAll {w w' : World} {b : Nat} {c : Array Value} {t : TypeId} (h : RowR w b c t) (hb : Below w.heap.size w w') : RowR w' b c t := by
 have hl := h.lt
 obtain ⟨fr, h⟩ := h
 exact ⟨fr, (hb.block b hl).trans h⟩
theorem Kept.rowR {S : List Nat} {w w' : World} (h : Kept S w w') {b : Nat} {c : Array Value} {t : TypeId} (r : RowR w b c t) (hb : b ∉ S) : RowR w' b c t := by
 have hl := r.lt
 obtain ⟨fr, r⟩ := r
 exact ⟨fr, (h.block b hl hb).trans r⟩
/-- The part of a row from a place on. -/
theorem Kept.trans {S S' : List Nat} {w w1 w2 : World} (h : Kept S w w1) (h' : Kept S' w1 w2) (hs : ∀ g ∈ S', g ∈ S ∨ w.heap.size ≤ g) : Kept S w w2 :=
 ⟨h'.os.trans h.os, h'.tape.trans h.tape, h'.output.trans h.output, Nat.le_trans h.size h'.size, fun b hb hn => (h'.block b (Nat.lt_of_lt_of_le hb h.size) fun hm => by
  rcases hs b hm with h1 | h1
  ·exact hn h1
  ·omega).trans (h.block b hb hn)⟩
theorem Kept.refl (S : List Nat) (w : World) : Kept S w w := ⟨rfl, rfl, rfl, Nat.le_refl _, fun _ _ _ => rfl⟩
theorem range_of_row {w : World} {g off : Nat} {cs : Array Value} {t : TypeId} (h : RowR w g cs t) (sub : List Value) (hs : ∀ j v, sub[j]? = some v → cs[off + j]? = some v) : w.rangeAt g off sub :=
 fun j v hv => (h.cell (off + j)).trans (hs j v hv)
theorem run_load_mid {w : World} {ρ : Operand → Value} (ty : TypeId) (x : Operand) (ho : o.op = .load ty x) (g off : Nat) (hx : ρ x = .pointer (some ⟨g, off, none⟩)) {t : TypeId} {cs : Array Value} (hg : RowR w g cs t)
  (sub : Array Value) (hs : ∀ j v, sub.toList[j]? = some v → cs[off + j]? = some v) (d : TypeDesc) (hu : P.underlying ty = some d) (hd : d.isRow = true) (hi : (P.info? ty).map (·.size) = some sub.size) :
  (execOp ρ o).run P w = .ok (.value (.agg sub)) w := by
 unfold execOp
 simp only [ho, hx, Instr.loadAt, Instr.sureAddr, Sem.run_bind, Sem.run_pure, Result.andThen_ok, run_loadVar_mid w g off ty sub.toList d (range_of_row hg sub.toList hs) hu hd (by rw [Array.length_toList]; exact hi)]
theorem mx_loadm (ty : TypeId) (x : Operand) (ho : o.op = .load ty x) (g off : Nat) (hx : a.eval x = .pointer (some ⟨g, off, none⟩)) {t : TypeId} {cs : Array Value} (hg : Row W g cs t) (hS : g ∉ olds.map (·.1))
  (sub : Array Value) (hs : ∀ j v, sub.toList[j]? = some v → cs[off + j]? = some v) (d : TypeDesc) (hu : P.underlying ty = some d) (hd : d.isRow = true) (hi : (P.info? ty).map (·.size) = some sub.size)
  (h : MX P olds p W F (n + 1) l pl (a.put o.dst (.agg sub)) ct) : MX P olds p W F n (o :: l) ((fun _ => .agg sub, [], none, []) :: pl) a ct := by
 exact mx_value (.agg sub) [] (fun w hk _ => run_load_mid ty x ho g off hx (hk.row hg hS).r sub hs d hu hd hi) h
theorem mx_loadmR (ty : TypeId) (x : Operand) (ho : o.op = .load ty x) (g off : Nat) (hx : a.eval x = .pointer (some ⟨g, off, none⟩)) {t : TypeId} {cs : Array Value} (hg : RowR W g cs t) (hS : g ∉ olds.map (·.1))
  (sub : Array Value) (hs : ∀ j v, sub.toList[j]? = some v → cs[off + j]? = some v) (d : TypeDesc) (hu : P.underlying ty = some d) (hd : d.isRow = true) (hi : (P.info? ty).map (·.size) = some sub.size)
  (h : MX P olds p W F (n + 1) l pl (a.put o.dst (.agg sub)) ct) : MX P olds p W F n (o :: l) ((fun _ => .agg sub, [], none, []) :: pl) a ct := by
 exact mx_value (.agg sub) [] (fun w hk _ => run_load_mid ty x ho g off hx (hk.rowR hg hS) sub hs d hu hd hi) h
theorem mx_loadmT (k : Nat) (ty : TypeId) (x : Operand) (ho : o.op = .load ty x) (off : Nat) {t : TypeId} {cs : Array Value} (hct : ct k = some (t, cs)) (hx : a.eval x = .pointer (some ⟨addrOf olds p k, off, none⟩))
  (sub : Array Value) (hs : ∀ j v, sub.toList[j]? = some v → cs[off + j]? = some v) (d : TypeDesc) (hu : P.underlying ty = some d) (hd : d.isRow = true) (hi : (P.info? ty).map (·.size) = some sub.size)
  (h : MX P olds p W F (n + 1) l pl (a.put o.dst (.agg sub)) ct) : MX P olds p W F n (o :: l) ((fun _ => .agg sub, [k], none, []) :: pl) a ct := by
 exact mx_value (.agg sub) [k] (fun w _ hrw => run_load_mid ty x ho _ off hx (hrw k (List.mem_singleton.2 rfl) _ hct).r sub hs d hu hd hi) h
/-- A call whose contract leans on rows that stand. -/
theorem mx_callK {fn : Func} (f : FuncId) (args : Array Operand) (ts : Array TypeId)
  (ho : o.op = .call { callee := .value (.func f), args := args, argTypes := ts }) (hf : P.funcs[f]? = some fn) (hb : (fn.name == "runtime.NumGoroutine" || fn.body.isNone) = false)
  (vs : Array Value) (hv' : args.toList.map a.eval = vs.toList) (v : Value)
  (hc : ∀ w, Kept (olds.map (·.1)) W w → Calls P f vs w fun e w' => e = .returned v ∧ Below w.heap.size w w')
  (h : MX P olds p W F (n + 1) l pl (a.put o.dst v) ct) : MX P olds p W F n (o :: l) ((fun _ => v, [], none, []) :: pl) a ct := by
 refine mx_enter f vs v [] (fun w => ?_) (fun w hk _ => hc w hk) h
 have hv : args.map a.eval = vs := by apply Array.toList_inj.1; rw [Array.toList_map]; exact hv'
 have hr := run_callFunc_body (P := P) hf hb vs w
 unfold execOp
 simp only [ho, resolve, hv, Act.eval]
 simp [Deferred.ofValue, invoke, hr]
theorem m_k {fn : Func} (f : FuncId) (hf : P.funcs[f]? = some fn) (vs : Array Value) {v : Value} (hc : ∀ w, Kept (olds.map (·.1)) W w → Calls P f vs w fun e w' => e = .returned v ∧ Below w.heap.size w w') (h : MX P olds p W F (n + 1) l pl (a.put o.dst v) ct) {args : Array Operand} {ts : Array TypeId} (ho : o.op = .call { callee := .value (.func f), args := args, argTypes := ts } := by exact rfl) (hb : (fn.name == "runtime.NumGoroutine" || fn.body.isNone) = false := by kernel_rfl) (hv' : args.toList.map a.eval = vs.toList := by exact rfl) : MX P olds p W F n (o :: l) ((fun _ => v, [], none, []) :: pl) a ct := mx_callK f args ts ho hf hb vs hv' v hc h
theorem m_K {fn : Func} (f : FuncId) (hf : P.funcs[f]? = some fn) (vs : Array Value) {v : Value} (hc : ∀ w, Kept (olds.map (·.1)) W w → Calls P f vs w fun e w' => e = .returned v ∧ Below w.heap.size w w') {B : Prop} (b : B) {args : Array Operand} {ts : Array TypeId} (ho : o.op = .call { callee := .value (.func f), args := args, argTypes := ts } := by exact rfl) (hb : (fn.name == "runtime.NumGoroutine" || fn.body.isNone) = false := by kernel_rfl) (hv' : args.toList.map a.eval = vs.toList := by exact rfl) (h : B → MX P olds p W F (n + 1) l pl (a.put o.dst v) ct := by exact fun b => m_W b) : MX P olds p W F n (o :: l) ((fun _ => v, [], none, []) :: pl) a ct := m_k f hf vs hc (h b) ho hb hv'
/-- A row with others cells from a place on. -/
def putAt (cs : Array Value) (off : Nat) (sub : Array Value) : Array Value := sub.toList.zipIdx.foldl (fun c x => c.setIfInBounds (off + x.2) x.1) cs
theorem putAt_size (cs : Array Value) (off : Nat) (sub : Array Value) : (putAt cs off sub).size = cs.size := by
 unfold putAt
 generalize sub.toList.zipIdx = l
 induction l generalizing cs with
 | nil => rfl
 | cons x l ih => rw [List.foldl_cons, ih, Array.size_setIfInBounds]
theorem exec_nil {ρ : Operand → Value} (x : Operand) (ho : o.op = .nilCheck x) (g off : Nat) (hx : ρ x = .pointer (some ⟨g, off, none⟩)) (w : World) : (execOp ρ o).run P w = .ok (.value (.pointer (some ⟨g, off, none⟩))) w := by
 unfold execOp
 simp only [ho, hx]
 rfl
theorem exec_field {ρ : Operand → Value} (s : TypeId) (x : Operand) (fi : Nat) (ho : o.op = .fieldAddr s x fi) (g off : Nat) (hx : ρ x = .pointer (some ⟨g, off, none⟩)) (fs : Array Field) (hu : P.underlying s = some (.struct fs)) (f : Field) (hf : fs[fi]? = some f)
  (z : Nat) (hz : ∀ w, (sizeOf f.type).run P w = .ok (z + 1) w) (w : World) : (execOp ρ o).run P w = .ok (.value (.pointer (some ⟨g, off + f.offset, none⟩))) w := by
 unfold execOp
 simp only [ho, hx, Instr.fieldAt, Sem.run_bind, run_underlying hu, Result.andThen_ok, hf, Instr.sureAddr, Sem.run_pure, fieldPlace, hz]
 simp [Addr.add_mid]
/-- A slice literal. -/
theorem mx_lits (t e : TypeId) (len : Nat) (parts : Array (Nat × Operand)) (ho : o.op = .buildSlice t len parts) (cells : Array Value) (ie : TypeInfo) (z : Value)
  (hu : P.underlying t = some (.slice e)) (hie : P.info? e = some ie) (hz : ie.zero = some z) (hsmall : ¬ len * ie.size > 2 ^ 24) (hpos : ¬ len * ie.size = 0)
  (hf : Instr.fill (fun i => some (i * ie.size, ie.size)) ((Array.range (len * ie.size)).map (z.cells[· % z.cells.size]!)) (parts.map fun (i, x) => (i, a.eval x)).toList = some cells)
  (h : MX P olds p W F (n + 1) l pl (a.put o.dst (.slice (some ⟨p n, 0, none⟩) len len)) (ctSet ct (2 * n + 1) (e, cells))) :
  MX P olds p W F n (o :: l) ((fun q => .slice (some ⟨q n, 0, none⟩) len len, [], some (e, cells), []) :: pl) a ct :=
 mx_made (fun g => .slice (some ⟨g, 0, none⟩) len len) e cells (fun w => by
  unfold execOp
  simp only [ho, Sem.run_bind, run_buildSlice w t e len _ cells ie z hu hie hz hsmall hpos hf, Result.andThen_ok]
  rfl) h
/-- A slice that is made. -/
theorem mx_make (t e : TypeId) (x y : Operand) (ho : o.op = .makeSlice t x y) (i : TypeInfo) (z : Value) (ht : P.underlying t = some (.slice e)) (hi : P.info? e = some i) (hz : i.zero = some z) (m : Nat) (hx : a.eval x = .int .i64 m) (hy : a.eval y = .int .i64 m)
  (hcells : m * i.size ≤ 16777216) (hbytes : i.bytes * m ≤ 281474976710656) (h63 : m ≤ 9223372036854775807)
  (h : MX P olds p W F (n + 1) l pl (a.put o.dst (.slice (some ⟨p n, 0, none⟩) m m)) (ctSet ct (2 * n + 1) (e, madeCells z.cells (m * i.size)))) :
  MX P olds p W F n (o :: l) ((fun q => .slice (some ⟨q n, 0, none⟩) m m, [], some (e, madeCells z.cells (m * i.size)), []) :: pl) a ct :=
 mx_made (fun g => .slice (some ⟨g, 0, none⟩) m m) e _ (fun w => by
  have hb' : (i.bytes : Int) * (m : Int) ≤ 281474976710656 := by rw [← Int.natCast_mul]; omega
  have hr := run_makeSlice (P := P) w t e i z ht hi hz .i64 .i64 (m : Int) (m : Int) (by omega) (by omega) (by rw [Int.toNat_natCast]; exact hcells) hb' (by omega)
  rw [Int.toNat_natCast] at hr
  unfold execOp
  simp only [ho, hx, hy, Sem.run_bind, hr, Result.andThen_ok]
  rfl) h
end
section
variable {P : Program} {ops : Array Oper} {W : World} {Q : Act → Prop} {rest : List Oper} {o : Oper} {a : Act}
theorem qw_loadm (hw : Region.wanted o (yielded ops a.tmps) = true) (ty : TypeId) (x : Operand) (ho : o.op = .load ty x) (g off : Nat) (hx : a.eval x = .pointer (some ⟨g, off, none⟩)) {t : TypeId} {cs : Array Value} (hg : Row W g cs t)
  (sub : Array Value) (hs : ∀ j v, sub.toList[j]? = some v → cs[off + j]? = some v) (d : TypeDesc) (hu : P.underlying ty = some d) (hd : d.isRow = true) (hi : (P.info? ty).map (·.size) = some sub.size)
  (h : QW P ops W Q rest (a.put o.dst (.agg sub))) : QW P ops W Q (o :: rest) a := by
 refine ⟨?_⟩
 unfold wpQuiet
 rw [if_pos hw]
 refine ⟨.agg sub, fun w hC => ?_, h.out⟩
 unfold Oper.quietAt
 rw [run_load_mid ty x ho g off hx (hg.belowAll hC).r sub hs d hu hd hi]
 exact ⟨rfl, rfl⟩
theorem qw_loadc (hw : Region.wanted o (yielded ops a.tmps) = true) (ty : TypeId) (x : Operand) (ho : o.op = .load ty x) (g i : Nat) (hx : a.eval x = .pointer (some ⟨g, i, none⟩)) {t : TypeId} {cs : Array Value} (hg : Row W g cs t) (v : Value) (hc : cs[i]? = some v)
  (ha : ∀ w, (isAgg ty).run P w = .ok false w) (h : QW P ops W Q rest (a.put o.dst v)) : QW P ops W Q (o :: rest) a := by
 refine ⟨?_⟩
 unfold wpQuiet
 rw [if_pos hw]
 refine ⟨v, fun w hC => ?_, h.out⟩
 have hr : (execOp a.eval o).run P w = .ok (.value v) w := by
  unfold execOp
  simp only [ho, hx, Instr.loadAt, Instr.sureAddr, Sem.run_bind, Sem.run_pure, Result.andThen_ok, run_load_cell w g i ty v ha (((hg.belowAll hC).cell i).trans hc)]
 unfold Oper.quietAt
 rw [hr]
 exact ⟨rfl, rfl⟩
theorem qw_callK {fn : Func} (hw : Region.wanted o (yielded ops a.tmps) = true) (f : FuncId) (args : Array Operand) (ts : Array TypeId)
  (ho : o.op = .call { callee := .value (.func f), args := args, argTypes := ts }) (hf : P.funcs[f]? = some fn) (hb : (fn.name == "runtime.NumGoroutine" || fn.body.isNone) = false)
  (vs : Array Value) (hv' : args.toList.map a.eval = vs.toList) (v : Value)
  (hc : ∀ w, Below W.heap.size W w → Calls P f vs w fun e w' => e = .returned v ∧ Below w.heap.size w w')
  (h : QW P ops W Q rest (a.put o.dst v)) : QW P ops W Q (o :: rest) a := by
 refine ⟨?_⟩
 unfold wpQuiet
 rw [if_pos hw]
 refine ⟨v, fun w hC => ?_, h.out⟩
 have hv : args.map a.eval = vs := by apply Array.toList_inj.1; rw [Array.toList_map]; exact hv'
 have hr := run_callFunc_body (P := P) hf hb vs w
 have hd : (execOp a.eval o).run P w = .ok (.enter f vs) w := by
  unfold execOp
  simp only [ho, resolve, hv, Act.eval]
  simp [Deferred.ofValue, invoke, hr]
 unfold Oper.quietAt
 rw [hd]
 exact ⟨rfl, (hc w hC).mono fun e w' ⟨he, hb'⟩ => ⟨he, below_on hC (Nat.le_refl _) hb'⟩⟩
theorem q_k {fn : Func} (f : FuncId) (hf : P.funcs[f]? = some fn) (vs : Array Value) {v : Value} (hc : ∀ w, Below W.heap.size W w → Calls P f vs w fun e w' => e = .returned v ∧ Below w.heap.size w w') (h : QW P ops W Q rest (a.put o.dst v)) {args : Array Operand} {ts : Array TypeId} (hw : Region.wanted o (yielded ops a.tmps) = true := by rfl) (ho : o.op = .call { callee := .value (.func f), args := args, argTypes := ts } := by exact rfl) (hb : (fn.name == "runtime.NumGoroutine" || fn.body.isNone) = false := by kernel_rfl) (hv' : args.toList.map a.eval = vs.toList := by exact rfl) : QW P ops W Q (o :: rest) a := qw_callK hw f args ts ho hf hb vs hv' v hc h
end
end Go.Proofs.Ytdgbjmolinoplaa
/- More laws of the walk of a region: cells of any kind, stores inside a row, slices' elements, closures, calls that fill rows. -/
namespace Go.Proofs.Ytdgbjmolinoplaa
open Go.RowKit
/-- A row with other cells from a place on. -/
def putL (cs : Array Value) : Nat → List Value → Array Value
 | _, [] => cs
 | off, v :: r => putL (cs.setIfInBounds off v) (off + 1) r
theorem putL_size : ∀ (l : List Value) (cs : Array Value) (off : Nat), (putL cs off l).size = cs.size
 | [], _, _ => rfl
 | v :: l, cs, off => by unfold putL; rw [putL_size l, Array.size_setIfInBounds]
theorem putL_get : ∀ (l : List Value) (cs : Array Value) (off i : Nat), off + l.length ≤ cs.size → (putL cs off l)[i]? = if off ≤ i ∧ i < off + l.length then l[i - off]? else cs[i]?
 | [], cs, off, i, _ => by rw [if_neg (by simp only [List.length_nil]; omega)]; rfl
 | v :: l, cs, off, i, h => by
  have h1 : off + 1 + l.length ≤ cs.size := by have := h; simp at this; omega
  unfold putL
  rw [putL_get l _ (off + 1) i (by rw [Array.size_setIfInBounds]; exact h1)]
  by_cases e : i = off
  ·subst e
   rw [if_neg (by omega), if_pos (by simp), Array.getElem?_setIfInBounds, if_pos rfl, if_pos (by omega), Nat.sub_self]; rfl
  ·by_cases e2 : off + 1 ≤ i ∧ i < off + 1 + l.length
   ·rw [if_pos e2, if_pos (by simp; omega), show i - off = (i - (off + 1)) + 1 by omega]; rfl
   ·rw [if_neg e2, if_neg (by simp; omega), Array.getElem?_setIfInBounds, if_neg (fun x => e x.symm)]
theorem Row.setCells {g : Nat} {t : TypeId} : ∀ (l : List Value) {w : World} {cs : Array Value} (off : Nat), Row w g cs t → Row (w.setCells g off l) g (putL cs off l) t
 | [], _, _, _, h => h
 | v :: l, w, cs, off, h => by
  unfold World.setCells putL
  exact Row.setCells l (off + 1) (h.setCell off v)
section
variable {P : Program} {olds : Olds} {p : Nat → Nat} {W : World} {F : Act → Ct → Prop} {n : Nat} {l : List Oper} {pl : List Sp} {a : Act} {ct : Ct} {o : Oper}
theorem only_setCells (g : Nat) : ∀ (l : List Value) (w : World) (off : Nat), Only g w (w.setCells g off l)
 | [], _, _ => ⟨rfl, rfl, rfl, rfl, fun _ _ => rfl⟩
 | v :: l, w, off => by
  unfold World.setCells
  have h1 := only_setCell w g off v
  have h2 := only_setCells g l (w.setCell ⟨g, off, none⟩ v) (off + 1)
  exact ⟨h2.os.trans h1.os, h2.tape.trans h1.tape, h2.output.trans h1.output, h2.size.trans h1.size, fun k hk => (h2.block k hk).trans (h1.block k hk)⟩
theorem there_of_row {w : World} {g : Nat} {cs : Array Value} {t : TypeId} (h : Row w g cs t) (off m : Nat) (hm : off + m ≤ cs.size) : w.there g off m := fun j hj => by
 refine ⟨?_, h.frozen _⟩
 rw [h.cell, Array.getElem?_eq_getElem (by omega)]; rfl
/-- A store inside a row. -/
theorem mx_putm (k : Nat) (ty : TypeId) (x y : Operand) (ho : o.op = .store ty x y) (off : Nat) {t : TypeId} {old : Array Value} (hct : ct k = some (t, old)) (hx : a.eval x = .pointer (some ⟨addrOf olds p k, off, none⟩)) (sub : Array Value) (hy : a.eval y = .agg sub)
  (hi : (P.info? ty).map (·.size) = some sub.size) (hold : off + sub.size ≤ old.size) (h1 : sub.all (·.oneCell') = true) (c : Array Value) (hc : putL old off sub.toList = c)
  (h : MX P olds p W F (n + 1) l pl (a.put o.dst undef) (ctSet ct k (t, c))) : MX P olds p W F n (o :: l) ((fun _ => undef, [], none, [(k, c)]) :: pl) a ct := by
 subst hc
 refine mx_fill k _ hct (fun w hr => ⟨w.setCells (addrOf olds p k) off sub.toList, ?_, Row.setCells _ _ hr, only_setCells _ _ _ _⟩) h
 unfold execOp
 simp only [ho, hx, hy, Instr.storeAt, Instr.sureAddr, Sem.run_bind, Sem.run_pure, Result.andThen_ok, run_storeVar_mid w _ off ty sub (there_of_row hr off _ hold) hi h1]
theorem run_store_val (w : World) (g i : Nat) (ty : TypeId) (v old : Value) (hv : v.cells = #[v]) (h1 : v.oneCell' = true) (hz : (P.info? ty).map (·.size) = some 1) (hc : w.cell? ⟨g, i, none⟩ = some old) (hf : w.frozen? ⟨g, i, none⟩ = false) :
  (storeVar ty ⟨g, i, none⟩ v).run P w = .ok () (w.setCell ⟨g, i, none⟩ v) := by
 have ht : w.there g i 1 := fun j hj => by
  obtain rfl : j = 0 := by omega
  exact ⟨by rw [Nat.add_zero, hc]; rfl, hf⟩
 have := run_storeVar_mid (P := P) w g i ty #[v] ht hz (by simp [h1])
 have e : (storeVar ty ⟨g, i, none⟩ v).run P w = (storeVar ty ⟨g, i, none⟩ (.agg #[v])).run P w := by
  unfold storeVar
  rw [hv]
  rfl
 rw [e, this]
 rfl
/-- A store of a value of one cell. -/
theorem mx_putv (k : Nat) (ty : TypeId) (x y : Operand) (ho : o.op = .store ty x y) (i : Nat) {t : TypeId} {old : Array Value} (hct : ct k = some (t, old)) (hx : a.eval x = .pointer (some ⟨addrOf olds p k, i, none⟩)) (v : Value) (hy : a.eval y = v)
  (hv : v.cells = #[v]) (h1 : v.oneCell' = true) (hz : (P.info? ty).map (·.size) = some 1) (hi : i < old.size) (c : Array Value) (hc : old.setIfInBounds i v = c)
  (h : MX P olds p W F (n + 1) l pl (a.put o.dst undef) (ctSet ct k (t, c))) : MX P olds p W F n (o :: l) ((fun _ => undef, [], none, [(k, c)]) :: pl) a ct := by
 subst hc
 refine mx_fill k _ hct (fun w hr => ⟨w.setCell ⟨addrOf olds p k, i, none⟩ v, ?_, hr.setCell _ _, only_setCell _ _ _ _⟩) h
 have hcell : w.cell? ⟨addrOf olds p k, i, none⟩ = some old[i] := (hr.cell i).trans (by simp [hi])
 unfold execOp
 simp only [ho, hx, hy, Instr.storeAt, Instr.sureAddr, Sem.run_bind, Sem.run_pure, Result.andThen_ok, run_store_val w _ i ty v _ hv h1 hz hcell (hr.frozen i)]
theorem mx_boxv (t : TypeId) (x : Operand) (ho : o.op = .box t x) (v : Value) (hx : a.eval x = v) (hv : v.cells = #[v])
  (h : MX P olds p W F (n + 1) l pl (a.put o.dst (.pointer (some ⟨p n, 0, none⟩))) (ctSet ct (2 * n + 1) (t, #[v]))) : MX P olds p W F n (o :: l) ((fun q => .pointer (some ⟨q n, 0, none⟩), [], some (t, #[v]), []) :: pl) a ct :=
 mx_made (fun g => .pointer (some ⟨g, 0, none⟩)) t #[v] (fun w => by unfold execOp; simp only [ho, hx, Instr.box, Sem.run_bind, newVar, hv, newRow]; rfl) h
theorem mx_newv (t : TypeId) (ho : o.op = .alloc t) (v : Value) (hz : ∀ w, (zeroValue t).run P w = .ok v w) (hv : v.cells = #[v])
  (h : MX P olds p W F (n + 1) l pl (a.put o.dst (.pointer (some ⟨p n, 0, none⟩))) (ctSet ct (2 * n + 1) (t, #[v]))) : MX P olds p W F n (o :: l) ((fun q => .pointer (some ⟨q n, 0, none⟩), [], some (t, #[v]), []) :: pl) a ct :=
 mx_made (fun g => .pointer (some ⟨g, 0, none⟩)) t #[v] (fun w => by unfold execOp; simp only [ho, Instr.alloc, Sem.run_bind, hz, Result.andThen_ok, newVar, hv, newRow]; rfl) h
/-- The place of an element: of an array inside a row, of a slice. -/
theorem exec_index_g {ρ : Operand → Value} (t : TypeId) (x y : Operand) (ho : o.op = .indexAddr t x y) (g off : Nat) (hx : ρ x = .pointer (some ⟨g, off, none⟩)) (i len : Nat) (hy : ρ y = .int .i64 i) (hi : i < len) (e : TypeId) (hu : P.underlying t = some (.array len e))
  (z : Nat) (hz : ∀ w, (sizeOf e).run P w = .ok z w) (w : World) : (execOp ρ o).run P w = .ok (.value (.pointer (some ⟨g, off + i * z, none⟩))) w := by
 unfold execOp
 simp [ho, hx, hy, Instr.indexAt, Instr.sureAddr, Sem.run_bind, run_underlying hu, hz, go_sem, asIntOf, Addr.add_mid, hi]
theorem exec_index_s {ρ : Operand → Value} (t : TypeId) (x y : Operand) (ho : o.op = .indexAddr t x y) (g off len cap : Nat) (hx : ρ x = .slice (some ⟨g, off, none⟩) len cap) (i : Nat) (hy : ρ y = .int .i64 i) (hi : i < len) (e : TypeId) (hu : P.underlying t = some (.slice e))
  (z : Nat) (hz : ∀ w, (sizeOf e).run P w = .ok z w) (w : World) : (execOp ρ o).run P w = .ok (.value (.pointer (some ⟨g, off + i * z, none⟩))) w := by
 unfold execOp
 simp [ho, hx, hy, Instr.indexAt, Sem.run_bind, run_underlying hu, hz, go_sem, asIntOf, Addr.add_mid, hi]
theorem m_x {t : TypeId} {x y : Operand} {g off len cap : Nat} (i : Nat) (hi : i < len) {e : TypeId} (hu : P.underlying t = some (.slice e)) {z : Nat} (hz : ∀ w, (sizeOf e).run P w = .ok z w) (h : MX P olds p W F (n + 1) l pl (a.put o.dst (.pointer (some ⟨g, off + i * z, none⟩))) ct) (ho : o.op = .indexAddr t x y := by exact rfl) (hx : a.eval x = .slice (some ⟨g, off, none⟩) len cap := by exact rfl) (hy : a.eval y = .int .i64 i := by exact rfl) : MX P olds p W F n (o :: l) ((fun _ => .pointer (some ⟨g, off + i * z, none⟩), [], none, []) :: pl) a ct := mx_val _ (exec_index_s t x y ho g off len cap hx i hy hi e hu z hz) h
theorem m_X {t : TypeId} {x y : Operand} {g off len cap : Nat} (i : Nat) (hi : i < len) {e : TypeId} (hu : P.underlying t = some (.slice e)) {z : Nat} (hz : ∀ w, (sizeOf e).run P w = .ok z w) {B : Prop} (b : B) (ho : o.op = .indexAddr t x y := by exact rfl) (hx : a.eval x = .slice (some ⟨g, off, none⟩) len cap := by exact rfl) (hy : a.eval y = .int .i64 i := by exact rfl) (h : B → MX P olds p W F (n + 1) l pl (a.put o.dst (.pointer (some ⟨g, off + i * z, none⟩))) ct := by exact fun b => m_W b) : MX P olds p W F n (o :: l) ((fun _ => .pointer (some ⟨g, off + i * z, none⟩), [], none, []) :: pl) a ct := m_x i hi hu hz (h b) ho hx hy
theorem q_x {ops : Array Oper} {Q : Act → Prop} {rest : List Oper} {t : TypeId} {x y : Operand} {g off len cap : Nat} (i : Nat) (hi : i < len) {e : TypeId} (hu : P.underlying t = some (.slice e)) {z : Nat} (hz : ∀ w, (sizeOf e).run P w = .ok z w) (h : QW P ops W Q rest (a.put o.dst (.pointer (some ⟨g, off + i * z, none⟩)))) (hw : Region.wanted o (yielded ops a.tmps) = true := by rfl) (ho : o.op = .indexAddr t x y := by exact rfl) (hx : a.eval x = .slice (some ⟨g, off, none⟩) len cap := by exact rfl) (hy : a.eval y = .int .i64 i := by exact rfl) : QW P ops W Q (o :: rest) a := qw_value hw _ (exec_index_s t x y ho g off len cap hx i hy hi e hu z hz) h
theorem exec_func {ρ : Operand → Value} (f : FuncId) (caps : Array Operand) (ho : o.op = .makeFunc (.func f) #[] caps) (vs : Array Value) (hv : caps.toList.map ρ = vs.toList) (w : World) : (execOp ρ o).run P w = .ok (.value (.func (.func f) #[] vs)) w := by
 have hv' : caps.map ρ = vs := by apply Array.toList_inj.1; rw [Array.toList_map]; exact hv
 unfold execOp
 simp [ho, Instr.makeFunc, hv']
/-- A call of a closure that fills two rows. -/
theorem mx_callC2 {fn : Func} (f : FuncId) (t : Tmp) (args : Array Operand) (ts : Array TypeId) (ho : o.op = .call { callee := .value (.tmp t), args := args, argTypes := ts }) (caps : Array Value) (hcl : a.eval (.tmp t) = .func (.func f) #[] caps)
  (hf : P.funcs[f]? = some fn) (hb : (fn.name == "runtime.NumGoroutine" || fn.body.isNone) = false) (vs : Array Value) (hv' : args.toList.map a.eval = vs.toList) (v : Value) (k1 k2 : Nat) (hne : k1 ≠ k2) {t1 t2 : TypeId} {o1 o2 : Array Value} (c1 c2 : Array Value)
  (h1 : ct k1 = some (t1, o1)) (h2 : ct k2 = some (t2, o2))
  (hc : ∀ w, Kept (olds.map (·.1)) W w → Row w (addrOf olds p k1) o1 t1 → Row w (addrOf olds p k2) o2 t2 → Calls P f (vs ++ caps) w fun e w' => e = .returned v ∧ Row w' (addrOf olds p k1) c1 t1 ∧ Row w' (addrOf olds p k2) c2 t2 ∧ Kept [addrOf olds p k1, addrOf olds p k2] w w')
  (h : MX P olds p W F (n + 1) l pl (a.put o.dst v) (ctSet (ctSet ct k1 (t1, c1)) k2 (t2, c2))) : MX P olds p W F n (o :: l) ((fun _ => v, [], none, [(k1, c1), (k2, c2)]) :: pl) a ct := by
 refine ⟨⟨⟨.inl ⟨v, rfl⟩, fun x hx => ?_, fun w hk hrw => ?_⟩, ?_⟩⟩
 ·rcases List.mem_cons.1 hx with rfl | hx
  ·exact ⟨_, h1⟩
  ·obtain rfl : x = (k2, c2) := List.mem_singleton.1 hx
   exact ⟨_, h2⟩
 ·have hv : args.map a.eval = vs := by apply Array.toList_inj.1; rw [Array.toList_map]; exact hv'
  have hr := run_callFunc_body (P := P) hf hb (vs ++ caps) w
  have hd : (execOp a.eval o).run P w = .ok (.enter f (vs ++ caps)) w := by
   unfold execOp
   simp only [ho, resolve, hv, hcl]
   simp [Deferred.ofValue, invoke, hr]
  rw [hd]
  refine ⟨rfl, (hc w hk (hrw k1 (List.mem_append_right _ (by simp)) _ h1) (hrw k2 (List.mem_append_right _ (by simp)) _ h2)).mono fun e w' ⟨he, r1, r2, hkk⟩ => ⟨v, he, hkk.os, hkk.tape, hkk.output, hkk.size, fun b hlt hb' => hkk.block b hlt ?_, fun x hx y hy => ?_, .inl ⟨rfl, rfl⟩⟩⟩
  ·have b1 := hb' (k1, c1) (by simp)
   have b2 := hb' (k2, c2) (by simp)
   simp [b1, b2]
  ·rcases List.mem_cons.1 hx with rfl | hx
   ·obtain rfl : (t1, o1) = y := Option.some.inj (h1.symm.trans hy)
    exact r1
   ·obtain rfl : x = (k2, c2) := List.mem_singleton.1 hx
    obtain rfl : (t2, o2) = y := Option.some.inj (h2.symm.trans hy)
    exact r2
 ·have e : spC n ((fun _ => v, [], none, [(k1, c1), (k2, c2)]) : Sp) ct = ctSet (ctSet ct k1 (t1, c1)) k2 (t2, c2) := by
   funext j
   unfold ctSet
   by_cases e2 : j = k2
   ·subst e2
    rw [if_pos rfl]
    show (match fills [(k1, c1), (j, c2)] j with | some c => (ct j).map (fun (y : TypeId × Array Value) => (y.1, c)) | none => ct j) = _
    rw [show fills [(k1, c1), (j, c2)] j = some c2 by simp [fills, hne], h2]; rfl
   ·rw [if_neg e2]
    by_cases e1 : j = k1
    ·subst e1
     rw [if_pos rfl]
     show (match fills [(j, c1), (k2, c2)] j with | some c => (ct j).map (fun (y : TypeId × Array Value) => (y.1, c)) | none => ct j) = _
     rw [show fills [(j, c1), (k2, c2)] j = some c1 by simp [fills], h1]; rfl
    ·rw [if_neg e1]
     exact spC_other (s := ((fun _ => v, [], none, [(k1, c1), (k2, c2)]) : Sp)) ct (by simp [hits, e1, e2])
  rw [e]; exact h.out
end
end Go.Proofs.Ytdgbjmolinoplaa
/- Loads from rows that are only read, in a quiet walk. -/
namespace Go.Proofs.Ytdgbjmolinoplaa
open Go.RowKit
section
variable {P : Program} {ops : Array Oper} {W : World} {Q : Act → Prop} {rest : List Oper} {o : Oper} {a : Act}
theorem qw_loadmR (hw : Region.wanted o (yielded ops a.tmps) = true) (ty : TypeId) (x : Operand) (ho : o.op = .load ty x) (g off : Nat) (hx : a.eval x = .pointer (some ⟨g, off, none⟩)) {t : TypeId} {cs : Array Value} (hg : RowR W g cs t)
  (sub : Array Value) (hs : ∀ j v, sub.toList[j]? = some v → cs[off + j]? = some v) (d : TypeDesc) (hu : P.underlying ty = some d) (hd : d.isRow = true) (hi : (P.info? ty).map (·.size) = some sub.size)
  (h : QW P ops W Q rest (a.put o.dst (.agg sub))) : QW P ops W Q (o :: rest) a := by
 refine ⟨?_⟩
 unfold wpQuiet
 rw [if_pos hw]
 refine ⟨.agg sub, fun w hC => ?_, h.out⟩
 unfold Oper.quietAt
 rw [run_load_mid ty x ho g off hx (hg.belowAll hC) sub hs d hu hd hi]
 exact ⟨rfl, rfl⟩
theorem qw_loadcR (hw : Region.wanted o (yielded ops a.tmps) = true) (ty : TypeId) (x : Operand) (ho : o.op = .load ty x) (g i : Nat) (hx : a.eval x = .pointer (some ⟨g, i, none⟩)) {t : TypeId} {cs : Array Value} (hg : RowR W g cs t) (v : Value) (hc : cs[i]? = some v)
  (ha : ∀ w, (isAgg ty).run P w = .ok false w) (h : QW P ops W Q rest (a.put o.dst v)) : QW P ops W Q (o :: rest) a := by
 refine ⟨?_⟩
 unfold wpQuiet
 rw [if_pos hw]
 refine ⟨v, fun w hC => ?_, h.out⟩
 have hr : (execOp a.eval o).run P w = .ok (.value v) w := by
  unfold execOp
  simp only [ho, hx, Instr.loadAt, Instr.sureAddr, Sem.run_bind, Sem.run_pure, Result.andThen_ok, run_load_cell w g i ty v ha (((hg.belowAll hC).cell i).trans hc)]
 unfold Oper.quietAt
 rw [hr]
 exact ⟨rfl, rfl⟩
end
end Go.Proofs.Ytdgbjmolinoplaa
/- A plain region, walked in the text's order. -/
namespace Go.Proofs.Ytdgbjmolinoplaa
open Go.RowKit
/-- A plain region, walked in the text's order, the world with it. -/
structure PW (P : Program) (ops : Array Oper) (Q : Exit → Act → World → Prop) (l : List Oper) (a : Act) (w : World) : Prop where
 out : wpList P ops Q l a w
section
variable {P : Program} {ops : Array Oper} {Q : Exit → Act → World → Prop} {rest : List Oper} {o : Oper} {a : Act} {w : World}
theorem wp_region_pw {id : Nat} {l : List Oper} (h : PW P l.toArray Q l a w) : (Code.region id l.toArray false).wp P Q a w := wp_region_lit h.out
theorem rp {id : Nat} {l : List Oper} (h : PW P l.toArray Q l a w) : (Code.region id l.toArray false).wp P Q a w := wp_region_lit h.out
theorem pw_nil (h : Q .normal a w) : PW P ops Q [] a w := ⟨h⟩
theorem pw_run (hw : Region.wanted o (yielded ops a.tmps) = true) (v : Value) (w' : World) (hr : (execOp a.eval o).run P w = .ok (.value v) w') (h : PW P ops Q rest (a.put o.dst v) w') : PW P ops Q (o :: rest) a w := by
 refine ⟨?_⟩
 unfold wpList
 rw [if_pos hw]
 left
 unfold Oper.wp
 rw [hr]
 exact h.out
theorem pw_value (hw : Region.wanted o (yielded ops a.tmps) = true) (v : Value) (hr : ∀ w, (execOp a.eval o).run P w = .ok (.value v) w) (h : PW P ops Q rest (a.put o.dst v) w) : PW P ops Q (o :: rest) a w := pw_run hw v w (hr w) h
theorem p_v (v : Value) (hr : ∀ w, (execOp a.eval o).run P w = .ok (.value v) w) (h : PW P ops Q rest (a.put o.dst v) w) (hw : Region.wanted o (yielded ops a.tmps) = true := by rfl) : PW P ops Q (o :: rest) a w := pw_value hw v hr h
theorem pw_move (hw : Region.wanted o (yielded ops a.tmps) = true) {x : Operand} {v : Value} (ho : o.op = .move x ∨ o.op = .assign x) (hv : a.eval x = v) (h : PW P ops Q rest (a.put o.dst v) w) : PW P ops Q (o :: rest) a w := by
 refine pw_run hw v w ?_ h
 unfold execOp
 rcases ho with ho | ho <;> simp only [ho, hv] <;> rfl
theorem pw_call {fn : Func} (hw : Region.wanted o (yielded ops a.tmps) = true) (f : FuncId) (args : Array Operand) (ts : Array TypeId)
  (ho : o.op = .call { callee := .value (.func f), args := args, argTypes := ts }) (hf : P.funcs[f]? = some fn) (hb : (fn.name == "runtime.NumGoroutine" || fn.body.isNone) = false)
  (vs : Array Value) (hv' : args.toList.map a.eval = vs.toList) (v : Value) (hc : Calls P f vs w fun e w' => e = .returned v ∧ Below w.heap.size w w')
  (h : ∀ w', Below w.heap.size w w' → PW P ops Q rest (a.put o.dst v) w') : PW P ops Q (o :: rest) a w := by
 refine ⟨?_⟩
 unfold wpList
 rw [if_pos hw]
 left
 refine (opw_call f args ts ho hf hb vs hv' ?_).out
 exact hc.mono fun e w' ⟨he, hb'⟩ => ⟨v, he, (h w' hb').out⟩
theorem pw_lits (hw : Region.wanted o (yielded ops a.tmps) = true) (t e : TypeId) (len : Nat) (parts : Array (Nat × Operand)) (ho : o.op = .buildSlice t len parts) (cells : Array Value) (ie : TypeInfo) (z : Value)
  (hu : P.underlying t = some (.slice e)) (hie : P.info? e = some ie) (hz : ie.zero = some z) (hsmall : ¬ len * ie.size > 2 ^ 24) (hpos : ¬ len * ie.size = 0)
  (vals : List (Nat × Value)) (hv : parts.toList.map (fun x => (x.1, a.eval x.2)) = vals)
  (hf : Instr.fill (fun i => some (i * ie.size, ie.size)) ((Array.range (len * ie.size)).map (z.cells[· % z.cells.size]!)) vals = some cells)
  (h : PW P ops Q rest (a.put o.dst (.slice (some ⟨w.heap.size, 0, none⟩) len len)) (w.alloc (.cells cells e))) : PW P ops Q (o :: rest) a w := by
 have hf' : Instr.fill (fun i => some (i * ie.size, ie.size)) ((Array.range (len * ie.size)).map (z.cells[· % z.cells.size]!)) (parts.map fun (i, x) => (i, a.eval x)).toList = some cells := by
  rw [Array.toList_map]; rw [← hv] at hf; exact hf
 refine pw_run hw _ _ ?_ h
 unfold execOp
 simp only [ho, Sem.run_bind, run_buildSlice w t e len _ cells ie z hu hie hz hsmall hpos hf', Result.andThen_ok]
 rfl
theorem pw_pick (hw : Region.wanted o (yielded ops a.tmps) = true) {c x y : Operand} (b : Bool) {v : Value} (ho : o.op = .pick c x y) (hc : a.eval c = .bool b) (hv : a.eval (if b then x else y) = v) (h : PW P ops Q rest (a.put o.dst v) w) : PW P ops Q (o :: rest) a w := by
 refine pw_run hw v w ?_ h
 subst hv
 unfold execOp
 rw [ho]
 simp only [hc]
 cases b <;> rfl
theorem p_k {c x y : Operand} (b : Bool) (v : Value) (h : PW P ops Q rest (a.put o.dst v) w) (hw : Region.wanted o (yielded ops a.tmps) = true := by rfl) (ho : o.op = .pick c x y := by exact rfl) (hc : a.eval c = .bool b := by exact rfl) (hv : a.eval (if b then x else y) = v := by exact rfl) : PW P ops Q (o :: rest) a w := pw_pick hw b ho hc hv h
end
end Go.Proofs.Ytdgbjmolinoplaa
/- Mix's walk with guards: a region that draws its order, some of whose operations are left out. -/
namespace Go.Proofs.Ytdgbjmolinoplaa
open Go.RowKit
section
variable {P : Program}
/-- An operation that is left out. -/
def skipS : Sp := (fun _ => undef, [], none, [])
def ObG (P : Program) (ops : Array Oper) (olds : Olds) (p : Nat → Nat) (W : World) (n : Nat) (ct : Ct) (o : Oper) (a : Act) (s : Sp) : Prop :=
 (Region.wanted o (yielded ops a.tmps) = true ∧ Ob P olds p W n ct o a s) ∨ (Region.wanted o (yielded ops a.tmps) = false ∧ s = skipS)
theorem ObG.loc {ops : Array Oper} {olds : Olds} {p : Nat → Nat} {W : World} {n : Nat} {ct : Ct} {o : Oper} {a : Act} {s : Sp} (h : ObG P ops olds p W n ct o a s) : Loc n s := by
 rcases h with ⟨_, h⟩ | ⟨_, rfl⟩
 ·exact h.1
 ·exact .inl ⟨undef, rfl⟩
def ObsG (P : Program) (ops : Array Oper) (olds : Olds) (p : Nat → Nat) (W : World) (F : Act → Ct → Prop) : Nat → List Oper → List Sp → Act → Ct → Prop
 | _, [], [], a, ct => F a ct
 | n, o :: l, s :: pl, a, ct => ObG P ops olds p W n ct o a s ∧ ObsG P ops olds p W F (n + 1) l pl (a.put o.dst (spV p s)) (spC n s ct)
 | _, _, _, _, _ => False
theorem obsG_len {ops : Array Oper} {olds : Olds} {p : Nat → Nat} {W : World} {F : Act → Ct → Prop} : ∀ (l : List Oper) (pl : List Sp) (n : Nat) (a : Act) (ct : Ct), ObsG P ops olds p W F n l pl a ct → l.length = pl.length
 | [], [], _, _, _, _ => rfl
 | _ :: l, _ :: pl, _, _, _, h => by simp [obsG_len l pl _ _ _ h.2]
 | [], _ :: _, _, _, _, h => h.elim
 | _ :: _, [], _, _, _, h => h.elim
theorem obsG_at {ops : Array Oper} {olds : Olds} {p : Nat → Nat} {W : World} {F : Act → Ct → Prop} : ∀ (l : List Oper) (pl : List Sp) (n i : Nat) (a : Act) (ct : Ct) (x : Oper × Sp), ObsG P ops olds p W F n l pl a ct → (l.zip pl)[i]? = some x →
  ObG P ops olds p W (n + i) (ctD (fun j => decide (j < n + i)) n (l.zip pl) ct) x.1 (actD p (fun j => decide (j < n + i)) n (l.zip pl) a) x.2
 | [], [], _, _, _, _, _, _, h => by simp at h
 | o :: l, s :: pl, n, 0, a, ct, x, h, hx => by
  obtain rfl : (o, s) = x := by simpa using hx
  rw [actD_none _ _ _ (fun j hj => by simp; omega), ctD_none _ _ _ (fun j hj => by simp; omega)]
  exact h.1
 | o :: l, s :: pl, n, i + 1, a, ct, x, h, hx => by
  have := obsG_at l pl (n + 1) i _ _ x h.2 (by simpa using hx)
  rw [show n + 1 + i = n + (i + 1) by omega] at this
  rw [List.zip_cons_cons]
  unfold ctD actD
  rw [if_pos (by simp), if_pos (by simp)]
  exact this
 | [], _ :: _, _, _, _, _, _, h, _ => h.elim
 | _ :: _, [], _, _, _, _, _, h, _ => h.elim
theorem obsG_end {ops : Array Oper} {olds : Olds} {p : Nat → Nat} {W : World} {F : Act → Ct → Prop} {d : Nat → Bool} : ∀ (l : List Oper) (pl : List Sp) (n : Nat) (a : Act) (ct : Ct), ObsG P ops olds p W F n l pl a ct → (∀ j, n ≤ j → j < n + l.length → d j = true) →
  F (actD p d n (l.zip pl) a) (ctD d n (l.zip pl) ct)
 | [], [], _, _, _, h, _ => h
 | o :: l, s :: pl, n, a, ct, h, hd => by
  rw [List.zip_cons_cons]
  unfold ctD actD
  have h0 := hd n (Nat.le_refl _) (by simp)
  rw [if_pos h0, if_pos h0]
  exact obsG_end l pl (n + 1) _ _ h.2 fun j h1 h2 => hd j (by omega) (by simp; omega)
 | [], _ :: _, _, _, _, h, _ => h.elim
 | _ :: _, [], _, _, _, h, _ => h.elim
/-- The walk in the text's order, behind a name that is not opened. -/
structure MG (P : Program) (ops : Array Oper) (olds : Olds) (p : Nat → Nat) (W : World) (F : Act → Ct → Prop) (n : Nat) (l : List Oper) (pl : List Sp) (a : Act) (ct : Ct) : Prop where
 out : ObsG P ops olds p W F n l pl a ct
theorem actD_size {p : Nat → Nat} {d : Nat → Bool} : ∀ (l : List (Oper × Sp)) (n : Nat) (a : Act), (actD p d n l a).tmps.size = a.tmps.size
 | [], _, _ => rfl
 | x :: l, n, a => by
  unfold actD
  rw [actD_size l (n + 1)]
  split
  ·exact put_size _ _ _
  ·rfl
theorem wanted_same {ops : Array Oper} (o : Oper) {a a' : Act} (hz : a.tmps.size = a'.tmps.size) (h : ∀ g want, o.guard = some (g, want) → ∀ t, (ops[g]?).bind (·.dst) = some t → a.eval (.tmp t) = a'.eval (.tmp t)) :
  Region.wanted o (yielded ops a.tmps) = Region.wanted o (yielded ops a'.tmps) := by
 unfold Region.wanted
 cases hg : o.guard with
 | none => rfl
 | some gw =>
  obtain ⟨g, want⟩ := gw
  have hy : yielded ops a.tmps g = yielded ops a'.tmps g := by
   unfold yielded
   cases ht : (ops[g]?).bind (·.dst) with
   | none => rfl
   | some t =>
    have e := h g want hg t ht
    have e2 : a.tmps[t]? = a'.tmps[t]? := by
     by_cases hlt : t < a.tmps.size
     ·have hlt' : t < a'.tmps.size := hz ▸ hlt
      simp only [Act.eval, Array.getD, hlt, hlt', dite_true] at e
      rw [Array.getElem?_eq_getElem hlt, Array.getElem?_eq_getElem hlt']
      exact congrArg some e
     ·rw [Array.getElem?_eq_none (Nat.le_of_not_lt hlt), Array.getElem?_eq_none (Nat.le_of_not_lt (hz ▸ hlt))]
    simp only [Option.bind_some, e2]
  simp only [hy]
def chkPairG (ops : Array Oper) (l : List (Oper × Sp)) (x : Oper × Sp) (i : Nat) (y : Oper × Sp) (j : Nat) : Bool :=
 j == i || ((match y.1.dst with
  | none => true
  | some s => x.1.dst != some s && (!(x.1.looksAt ops).contains s || ((decide (j < i) && reach l l.length i j) || (decide (i < j) && reach l l.length j i)))) &&
 (hits j y.2).all fun k => !(keysOf x.2).contains k || (if j < i then reach l l.length i j else reach l l.length j i))
def chkG (ops : Array Oper) (l : List (Oper × Sp)) : Bool :=
 l.zipIdx.all fun z => (match z.1.1.op with | .select _ _ => false | _ => true) && (z.1.1.after.all fun e => !Region.binds .any e || decide (e.on < z.2)) && ((keysOf z.1.2).all fun k => k % 2 == 0 || decide (k / 2 < z.2)) &&
  l.zipIdx.all fun u => chkPairG ops l z.1 z.2 u.1 u.2
theorem wp_region_mixg {id : Nat} {l : List Oper} {a : Act} {W : World} {Q : Exit → Act → World → Prop} (hm : P.follows .mixedOrders = true) (olds : Olds) (plan : List Sp) (hr : RowsOf W olds) (hn : (olds.map (·.1)).Nodup)
  (h : ∀ p, MG P l.toArray olds p W (FinF olds p W Q) 0 l plan a (ct0 olds)) (hchk : chkG l.toArray (l.zip plan) = true) : (Code.region id l.toArray true).wp P Q a W := by
 have hlen : l.length = plan.length := obsG_len l plan _ _ _ (h fun _ => 0).out
 have hobs : ∀ p i x, (l.zip plan)[i]? = some x → ObG P l.toArray olds p W i (ctD (fun j => decide (j < i)) 0 (l.zip plan) (ct0 olds)) x.1 (actD p (fun j => decide (j < i)) 0 (l.zip plan) a) x.2 := fun p i x hx => by
  have := obsG_at l plan 0 i a (ct0 olds) x (h p).out hx
  rw [Nat.zero_add] at this
  exact this
 have hend : ∀ p (d : Nat → Bool), (∀ j, j < l.length → d j = true) → FinF olds p W Q (actD p d 0 (l.zip plan) a) (ctD d 0 (l.zip plan) (ct0 olds)) := fun p d hd =>
  obsG_end l plan 0 a (ct0 olds) (h p).out fun j _ hj => hd j (by omega)
 have hzip : ∀ i o, l[i]? = some o → ∃ s, (l.zip plan)[i]? = some (o, s) := fun i o ho => by
  have hi : i < l.length := (List.getElem?_eq_some_iff.1 ho).1
  refine ⟨plan[i]'(by omega), ?_⟩
  rw [List.getElem?_zip_eq_some]
  exact ⟨ho, by simp⟩
 generalize l.zip plan = z at *
 clear h
 have hC : ∀ i x, z[i]? = some x → (∀ cs b, x.1.op ≠ .select cs b) ∧ (∀ e ∈ x.1.after, Region.binds .any e = true → e.on < i) ∧ (∀ k ∈ keysOf x.2, k % 2 = 0 ∨ k / 2 < i) ∧ ∀ j y, z[j]? = some y → chkPairG l.toArray z x i y j = true := by
  intro i x hx
  have h1 : (x, i) ∈ z.zipIdx := by rw [List.mem_zipIdx_iff_getElem?]; exact hx
  have h2 := List.all_eq_true.1 hchk _ h1
  simp only [Bool.and_eq_true] at h2
  obtain ⟨⟨⟨a1, a3⟩, a4⟩, a5⟩ := h2
  refine ⟨fun cs b e => (by rw [e] at a1; cases a1), fun e he hb => ?_, fun k hk => ?_, fun j y hy => ?_⟩
  ·have := Array.all_eq_true_iff_forall_mem.1 a3 e he
   rw [hb] at this
   simpa using this
  ·have := List.all_eq_true.1 a4 k hk
   simpa using this
  ·have h3 : (y, j) ∈ z.zipIdx := by rw [List.mem_zipIdx_iff_getElem?]; exact hy
   exact List.all_eq_true.1 a5 _ h3
 have hP : ∀ i x, z[i]? = some x → ∀ j y, z[j]? = some y → j ≠ i →
   (∀ s, y.1.dst = some s → x.1.dst ≠ some s ∧ (s ∈ x.1.looksAt l.toArray → (j < i ∧ reach z z.length i j = true) ∨ (i < j ∧ reach z z.length j i = true))) ∧
   (∀ k, k ∈ hits j y.2 → k ∈ keysOf x.2 → (j < i → reach z z.length i j = true) ∧ (i < j → reach z z.length j i = true)) := by
  intro i x hx j y hy hne
  have h1 := (hC i x hx).2.2.2 j y hy
  unfold chkPairG at h1
  rw [show (j == i) = false by simpa using hne, Bool.false_or, Bool.and_eq_true] at h1
  refine ⟨fun s hs => ?_, fun k hk hmem => ?_⟩
  ·have h2 := h1.1
   rw [hs] at h2
   simp only [Bool.and_eq_true, Bool.or_eq_true, bne_iff_ne, ne_eq, Bool.not_eq_true', decide_eq_true_eq] at h2
   refine ⟨h2.1, fun hl => ?_⟩
   rcases h2.2 with h3 | h3
   ·rw [List.contains_iff_mem.2 hl] at h3; cases h3
   ·exact h3
  ·have h2 := List.all_eq_true.1 h1.2 k hk
   simp only [Bool.or_eq_true, Bool.not_eq_true'] at h2
   rcases h2 with h3 | h3
   ·rw [List.contains_iff_mem.2 hmem] at h3; cases h3
   ·refine ⟨fun hj => ?_, fun hj => ?_⟩
    ·rw [if_pos hj] at h3; exact h3
    ·rw [if_neg (by omega)] at h3; exact h3
 refine wp_region_inv hm (fun d a' w' => ∃ p, a' = actD p d 0 z a ∧ St olds p W w' (ctD d 0 z (ct0 olds)) ∧
  (∀ i x, z[i]? = some x → d i = true → ∀ e ∈ x.1.after, Region.binds .any e = true → d e.on = true)) ?lex ?start ?step ?fin
 case lex =>
  rw [List.all_eq_true]
  intro x hx
  obtain ⟨s, hs⟩ := hzip x.2 x.1 (List.mem_zipIdx_iff_getElem?.1 hx)
  obtain ⟨_, h3, _⟩ := hC _ _ hs
  rw [Array.all_eq_true_iff_forall_mem]
  intro e he
  cases hb : Region.binds .any e
  ·rfl
  ·simpa using h3 e he hb
 case start =>
  refine ⟨fun _ => 0, (actD_none _ _ _ fun _ _ => rfl).symm, ?_, fun i x _ hd => by cases hd⟩
  rw [ctD_none _ _ _ (fun _ _ => rfl)]
  exact st_first hr ⟨rfl, rfl, rfl, Nat.le_refl _, fun _ _ _ => rfl⟩ rfl
 case fin =>
  rintro d a' w' ⟨p, rfl, hs, _⟩ hd
  exact hend p d hd w' hs.kept hs.row hs.new hs.apart
 case step =>
  rintro i o ho d a' w' ⟨p, rfl, hst, hcl⟩ hd hpre
  obtain ⟨s, hx⟩ := hzip i o ho
  obtain ⟨hsel, _, hkeys, _⟩ := hC i _ hx
  have hwait : ∀ j, reach z z.length i j = true → d j = true := fun j hj => reach_pre hcl _ i j _ hx hpre hj
  have hlater : ∀ j y, z[j]? = some y → reach z z.length j i = true → d j = false := fun j y hy hj => by
   cases hdj : d j
   ·rfl
   ·rw [reach_pre hcl _ j i y hy (hcl j y hy hdj) hj] at hd; cases hd
  have EV : ∀ t, t ∈ o.looksAt l.toArray → (actD p d 0 z a).eval (.tmp t) = (actD p (fun j => decide (j < i)) 0 z a).eval (.tmp t) := fun t hl => by
   refine actD_eval z 0 a a (fun j x' hj hdst => ?_) rfl rfl
   rw [Nat.zero_add]
   by_cases hji : j = i
   ·subst hji; rw [hd]; simp
   ·rcases ((hP i _ hx j x' hj hji).1 t hdst).2 hl with ⟨h1, h2⟩ | ⟨h1, h2⟩
    ·rw [hwait j h2]; simp [h1]
    ·rw [hlater j x' hj h2]; simp; omega
  have E : execOp (actD p d 0 z a).eval o = execOp (actD p (fun j => decide (j < i)) 0 z a).eval o := by
   refine execOp_congr o hsel fun y hy => ?_
   cases y with
   | tmp t => exact EV t (List.mem_append_left _ (List.mem_filterMap.2 ⟨.tmp t, by simpa using hy, rfl⟩))
   | _ => rfl
  have WW : Region.wanted o (yielded l.toArray (actD p d 0 z a).tmps) = Region.wanted o (yielded l.toArray (actD p (fun j => decide (j < i)) 0 z a).tmps) := by
   refine wanted_same o (by rw [actD_size, actD_size]) fun g want hg t ht => EV t ?_
   unfold Oper.looksAt
   rw [hg]
   refine List.mem_append_right _ ?_
   show t ∈ ((l.toArray[g]?).bind (·.dst)).toList
   rw [ht]
   exact List.mem_singleton.2 rfl
  have CT : ∀ k ∈ keysOf s, ctD d 0 z (ct0 olds) k = ctD (fun j => decide (j < i)) 0 z (ct0 olds) k := fun k hk' => by
   refine ctD_agree z 0 _ _ (fun j y hj hh => ?_) rfl
   rw [Nat.zero_add] at hh ⊢
   by_cases hji : j = i
   ·subst hji; rw [hd]; simp
   ·obtain ⟨h1, h2⟩ := (hP i _ hx j y hj hji).2 k hh hk'
    rcases Nat.lt_or_ge j i with hlt | hge
    ·rw [hwait j (h1 hlt)]; simp [hlt]
    ·rw [hlater j y hj (h2 (by omega))]; simp; omega
  have h2i : ctD d 0 z (ct0 olds) (2 * i + 1) = none := ctD_unmade hd z 0 _ (by unfold ct0; rw [if_pos (by omega)])
  have CC : ctD (fun j => j == i || d j) 0 z (ct0 olds) = spC i s (ctD d 0 z (ct0 olds)) := by
   funext k
   by_cases hk : k ∈ hits i s
   ·have hu := ctD_upto z 0 i (ct0 olds) _ hx
    rw [Nat.zero_add] at hu
    have h1 : ctD (fun j => j == i || d j) 0 z (ct0 olds) k = spC i s (ctD (fun j => decide (j < i)) 0 z (ct0 olds)) k := by
     rw [← hu]
     refine ctD_agree z 0 _ _ (fun j y hj hh => ?_) rfl
     rw [Nat.zero_add] at hh ⊢
     by_cases hji : j = i
     ·subst hji; simp
     ·rw [show (j == i) = false by simpa using hji, Bool.false_or]
      have hmain : (j < i → reach z z.length i j = true) ∧ (i < j → reach z z.length j i = true) := by
       rcases List.mem_append.1 hk with h3 | h3
       ·have hk2 : k = 2 * i + 1 := by
         cases hmm : s.2.2.1 with
         | none => rw [hmm] at h3; cases h3
         | some m => rw [hmm] at h3; exact List.mem_singleton.1 h3
        rcases List.mem_append.1 hh with h4 | h4
        ·exfalso
         cases hmm : y.2.2.2.1 with
         | none => rw [hmm] at h4; cases h4
         | some m =>
          rw [hmm] at h4
          have := List.mem_singleton.1 h4
          omega
        ·have hkk : k ∈ keysOf y.2 := List.mem_append_right _ h4
         have h5 := (hP j y hj i _ hx (fun e => hji e.symm)).2 k hk hkk
         have h6 := (hC j y hj).2.2.1 _ hkk
         exact ⟨fun hlt => by omega, fun hlt => h5.1 hlt⟩
       ·exact (hP i _ hx j y hj hji).2 k hh (List.mem_append_right _ h3)
      rcases Nat.lt_or_ge j i with hlt | hge
      ·rw [hwait j (hmain.1 hlt)]; simp; omega
      ·rw [hlater j y hj (hmain.2 (by omega))]; simp; omega
    rw [h1]
    rcases List.mem_append.1 hk with h3 | h3
    ·cases hmm : s.2.2.1 with
     | none => rw [hmm] at h3; cases h3
     | some m =>
      rw [hmm] at h3
      rw [List.mem_singleton.1 h3, spC_made hmm, spC_made hmm]
    ·exact spC_same s (CT k (List.mem_append_right _ h3)).symm
   ·rw [spC_other _ hk]
    refine ctD_agree z 0 _ _ (fun j y hj hh => ?_) rfl
    rw [Nat.zero_add] at hh ⊢
    by_cases hji : j = i
    ·subst hji
     rw [hx] at hj
     obtain rfl : (o, s) = y := by simpa using hj
     exact absurd hh hk
    ·rw [show (j == i) = false by simpa using hji]; rfl
  have hcl' : ∀ i' x', z[i']? = some x' → (i' == i || d i') = true → ∀ e ∈ x'.1.after, Region.binds .any e = true → (e.on == i || d e.on) = true := fun i' x' hx' hd' e he hb => by
   by_cases hii : i' = i
   ·subst hii
    rw [hx] at hx'
    obtain rfl : (o, s) = x' := by simpa using hx'
    rw [hpre e he hb, Bool.or_true]
   ·rw [show (i' == i) = false by simpa using hii, Bool.false_or] at hd'
    rw [hcl i' x' hx' hd' e he hb, Bool.or_true]
  have hadd : ∀ p' : Nat → Nat, (∀ j, j ≠ i → p' j = p j) → (s.2.2.1 = none → p' = p) → (actD p d 0 z a).put o.dst (spV p' s) = actD p' (fun j => j == i || d j) 0 z a := fun p' hp' hpn => by
   have := actD_add (p := p') (d := d) z 0 i a _ hx (by rw [Nat.zero_add]; exact hd) (fun j y hj hji t ht => by
    intro e
    exact ((hP i _ hx j y hj hji).1 t e).1 ht)
   rw [Nat.zero_add] at this
   rw [this, actD_congr (p' := p') (d' := d) z 0 a (fun _ _ => rfl) (fun j y hj hdj => ?_)]
   rw [Nat.zero_add] at hdj
   cases hmm : s.2.2.1 with
   | none => rw [hpn hmm]
   | some m =>
    have hji : j ≠ i := fun e => by rw [e, hd] at hdj; cases hdj
    refine (hobs p j _ hj).loc.same (hp' j hji).symm fun m' hm' hr' => (hp' m' fun e => ?_).symm
    subst e
    have hk : 2 * m' + 1 ∈ hits m' s := List.mem_append_left _ (by rw [hmm]; exact List.mem_singleton.2 rfl)
    have h5 := ((hP j y hj m' _ hx (fun e => hji e.symm)).2 _ hk (List.mem_append_left _ hr')).1 hm'
    rw [reach_pre hcl _ j m' y hj (hcl j y hj hdj) h5] at hd
    cases hd
  rw [WW]
  rcases hobs p i _ hx with ⟨hw, _, hfil, hob⟩ | ⟨hw, hsk⟩
  ·rw [if_pos hw]
   have hq := hob w' hst.kept fun k hkk y hy => hst.row k y (by rw [CT k hkk]; exact hy)
   rw [← E] at hq
   refine opw_eff hq fun v w2 hE => ?_
   obtain ⟨p', hp', hpn, hv, hs'⟩ := st_step hst hr hn h2i (fun k hk => CT k hk) hfil hE
   refine ⟨p', ?_, by rw [CC]; exact hs', hcl'⟩
   rw [hv]
   exact hadd p' hp' hpn
  ·rw [if_neg (by rw [hw]; decide)]
   have hsk' : s = skipS := hsk
   refine ⟨p, ?_, ?_, hcl'⟩
   ·rw [← hadd p (fun _ _ => rfl) (fun _ => rfl), hsk']
    rfl
   ·rw [CC, hsk']
    exact hst
variable {ops : Array Oper} {olds : Olds} {p : Nat → Nat} {W : World} {F : Act → Ct → Prop} {n : Nat} {l : List Oper} {pl : List Sp} {a : Act} {ct : Ct} {o : Oper} {s : Sp}
theorem mg_end (h : F a ct) : MG P ops olds p W F n [] [] a ct := ⟨h⟩
theorem mg_step (hw : Region.wanted o (yielded ops a.tmps) = true) (h : MX P olds p W (fun a' ct' => MG P ops olds p W F (n + 1) l pl a' ct') n [o] [s] a ct) : MG P ops olds p W F n (o :: l) (s :: pl) a ct :=
 ⟨⟨.inl ⟨hw, h.out.1⟩, h.out.2.out⟩⟩
theorem mg_skip (hw : Region.wanted o (yielded ops a.tmps) = false) (h : MG P ops olds p W F (n + 1) l pl (a.put o.dst undef) ct) : MG P ops olds p W F n (o :: l) (skipS :: pl) a ct :=
 ⟨⟨.inr ⟨hw, rfl⟩, h.out⟩⟩
theorem mx_pick (b : Bool) {c : Tmp} {x y : Operand} {v : Value} (ho : o.op = .pick (.tmp c) x y) (hc : a.tmps.toList[c]? = some (.bool b)) (hv : a.eval (if b = true then x else y) = v) (h : MX P olds p W F (n + 1) l pl (a.put o.dst v) ct) : MX P olds p W F n (o :: l) ((fun _ => v, [], none, []) :: pl) a ct := by
 have h' : a.tmps[c]? = some (.bool b) := by rw [← Array.getElem?_toList]; exact hc
 refine mx_val v (fun w => ?_) h
 subst hv
 unfold execOp
 rw [ho]
 have h2 : a.eval (.tmp c) = .bool b := by simp [Act.eval, h']
 simp only [h2]
 cases b <;> rfl
end
end Go.Proofs.Ytdgbjmolinoplaa
