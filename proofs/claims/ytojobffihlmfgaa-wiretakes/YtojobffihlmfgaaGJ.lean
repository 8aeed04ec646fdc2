/- More laws of the walk of a region: loads and stores inside a row, calls that lean on rows, slices that are made, fields, functions that the model carries out in place. -/
import Derived.Test.YtojobffihlmfgaaGE
import Derived.Test.YtojobffihlmfgaaGF
import Derived.Deep.MidRow
import Derived.Great.BuildSlice
import Derived.Laws.MakeOwn
namespace Go.Proofs.Ytojobffihlmfgaa
open Go.RowKit
section
variable {P : Program} {olds : Olds} {p : Nat → Nat} {W : World} {F : Act → Ct → Prop} {n : Nat} {l : List Oper} {pl : List Sp} {a : Act} {ct : Ct} {o : Oper}
/-- A row that is only read, whatever of it is frozen. -/
def RowR (w : World) (b : Nat) (c : Array Value) (t : TypeId) : Prop := ∃ fr, w.heap[b]? = some (.cells c t fr)
theorem Row.r {w : World} {b : Nat} {c : Array Value} {t : TypeId} (h : Row w b c t) : RowR w b c t := ⟨_, h⟩
theorem RowR.lt {w : World} {b : Nat} {c : Array Value} {t : TypeId} (h : RowR w b c t) : b < w.heap.size := by
 obtain ⟨fr, h⟩ := h
 exact (Array.getElem?_eq_some_iff.1 h).1
theorem RowR.cell {w : World} {b : Nat} {c : Array Value} {t : TypeId} (h : RowR w b c t) (i : Nat) : w.cell? ⟨b, i, none⟩ = c[i]? := by
 obtain ⟨fr, h⟩ := h
 exact cell_of_row w b i c t fr h
theorem RowR.belowAll {w w' : World} {b : Nat} {c : Array Value} {t : TypeId} (h : RowR w b c t) (hb : Below w.heap.size w w') : RowR w' b c t := by
 have hl := h.lt
 obtain ⟨fr, h⟩ := h
 exact ⟨fr, (hb.block b hl).trans h⟩
theorem Kept.rowR {S : List Nat} {w w' : World} (h : Kept S w w') {b : Nat} {c : Array Value} {t : TypeId} (r : RowR w b c t) (hb : b ∉ S) : RowR w' b c t := by
 have hl := r.lt
 obtain ⟨fr, r⟩ := r
 exact ⟨fr, (h.block b hl hb).trans r⟩
/-- The part of a row from a place on. -/
theorem Kept.trans {S S' : List Nat} {w w1 w2 : World} (h : Kept S w w1) (h' : Kept S' w1 w2) (hs : ∀ g ∈ S', g ∈ S ∨ w.heap.size ≤ g) : Kept S w w2 :=
 ⟨h'.os.trans h.os, h'.tape.trans h.tape, h'.output.trans h.output, Nat.le_trans h.size h'.size, fun b hb hn => (h'.block b (Nat.lt_of_lt_of_le hb h.size) fun hm => by
  rcases hs b hm with h1 | h1
  ·exact hn h1
  ·omega).trans (h.block b hb hn)⟩
theorem Kept.refl (S : List Nat) (w : World) : Kept S w w := ⟨rfl, rfl, rfl, Nat.le_refl _, fun _ _ _ => rfl⟩
theorem range_of_row {w : World} {g off : Nat} {cs : Array Value} {t : TypeId} (h : RowR w g cs t) (sub : List Value) (hs : ∀ j v, sub[j]? = some v → cs[off + j]? = some v) : w.rangeAt g off sub :=
 fun j v hv => (h.cell (off + j)).trans (hs j v hv)
theorem run_load_mid {w : World} {ρ : Operand → Value} (ty : TypeId) (x : Operand) (ho : o.op = .load ty x) (g off : Nat) (hx : ρ x = .pointer (some ⟨g, off, none⟩)) {t : TypeId} {cs : Array Value} (hg : RowR w g cs t)
  (sub : Array Value) (hs : ∀ j v, sub.toList[j]? = some v → cs[off + j]? = some v) (d : TypeDesc) (hu : P.underlying ty = some d) (hd : d.isRow = true) (hi : (P.info? ty).map (·.size) = some sub.size) :
  (execOp ρ o).run P w = .ok (.value (.agg sub)) w := by
 unfold execOp
 simp only [ho, hx, Instr.loadAt, Instr.sureAddr, Sem.run_bind, Sem.run_pure, Result.andThen_ok, run_loadVar_mid w g off ty sub.toList d (range_of_row hg sub.toList hs) hu hd (by rw [Array.length_toList]; exact hi)]
/-- A row with others cells from a place on. -/
def putAt (cs : Array Value) (off : Nat) (sub : Array Value) : Array Value := sub.toList.zipIdx.foldl (fun c x => c.setIfInBounds (off + x.2) x.1) cs
theorem exec_nil {ρ : Operand → Value} (x : Operand) (ho : o.op = .nilCheck x) (g off : Nat) (hx : ρ x = .pointer (some ⟨g, off, none⟩)) (w : World) : (execOp ρ o).run P w = .ok (.value (.pointer (some ⟨g, off, none⟩))) w := by
 unfold execOp
 simp only [ho, hx]
 rfl
theorem exec_field {ρ : Operand → Value} (s : TypeId) (x : Operand) (fi : Nat) (ho : o.op = .fieldAddr s x fi) (g off : Nat) (hx : ρ x = .pointer (some ⟨g, off, none⟩)) (fs : Array Field) (hu : P.underlying s = some (.struct fs)) (f : Field) (hf : fs[fi]? = some f)
  (z : Nat) (hz : ∀ w, (sizeOf f.type).run P w = .ok (z + 1) w) (w : World) : (execOp ρ o).run P w = .ok (.value (.pointer (some ⟨g, off + f.offset, none⟩))) w := by
 unfold execOp
 simp only [ho, hx, Instr.fieldAt, Sem.run_bind, run_underlying hu, Result.andThen_ok, hf, Instr.sureAddr, Sem.run_pure, fieldPlace, hz]
 simp [Addr.add_mid]
end
section
variable {P : Program} {ops : Array Oper} {W : World} {Q : Act → Prop} {rest : List Oper} {o : Oper} {a : Act}
theorem qw_loadc (hw : Region.wanted o (yielded ops a.tmps) = true) (ty : TypeId) (x : Operand) (ho : o.op = .load ty x) (g i : Nat) (hx : a.eval x = .pointer (some ⟨g, i, none⟩)) {t : TypeId} {cs : Array Value} (hg : Row W g cs t) (v : Value) (hc : cs[i]? = some v)
  (ha : ∀ w, (isAgg ty).run P w = .ok false w) (h : QW P ops W Q rest (a.put o.dst v)) : QW P ops W Q (o :: rest) a := by
 refine ⟨?_⟩
 unfold wpQuiet
 rw [if_pos hw]
 refine ⟨v, fun w hC => ?_, h.out⟩
 have hr : (execOp a.eval o).run P w = .ok (.value v) w := by
  unfold execOp
  simp only [ho, hx, Instr.loadAt, Instr.sureAddr, Sem.run_bind, Sem.run_pure, Result.andThen_ok, run_load_cell w g i ty v ha (((hg.belowAll hC).cell i).trans hc)]
 unfold Oper.quietAt
 rw [hr]
 exact ⟨rfl, rfl⟩
theorem qw_callK {fn : Func} (hw : Region.wanted o (yielded ops a.tmps) = true) (f : FuncId) (args : Array Operand) (ts : Array TypeId)
  (ho : o.op = .call { callee := .value (.func f), args := args, argTypes := ts }) (hf : P.funcs[f]? = some fn) (hb : (fn.name == "runtime.NumGoroutine" || fn.body.isNone) = false)
  (vs : Array Value) (hv' : args.toList.map a.eval = vs.toList) (v : Value)
  (hc : ∀ w, Below W.heap.size W w → Calls P f vs w fun e w' => e = .returned v ∧ Below w.heap.size w w')
  (h : QW P ops W Q rest (a.put o.dst v)) : QW P ops W Q (o :: rest) a := by
 refine ⟨?_⟩
 unfold wpQuiet
 rw [if_pos hw]
 refine ⟨v, fun w hC => ?_, h.out⟩
 have hv : args.map a.eval = vs := by apply Array.toList_inj.1; rw [Array.toList_map]; exact hv'
 have hr := run_callFunc_body (P := P) hf hb vs w
 have hd : (execOp a.eval o).run P w = .ok (.enter f vs) w := by
  unfold execOp
  simp only [ho, resolve, hv, Act.eval]
  simp [Deferred.ofValue, invoke, hr]
 unfold Oper.quietAt
 rw [hd]
 exact ⟨rfl, (hc w hC).mono fun e w' ⟨he, hb'⟩ => ⟨he, below_on hC (Nat.le_refl _) hb'⟩⟩
end
end Go.Proofs.Ytojobffihlmfgaa
/- More laws of the walk of a region: cells of any kind, stores inside a row, slices' elements, closures, calls that fill rows. -/
namespace Go.Proofs.Ytojobffihlmfgaa
open Go.RowKit
/-- A row with other cells from a place on. -/
def putL (cs : Array Value) : Nat → List Value → Array Value
 | _, [] => cs
 | off, v :: r => putL (cs.setIfInBounds off v) (off + 1) r
theorem putL_size : ∀ (l : List Value) (cs : Array Value) (off : Nat), (putL cs off l).size = cs.size
 | [], _, _ => rfl
 | v :: l, cs, off => by unfold putL; rw [putL_size l, Array.size_setIfInBounds]
theorem putL_get : ∀ (l : List Value) (cs : Array Value) (off i : Nat), off + l.length ≤ cs.size → (putL cs off l)[i]? = if off ≤ i ∧ i < off + l.length then l[i - off]? else cs[i]?
 | [], cs, off, i, _ => by rw [if_neg (by simp only [List.length_nil]; omega)]; rfl
 | v :: l, cs, off, i, h => by
  have h1 : off + 1 + l.length ≤ cs.size := by have := h; simp at this; omega
  unfold putL
  rw [putL_get l _ (off + 1) i (by rw [Array.size_setIfInBounds]; exact h1)]
  by_cases e : i = off
  ·subst e
   rw [if_neg (by omega), if_pos (by simp), Array.getElem?_setIfInBounds, if_pos rfl, if_pos (by omega), Nat.sub_self]; rfl
  ·by_cases e2 : off + 1 ≤ i ∧ i < off + 1 + l.length
   ·rw [if_pos e2, if_pos (by simp; omega), show i - off = (i - (off + 1)) + 1 by omega]; rfl
   ·rw [if_neg e2, if_neg (by simp; omega), Array.getElem?_setIfInBounds, if_neg (fun x => e x.symm)]
theorem Row.setCells {g : Nat} {t : TypeId} : ∀ (l : List Value) {w : World} {cs : Array Value} (off : Nat), Row w g cs t → Row (w.setCells g off l) g (putL cs off l) t
 | [], _, _, _, h => h
 | v :: l, w, cs, off, h => by
  unfold World.setCells putL
  exact Row.setCells l (off + 1) (h.setCell off v)
section
variable {P : Program} {olds : Olds} {p : Nat → Nat} {W : World} {F : Act → Ct → Prop} {n : Nat} {l : List Oper} {pl : List Sp} {a : Act} {ct : Ct} {o : Oper}
theorem only_setCells (g : Nat) : ∀ (l : List Value) (w : World) (off : Nat), Only g w (w.setCells g off l)
 | [], _, _ => ⟨rfl, rfl, rfl, rfl, fun _ _ => rfl⟩
 | v :: l, w, off => by
  unfold World.setCells
  have h1 := only_setCell w g off v
  have h2 := only_setCells g l (w.setCell ⟨g, off, none⟩ v) (off + 1)
  exact ⟨h2.os.trans h1.os, h2.tape.trans h1.tape, h2.output.trans h1.output, h2.size.trans h1.size, fun k hk => (h2.block k hk).trans (h1.block k hk)⟩
theorem there_of_row {w : World} {g : Nat} {cs : Array Value} {t : TypeId} (h : Row w g cs t) (off m : Nat) (hm : off + m ≤ cs.size) : w.there g off m := fun j hj => by
 refine ⟨?_, h.frozen _⟩
 rw [h.cell, Array.getElem?_eq_getElem (by omega)]; rfl
/-- A store inside a row. -/
theorem mx_putm (k : Nat) (ty : TypeId) (x y : Operand) (ho : o.op = .store ty x y) (off : Nat) {t : TypeId} {old : Array Value} (hct : ct k = some (t, old)) (hx : a.eval x = .pointer (some ⟨addrOf olds p k, off, none⟩)) (sub : Array Value) (hy : a.eval y = .agg sub)
  (hi : (P.info? ty).map (·.size) = some sub.size) (hold : off + sub.size ≤ old.size) (h1 : sub.all (·.oneCell') = true) (c : Array Value) (hc : putL old off sub.toList = c)
  (h : MX P olds p W F (n + 1) l pl (a.put o.dst undef) (ctSet ct k (t, c))) : MX P olds p W F n (o :: l) ((fun _ => undef, [], none, [(k, c)]) :: pl) a ct := by
 subst hc
 refine mx_fill k _ hct (fun w hr => ⟨w.setCells (addrOf olds p k) off sub.toList, ?_, Row.setCells _ _ hr, only_setCells _ _ _ _⟩) h
 unfold execOp
 simp only [ho, hx, hy, Instr.storeAt, Instr.sureAddr, Sem.run_bind, Sem.run_pure, Result.andThen_ok, run_storeVar_mid w _ off ty sub (there_of_row hr off _ hold) hi h1]
theorem run_store_val (w : World) (g i : Nat) (ty : TypeId) (v old : Value) (hv : v.cells = #[v]) (h1 : v.oneCell' = true) (hz : (P.info? ty).map (·.size) = some 1) (hc : w.cell? ⟨g, i, none⟩ = some old) (hf : w.frozen? ⟨g, i, none⟩ = false) :
  (storeVar ty ⟨g, i, none⟩ v).run P w = .ok () (w.setCell ⟨g, i, none⟩ v) := by
 have ht : w.there g i 1 := fun j hj => by
  obtain rfl : j = 0 := by omega
  exact ⟨by rw [Nat.add_zero, hc]; rfl, hf⟩
 have := run_storeVar_mid (P := P) w g i ty #[v] ht hz (by simp [h1])
 have e : (storeVar ty ⟨g, i, none⟩ v).run P w = (storeVar ty ⟨g, i, none⟩ (.agg #[v])).run P w := by
  unfold storeVar
  rw [hv]
  rfl
 rw [e, this]
 rfl
/-- A store of a value of one cell. -/
theorem mx_putv (k : Nat) (ty : TypeId) (x y : Operand) (ho : o.op = .store ty x y) (i : Nat) {t : TypeId} {old : Array Value} (hct : ct k = some (t, old)) (hx : a.eval x = .pointer (some ⟨addrOf olds p k, i, none⟩)) (v : Value) (hy : a.eval y = v)
  (hv : v.cells = #[v]) (h1 : v.oneCell' = true) (hz : (P.info? ty).map (·.size) = some 1) (hi : i < old.size) (c : Array Value) (hc : old.setIfInBounds i v = c)
  (h : MX P olds p W F (n + 1) l pl (a.put o.dst undef) (ctSet ct k (t, c))) : MX P olds p W F n (o :: l) ((fun _ => undef, [], none, [(k, c)]) :: pl) a ct := by
 subst hc
 refine mx_fill k _ hct (fun w hr => ⟨w.setCell ⟨addrOf olds p k, i, none⟩ v, ?_, hr.setCell _ _, only_setCell _ _ _ _⟩) h
 have hcell : w.cell? ⟨addrOf olds p k, i, none⟩ = some old[i] := (hr.cell i).trans (by simp [hi])
 unfold execOp
 simp only [ho, hx, hy, Instr.storeAt, Instr.sureAddr, Sem.run_bind, Sem.run_pure, Result.andThen_ok, run_store_val w _ i ty v _ hv h1 hz hcell (hr.frozen i)]
theorem exec_index_s {ρ : Operand → Value} (t : TypeId) (x y : Operand) (ho : o.op = .indexAddr t x y) (g off len cap : Nat) (hx : ρ x = .slice (some ⟨g, off, none⟩) len cap) (i : Nat) (hy : ρ y = .int .i64 i) (hi : i < len) (e : TypeId) (hu : P.underlying t = some (.slice e))
  (z : Nat) (hz : ∀ w, (sizeOf e).run P w = .ok z w) (w : World) : (execOp ρ o).run P w = .ok (.value (.pointer (some ⟨g, off + i * z, none⟩))) w := by
 unfold execOp
 simp [ho, hx, hy, Instr.indexAt, Sem.run_bind, run_underlying hu, hz, go_sem, asIntOf, Addr.add_mid, hi]
theorem exec_func {ρ : Operand → Value} (f : FuncId) (caps : Array Operand) (ho : o.op = .makeFunc (.func f) #[] caps) (vs : Array Value) (hv : caps.toList.map ρ = vs.toList) (w : World) : (execOp ρ o).run P w = .ok (.value (.func (.func f) #[] vs)) w := by
 have hv' : caps.map ρ = vs := by apply Array.toList_inj.1; rw [Array.toList_map]; exact hv
 unfold execOp
 simp [ho, Instr.makeFunc, hv']
end
end Go.Proofs.Ytojobffihlmfgaa
/- Loads from rows that are only read, in a quiet walk. -/
namespace Go.Proofs.Ytojobffihlmfgaa
open Go.RowKit
section
variable {P : Program} {ops : Array Oper} {W : World} {Q : Act → Prop} {rest : List Oper} {o : Oper} {a : Act}
theorem qw_loadmR (hw : Region.wanted o (yielded ops a.tmps) = true) (ty : TypeId) (x : Operand) (ho : o.op = .load ty x) (g off : Nat) (hx : a.eval x = .pointer (some ⟨g, off, none⟩)) {t : TypeId} {cs : Array Value} (hg : RowR W g cs t)
  (sub : Array Value) (hs : ∀ j v, sub.toList[j]? = some v → cs[off + j]? = some v) (d : TypeDesc) (hu : P.underlying ty = some d) (hd : d.isRow = true) (hi : (P.info? ty).map (·.size) = some sub.size)
  (h : QW P ops W Q rest (a.put o.dst (.agg sub))) : QW P ops W Q (o :: rest) a := by
 refine ⟨?_⟩
 unfold wpQuiet
 rw [if_pos hw]
 refine ⟨.agg sub, fun w hC => ?_, h.out⟩
 unfold Oper.quietAt
 rw [run_load_mid ty x ho g off hx (hg.belowAll hC) sub hs d hu hd hi]
 exact ⟨rfl, rfl⟩
theorem qw_loadcR (hw : Region.wanted o (yielded ops a.tmps) = true) (ty : TypeId) (x : Operand) (ho : o.op = .load ty x) (g i : Nat) (hx : a.eval x = .pointer (some ⟨g, i, none⟩)) {t : TypeId} {cs : Array Value} (hg : RowR W g cs t) (v : Value) (hc : cs[i]? = some v)
  (ha : ∀ w, (isAgg ty).run P w = .ok false w) (h : QW P ops W Q rest (a.put o.dst v)) : QW P ops W Q (o :: rest) a := by
 refine ⟨?_⟩
 unfold wpQuiet
 rw [if_pos hw]
 refine ⟨v, fun w hC => ?_, h.out⟩
 have hr : (execOp a.eval o).run P w = .ok (.value v) w := by
  unfold execOp
  simp only [ho, hx, Instr.loadAt, Instr.sureAddr, Sem.run_bind, Sem.run_pure, Result.andThen_ok, run_load_cell w g i ty v ha (((hg.belowAll hC).cell i).trans hc)]
 unfold Oper.quietAt
 rw [hr]
 exact ⟨rfl, rfl⟩
end
end Go.Proofs.Ytojobffihlmfgaa
/- A plain region, walked in the text's order. -/
namespace Go.Proofs.Ytojobffihlmfgaa
open Go.RowKit
/-- A plain region, walked in the text's order, the world with it. -/
structure PW (P : Program) (ops : Array Oper) (Q : Exit → Act → World → Prop) (l : List Oper) (a : Act) (w : World) : Prop where
 out : wpList P ops Q l a w
section
variable {P : Program} {ops : Array Oper} {Q : Exit → Act → World → Prop} {rest : List Oper} {o : Oper} {a : Act} {w : World}
theorem wp_region_pw {id : Nat} {l : List Oper} (h : PW P l.toArray Q l a w) : (Code.region id l.toArray false).wp P Q a w := wp_region_lit h.out
theorem rp {id : Nat} {l : List Oper} (h : PW P l.toArray Q l a w) : (Code.region id l.toArray false).wp P Q a w := wp_region_lit h.out
theorem pw_nil (h : Q .normal a w) : PW P ops Q [] a w := ⟨h⟩
theorem pw_run (hw : Region.wanted o (yielded ops a.tmps) = true) (v : Value) (w' : World) (hr : (execOp a.eval o).run P w = .ok (.value v) w') (h : PW P ops Q rest (a.put o.dst v) w') : PW P ops Q (o :: rest) a w := by
 refine ⟨?_⟩
 unfold wpList
 rw [if_pos hw]
 left
 unfold Oper.wp
 rw [hr]
 exact h.out
theorem pw_value (hw : Region.wanted o (yielded ops a.tmps) = true) (v : Value) (hr : ∀ w, (execOp a.eval o).run P w = .ok (.value v) w) (h : PW P ops Q rest (a.put o.dst v) w) : PW P ops Q (o :: rest) a w := pw_run hw v w (hr w) h
theorem pw_move (hw : Region.wanted o (yielded ops a.tmps) = true) {x : Operand} {v : Value} (ho : o.op = .move x ∨ o.op = .assign x) (hv : a.eval x = v) (h : PW P ops Q rest (a.put o.dst v) w) : PW P ops Q (o :: rest) a w := by
 refine pw_run hw v w ?_ h
 unfold execOp
 rcases ho with ho | ho <;> simp only [ho, hv] <;> rfl
theorem pw_call {fn : Func} (hw : Region.wanted o (yielded ops a.tmps) = true) (f : FuncId) (args : Array Operand) (ts : Array TypeId)
  (ho : o.op = .call { callee := .value (.func f), args := args, argTypes := ts }) (hf : P.funcs[f]? = some fn) (hb : (fn.name == "runtime.NumGoroutine" || fn.body.isNone) = false)
  (vs : Array Value) (hv' : args.toList.map a.eval = vs.toList) (v : Value) (hc : Calls P f vs w fun e w' => e = .returned v ∧ Below w.heap.size w w')
  (h : ∀ w', Below w.heap.size w w' → PW P ops Q rest (a.put o.dst v) w') : PW P ops Q (o :: rest) a w := by
 refine ⟨?_⟩
 unfold wpList
 rw [if_pos hw]
 left
 refine (opw_call f args ts ho hf hb vs hv' ?_).out
 exact hc.mono fun e w' ⟨he, hb'⟩ => ⟨v, he, (h w' hb').out⟩
theorem pw_lits (hw : Region.wanted o (yielded ops a.tmps) = true) (t e : TypeId) (len : Nat) (parts : Array (Nat × Operand)) (ho : o.op = .buildSlice t len parts) (cells : Array Value) (ie : TypeInfo) (z : Value)
  (hu : P.underlying t = some (.slice e)) (hie : P.info? e = some ie) (hz : ie.zero = some z) (hsmall : ¬ len * ie.size > 2 ^ 24) (hpos : ¬ len * ie.size = 0)
  (vals : List (Nat × Value)) (hv : parts.toList.map (fun x => (x.1, a.eval x.2)) = vals)
  (hf : Instr.fill (fun i => some (i * ie.size, ie.size)) ((Array.range (len * ie.size)).map (z.cells[· % z.cells.size]!)) vals = some cells)
  (h : PW P ops Q rest (a.put o.dst (.slice (some ⟨w.heap.size, 0, none⟩) len len)) (w.alloc (.cells cells e))) : PW P ops Q (o :: rest) a w := by
 have hf' : Instr.fill (fun i => some (i * ie.size, ie.size)) ((Array.range (len * ie.size)).map (z.cells[· % z.cells.size]!)) (parts.map fun (i, x) => (i, a.eval x)).toList = some cells := by
  rw [Array.toList_map]; rw [← hv] at hf; exact hf
 refine pw_run hw _ _ ?_ h
 unfold execOp
 simp only [ho, Sem.run_bind, run_buildSlice w t e len _ cells ie z hu hie hz hsmall hpos hf', Result.andThen_ok]
 rfl
theorem pw_pick (hw : Region.wanted o (yielded ops a.tmps) = true) {c x y : Operand} (b : Bool) {v : Value} (ho : o.op = .pick c x y) (hc : a.eval c = .bool b) (hv : a.eval (if b then x else y) = v) (h : PW P ops Q rest (a.put o.dst v) w) : PW P ops Q (o :: rest) a w := by
 refine pw_run hw v w ?_ h
 subst hv
 unfold execOp
 rw [ho]
 simp only [hc]
 cases b <;> rfl
end
end Go.Proofs.Ytojobffihlmfgaa
/- Mix's walk with guards: a region that draws its order, some of whose operations are left out. -/
namespace Go.Proofs.Ytojobffihlmfgaa
open Go.RowKit
section
variable {P : Program}
/-- An operation that is left out. -/
def skipS : Sp := (fun _ => undef, [], none, [])
def ObG (P : Program) (ops : Array Oper) (olds : Olds) (p : Nat → Nat) (W : World) (n : Nat) (ct : Ct) (o : Oper) (a : Act) (s : Sp) : Prop :=
 (Region.wanted o (yielded ops a.tmps) = true ∧ Ob P olds p W n ct o a s) ∨ (Region.wanted o (yielded ops a.tmps) = false ∧ s = skipS)
def ObsG (P : Program) (ops : Array Oper) (olds : Olds) (p : Nat → Nat) (W : World) (F : Act → Ct → Prop) : Nat → List Oper → List Sp → Act → Ct → Prop
 | _, [], [], a, ct => F a ct
 | n, o :: l, s :: pl, a, ct => ObG P ops olds p W n ct o a s ∧ ObsG P ops olds p W F (n + 1) l pl (a.put o.dst (spV p s)) (spC n s ct)
 | _, _, _, _, _ => False
/-- The walk in the text's order, behind a name that is not opened. -/
structure MG (P : Program) (ops : Array Oper) (olds : Olds) (p : Nat → Nat) (W : World) (F : Act → Ct → Prop) (n : Nat) (l : List Oper) (pl : List Sp) (a : Act) (ct : Ct) : Prop where
 out : ObsG P ops olds p W F n l pl a ct
theorem wanted_same {ops : Array Oper} (o : Oper) {a a' : Act} (hz : a.tmps.size = a'.tmps.size) (h : ∀ g want, o.guard = some (g, want) → ∀ t, (ops[g]?).bind (·.dst) = some t → a.eval (.tmp t) = a'.eval (.tmp t)) :
  Region.wanted o (yielded ops a.tmps) = Region.wanted o (yielded ops a'.tmps) := by
 unfold Region.wanted
 cases hg : o.guard with
 | none => rfl
 | some gw =>
  obtain ⟨g, want⟩ := gw
  have hy : yielded ops a.tmps g = yielded ops a'.tmps g := by
   unfold yielded
   cases ht : (ops[g]?).bind (·.dst) with
   | none => rfl
   | some t =>
    have e := h g want hg t ht
    have e2 : a.tmps[t]? = a'.tmps[t]? := by
     by_cases hlt : t < a.tmps.size
     ·have hlt' : t < a'.tmps.size := hz ▸ hlt
      simp only [Act.eval, Array.getD, hlt, hlt', dite_true] at e
      rw [Array.getElem?_eq_getElem hlt, Array.getElem?_eq_getElem hlt']
      exact congrArg some e
     ·rw [Array.getElem?_eq_none (Nat.le_of_not_lt hlt), Array.getElem?_eq_none (Nat.le_of_not_lt (hz ▸ hlt))]
    simp only [Option.bind_some, e2]
  simp only [hy]
def chkPairG (ops : Array Oper) (l : List (Oper × Sp)) (x : Oper × Sp) (i : Nat) (y : Oper × Sp) (j : Nat) : Bool :=
 j == i || ((match y.1.dst with
  | none => true
  | some s => x.1.dst != some s && (!(x.1.looksAt ops).contains s || ((decide (j < i) && reach l l.length i j) || (decide (i < j) && reach l l.length j i)))) &&
 (hits j y.2).all fun k => !(keysOf x.2).contains k || (if j < i then reach l l.length i j else reach l l.length j i))
def chkG (ops : Array Oper) (l : List (Oper × Sp)) : Bool :=
 l.zipIdx.all fun z => (match z.1.1.op with | .select _ _ => false | _ => true) && (z.1.1.after.all fun e => !Region.binds .any e || decide (e.on < z.2)) && ((keysOf z.1.2).all fun k => k % 2 == 0 || decide (k / 2 < z.2)) &&
  l.zipIdx.all fun u => chkPairG ops l z.1 z.2 u.1 u.2
variable {ops : Array Oper} {olds : Olds} {p : Nat → Nat} {W : World} {F : Act → Ct → Prop} {n : Nat} {l : List Oper} {pl : List Sp} {a : Act} {ct : Ct} {o : Oper} {s : Sp}
end
end Go.Proofs.Ytojobffihlmfgaa
