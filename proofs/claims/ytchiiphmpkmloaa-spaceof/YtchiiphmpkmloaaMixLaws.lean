/- The laws by which a walk of 'MX' goes on, one an operation. -/
import Derived.Test.YtchiiphmpkmloaaMix
import Derived.Test.YtchiiphmpkmloaaTypes
namespace Go.Proofs.Ytchiiphmpkmloaa
open Go.RowKit
section
variable {P : Program} {olds : Olds} {p : Nat → Nat} {W : World} {F : Act → Ct → Prop} {n : Nat} {l : List Oper} {pl : List Sp} {a : Act} {ct : Ct} {o : Oper}
theorem run_load_cell (w : World) (g i : Nat) (ty : TypeId) (v : Value) (ha : ∀ w, (isAgg ty).run P w = .ok false w) (hc : w.cell? ⟨g, i, none⟩ = some v) : (loadVar ty ⟨g, i, none⟩).run P w = .ok v w := by
 unfold loadVar
 simp [Sem.run_bind, ha, hc, go_sem]
theorem run_store_cell (w : World) (g i : Nat) (ty : TypeId) (k : IntKind) (m : Int) (old : Value) (hz : ∀ w, (sizeOf ty).run P w = .ok 1 w) (hc : w.cell? ⟨g, i, none⟩ = some old) (hf : w.frozen? ⟨g, i, none⟩ = false) :
  (storeVar ty ⟨g, i, none⟩ (.int k m)).run P w = .ok () (w.setCell ⟨g, i, none⟩ (.int k m)) := by
 unfold storeVar
 simp [Sem.run_bind, hz, hc, hf, go_sem, Value.cells, storeCells]
theorem mx_end (h : F a ct) : MX P olds p W F n [] [] a ct := ⟨h⟩
theorem spC_val (n : Nat) (f : (Nat → Nat) → Value) (r : List Nat) (ct : Ct) : spC n (f, r, none, []) ct = ct := by
 funext k
 rfl
theorem spC_new (n : Nat) (f : (Nat → Nat) → Value) (r : List Nat) (m : TypeId × Array Value) (ct : Ct) : spC n (f, r, some m, []) ct = ctSet ct (2 * n + 1) m := by
 funext k
 unfold ctSet
 by_cases e : k = 2 * n + 1
 ·subst e
  rw [if_pos rfl]
  exact spC_made (s := (f, r, some m, [])) rfl ct
 ·rw [if_neg e]
  exact spC_other (s := (f, r, some m, [])) ct (by simp [hits, e])
theorem spC_put (n : Nat) (f : (Nat → Nat) → Value) (r : List Nat) (k : Nat) (c : Array Value) (ct : Ct) {t : TypeId} {old : Array Value} (hct : ct k = some (t, old)) : spC n (f, r, none, [(k, c)]) ct = ctSet ct k (t, c) := by
 funext j
 unfold ctSet
 by_cases e : j = k
 ·subst e
  rw [if_pos rfl]
  obtain ⟨c', hc', h⟩ := spC_fill (s := (f, r, none, [(j, c)])) (i := n) (k := j) (by simp) (.inl rfl) ct
  rw [h, hct]
  have : c' = c := by simpa using hc'
  rw [this]; rfl
 ·rw [if_neg e]
  exact spC_other (s := (f, r, none, [(k, c)])) ct (by simp [hits, e])
theorem eff_below {s : Sp} (hs : s.2.2.1 = none) (hf : s.2.2.2 = []) {w w2 : World} (hb : Below w.heap.size w w2) (v : Value) (hv : v = s.1 p) : Eff olds p n ct s w v w2 :=
 ⟨hb.os, hb.tape, hb.output, hb.size, fun b hlt _ => hb.block b hlt, fun x hx => (by rw [hf] at hx; cases hx), .inl ⟨hs, hv⟩⟩
theorem mx_value (v : Value) (ks : List Nat) (hr : ∀ w, Kept (olds.map (·.1)) W w → (∀ k ∈ ks, ∀ y, ct k = some y → Row w (addrOf olds p k) y.2 y.1) → (execOp a.eval o).run P w = .ok (.value v) w)
  (h : MX P olds p W F (n + 1) l pl (a.put o.dst v) ct) : MX P olds p W F n (o :: l) ((fun _ => v, ks, none, []) :: pl) a ct := by
 refine ⟨⟨⟨.inl ⟨v, rfl⟩, fun x hx => (by cases hx), fun w hk hrw => ?_⟩, ?_⟩⟩
 ·rw [hr w hk fun k hkk => hrw k (List.mem_append_left _ hkk)]
  exact eff_below rfl rfl (Below.refl _ _) v rfl
 ·rw [spC_val]; exact h.out
theorem mx_enter (f : FuncId) (vs : Array Value) (v : Value) (ks : List Nat) (hr : ∀ w, (execOp a.eval o).run P w = .ok (.enter f vs) w)
  (hc : ∀ w, Kept (olds.map (·.1)) W w → (∀ k ∈ ks, ∀ y, ct k = some y → Row w (addrOf olds p k) y.2 y.1) → Calls P f vs w fun e w' => e = .returned v ∧ Below w.heap.size w w')
  (h : MX P olds p W F (n + 1) l pl (a.put o.dst v) ct) : MX P olds p W F n (o :: l) ((fun _ => v, ks, none, []) :: pl) a ct := by
 refine ⟨⟨⟨.inl ⟨v, rfl⟩, fun x hx => (by cases hx), fun w hk hrw => ?_⟩, ?_⟩⟩
 ·rw [hr w]
  exact ⟨rfl, (hc w hk fun k hkk => hrw k (List.mem_append_left _ hkk)).mono fun e w' ⟨he, hb⟩ => ⟨v, he, eff_below rfl rfl hb v rfl⟩⟩
 ·rw [spC_val]; exact h.out
theorem mx_made (f : Nat → Value) (t : TypeId) (c : Array Value) (hr : ∀ w, (execOp a.eval o).run P w = .ok (.value (f w.heap.size)) (w.alloc (.cells c t)))
  (h : MX P olds p W F (n + 1) l pl (a.put o.dst (f (p n))) (ctSet ct (2 * n + 1) (t, c))) : MX P olds p W F n (o :: l) ((fun q => f (q n), [], some (t, c), []) :: pl) a ct := by
 refine ⟨⟨⟨.inr (.inl ⟨f, rfl⟩), fun x hx => (by cases hx), fun w hk hrw => ?_⟩, ?_⟩⟩
 ·rw [hr w]
  have hb := below_alloc (w := w) (.cells c t)
  exact ⟨hb.os, hb.tape, hb.output, hb.size, fun b hlt _ => hb.block b hlt, fun x hx => (by cases hx), .inr ⟨_, w.heap.size, rfl, by show f _ = f (upd p n _ n); rw [upd_same], Nat.le_refl _, Row.new _ _ _⟩⟩
 ·rw [spC_new]; exact h.out
/-- One block alone has turned. -/
structure Only (g : Nat) (w w' : World) : Prop where
 os : w'.os = w.os
 tape : w'.tape = w.tape
 output : w'.output = w.output
 size : w'.heap.size = w.heap.size
 block : ∀ k, k ≠ g → w'.heap[k]? = w.heap[k]?
theorem mx_fill (k : Nat) (c : Array Value) {t : TypeId} {old : Array Value} (hct : ct k = some (t, old)) (hst : ∀ w, Row w (addrOf olds p k) old t → ∃ w2, (execOp a.eval o).run P w = .ok .skip w2 ∧ Row w2 (addrOf olds p k) c t ∧ Only (addrOf olds p k) w w2)
  (h : MX P olds p W F (n + 1) l pl (a.put o.dst undef) (ctSet ct k (t, c))) : MX P olds p W F n (o :: l) ((fun _ => undef, [], none, [(k, c)]) :: pl) a ct := by
 refine ⟨⟨⟨.inl ⟨undef, rfl⟩, fun x hx => ?_, fun w hk hrw => ?_⟩, ?_⟩⟩
 ·obtain rfl : x = (k, c) := List.mem_singleton.1 hx
  exact ⟨_, hct⟩
 ·obtain ⟨w2, hr, r2, ho⟩ := hst w (hrw k (List.mem_append_right _ (List.mem_singleton.2 rfl)) _ hct)
  rw [hr]
  refine ⟨ho.os, ho.tape, ho.output, by rw [ho.size]; exact Nat.le_refl _, fun b _ hne => ho.block b (hne (k, c) (List.mem_singleton.2 rfl)), fun x hx y hy => ?_, .inl ⟨rfl, rfl⟩⟩
  obtain rfl : x = (k, c) := List.mem_singleton.1 hx
  obtain rfl : (t, old) = y := Option.some.inj (hct.symm.trans hy)
  exact r2
 ·rw [spC_put n _ _ k c ct hct]; exact h.out
/-- A call that makes a row, and hands back a value of its place. -/
theorem mx_callN {fn : Func} (f : FuncId) (args : Array Operand) (ts : Array TypeId)
  (ho : o.op = .call { callee := .value (.func f), args := args, argTypes := ts }) (hf : P.funcs[f]? = some fn) (hb : (fn.name == "runtime.NumGoroutine" || fn.body.isNone) = false)
  (vs : Array Value) (hv' : args.toList.map a.eval = vs.toList) (vf : Nat → Value) (t : TypeId) (c : Array Value)
  (hc : ∀ w, Kept (olds.map (·.1)) W w → Calls P f vs w fun e w' => ∃ g, e = .returned (vf g) ∧ w.heap.size ≤ g ∧ Row w' g c t ∧ Below w.heap.size w w')
  (h : MX P olds p W F (n + 1) l pl (a.put o.dst (vf (p n))) (ctSet ct (2 * n + 1) (t, c))) : MX P olds p W F n (o :: l) ((fun q => vf (q n), [], some (t, c), []) :: pl) a ct := by
 refine ⟨⟨⟨.inr (.inl ⟨vf, rfl⟩), fun x hx => (by cases hx), fun w hk hrw => ?_⟩, ?_⟩⟩
 ·have hv : args.map a.eval = vs := by apply Array.toList_inj.1; rw [Array.toList_map]; exact hv'
  have hr := run_callFunc_body (P := P) hf hb vs w
  have hd : (execOp a.eval o).run P w = .ok (.enter f vs) w := by
   unfold execOp
   simp only [ho, resolve, hv, Act.eval]
   simp [Deferred.ofValue, invoke, hr]
  rw [hd]
  exact ⟨rfl, (hc w hk).mono fun e w' ⟨g, he, hg, hrow, hbe⟩ => ⟨vf g, he, hbe.os, hbe.tape, hbe.output, hbe.size, fun b hlt _ => hbe.block b hlt, fun x hx => (by cases hx), .inr ⟨_, g, rfl, by show vf g = vf (upd p n g n); rw [upd_same], hg, hrow⟩⟩⟩
 ·rw [spC_new]; exact h.out
theorem mx_val (v : Value) (hr : ∀ w, (execOp a.eval o).run P w = .ok (.value v) w) (h : MX P olds p W F (n + 1) l pl (a.put o.dst v) ct) : MX P olds p W F n (o :: l) ((fun _ => v, [], none, []) :: pl) a ct :=
 mx_value v [] (fun w _ _ => hr w) h
theorem eval_at {t : Tmp} {v : Value} (h : a.tmps.toList[t]? = some v) : a.eval (.tmp t) = v := by
 have h' : a.tmps[t]? = some v := by rw [← Array.getElem?_toList]; exact h
 simp [Act.eval, h']
theorem mx_move {t : Tmp} {v : Value} (ho : o.op = .move (.tmp t)) (hx : a.tmps.toList[t]? = some v) (h : MX P olds p W F (n + 1) l pl (a.put o.dst v) ct) : MX P olds p W F n (o :: l) ((fun _ => v, [], none, []) :: pl) a ct :=
 mx_val v (fun w => by unfold execOp; rw [ho]; simp only [eval_at hx]; rfl) h
theorem mx_asg {t : Tmp} {v : Value} (ho : o.op = .assign (.tmp t)) (hx : a.tmps.toList[t]? = some v) (h : MX P olds p W F (n + 1) l pl (a.put o.dst v) ct) : MX P olds p W F n (o :: l) ((fun _ => v, [], none, []) :: pl) a ct :=
 mx_val v (fun w => by unfold execOp; rw [ho]; simp only [eval_at hx]; rfl) h
/-- A value of the place of a row that this region has made. -/
theorem mx_asgP (j : Nat) (vf : Nat → Value) {t : Tmp} (ho : o.op = .assign (.tmp t) ∨ o.op = .move (.tmp t)) (hj : j < n) (hx : a.tmps.toList[t]? = some (vf (p j))) (h : MX P olds p W F (n + 1) l pl (a.put o.dst (vf (p j))) ct) :
  MX P olds p W F n (o :: l) ((fun q => vf (q j), [2 * j + 1], none, []) :: pl) a ct := by
 refine ⟨⟨⟨.inr (.inr ⟨j, vf, hj, List.mem_singleton.2 rfl, rfl⟩), fun x hx => (by cases hx), fun w hk hrw => ?_⟩, ?_⟩⟩
 ·have hr : (execOp a.eval o).run P w = .ok (.value (vf (p j))) w := by
   unfold execOp
   rcases ho with ho | ho <;> rw [ho] <;> simp only [eval_at hx] <;> rfl
  rw [hr]
  exact eff_below rfl rfl (Below.refl _ _) _ rfl
 ·rw [spC_val]; exact h.out
theorem mx_ext {t : Tmp} {i : Nat} {vs : Array Value} {v : Value} (ho : o.op = .extract (.tmp t) i) (hx : a.tmps.toList[t]? = some (.tuple vs)) (hv : vs.toList[i]? = some v) (h : MX P olds p W F (n + 1) l pl (a.put o.dst v) ct) : MX P olds p W F n (o :: l) ((fun _ => v, [], none, []) :: pl) a ct := by
 have hv' : vs[i]? = some v := by rw [← Array.getElem?_toList]; exact hv
 refine mx_val v (fun w => ?_) h
 unfold execOp
 rw [ho]
 simp only [eval_at hx, Instr.extract]
 simp [hv']
theorem mx_call {fn : Func} (f : FuncId) (args : Array Operand) (ts : Array TypeId)
  (ho : o.op = .call { callee := .value (.func f), args := args, argTypes := ts }) (hf : P.funcs[f]? = some fn) (hb : (fn.name == "runtime.NumGoroutine" || fn.body.isNone) = false)
  (vs : Array Value) (hv' : args.toList.map a.eval = vs.toList) (v : Value)
  (hc : ∀ w, Calls P f vs w fun e w' => e = .returned v ∧ Below w.heap.size w w')
  (h : MX P olds p W F (n + 1) l pl (a.put o.dst v) ct) : MX P olds p W F n (o :: l) ((fun _ => v, [], none, []) :: pl) a ct := by
 refine mx_enter f vs v [] (fun w => ?_) (fun w _ _ => hc w) h
 have hv : args.map a.eval = vs := by apply Array.toList_inj.1; rw [Array.toList_map]; exact hv'
 have hr := run_callFunc_body (P := P) hf hb vs w
 unfold execOp
 simp only [ho, resolve, hv, Act.eval]
 simp [Deferred.ofValue, invoke, hr]
theorem m_c {fn : Func} (f : FuncId) (hf : P.funcs[f]? = some fn) (vs : Array Value) {v : Value} (hc : ∀ w, Calls P f vs w fun e w' => e = .returned v ∧ Below w.heap.size w w') (h : MX P olds p W F (n + 1) l pl (a.put o.dst v) ct) {args : Array Operand} {ts : Array TypeId} (ho : o.op = .call { callee := .value (.func f), args := args, argTypes := ts } := by exact rfl) (hb : (fn.name == "runtime.NumGoroutine" || fn.body.isNone) = false := by kernel_rfl) (hv' : args.toList.map a.eval = vs.toList := by exact rfl) : MX P olds p W F n (o :: l) ((fun _ => v, [], none, []) :: pl) a ct := mx_call f args ts ho hf hb vs hv' v hc h
theorem mx_load (ty : TypeId) (x : Operand) (ho : o.op = .load ty x) (g : Nat) (hx : a.eval x = .pointer (some ⟨g, 0, none⟩)) {t : TypeId} {cs : Array Value} (hg : Row W g cs t) (hS : g ∉ olds.map (·.1)) (m : Nat) (e : TypeId)
  (hu : P.underlying ty = some (.array m e)) (hi : (P.info? ty).map (·.size) = some cs.size)
  (h : MX P olds p W F (n + 1) l pl (a.put o.dst (.agg cs)) ct) : MX P olds p W F n (o :: l) ((fun _ => .agg cs, [], none, []) :: pl) a ct := by
 refine mx_value (.agg cs) [] (fun w hk _ => ?_) h
 unfold execOp
 simp only [ho, hx, Instr.loadAt, Instr.sureAddr, Sem.run_bind, Sem.run_pure, Result.andThen_ok, run_loadVar_row w g t ty cs (0, 0) _ (hk.row hg hS) hu rfl hi]
theorem mx_loadT (k : Nat) (ty : TypeId) (x : Operand) (ho : o.op = .load ty x) {t : TypeId} {cs : Array Value} (hct : ct k = some (t, cs)) (hx : a.eval x = .pointer (some ⟨addrOf olds p k, 0, none⟩)) (m : Nat) (e : TypeId)
  (hu : P.underlying ty = some (.array m e)) (hi : (P.info? ty).map (·.size) = some cs.size)
  (h : MX P olds p W F (n + 1) l pl (a.put o.dst (.agg cs)) ct) : MX P olds p W F n (o :: l) ((fun _ => .agg cs, [k], none, []) :: pl) a ct := by
 refine mx_value (.agg cs) [k] (fun w _ hrw => ?_) h
 have hg := hrw k (List.mem_singleton.2 rfl) _ hct
 unfold execOp
 simp only [ho, hx, Instr.loadAt, Instr.sureAddr, Sem.run_bind, Sem.run_pure, Result.andThen_ok, run_loadVar_row w _ t ty cs (0, 0) _ hg hu rfl hi]
theorem mx_loadc (ty : TypeId) (x : Operand) (ho : o.op = .load ty x) (g i : Nat) (hx : a.eval x = .pointer (some ⟨g, i, none⟩)) {t : TypeId} {cs : Array Value} (hg : Row W g cs t) (hS : g ∉ olds.map (·.1)) (v : Value) (hc : cs[i]? = some v)
  (ha : ∀ w, (isAgg ty).run P w = .ok false w)
  (h : MX P olds p W F (n + 1) l pl (a.put o.dst v) ct) : MX P olds p W F n (o :: l) ((fun _ => v, [], none, []) :: pl) a ct := by
 refine mx_value v [] (fun w hk _ => ?_) h
 unfold execOp
 simp only [ho, hx, Instr.loadAt, Instr.sureAddr, Sem.run_bind, Sem.run_pure, Result.andThen_ok, run_load_cell w g i ty v ha ((hk.row hg hS).cell i |>.trans hc)]
theorem mx_loadcT (k : Nat) (ty : TypeId) (x : Operand) (ho : o.op = .load ty x) (i : Nat) {t : TypeId} {cs : Array Value} (hct : ct k = some (t, cs)) (hx : a.eval x = .pointer (some ⟨addrOf olds p k, i, none⟩)) (v : Value) (hc : cs[i]? = some v)
  (ha : ∀ w, (isAgg ty).run P w = .ok false w)
  (h : MX P olds p W F (n + 1) l pl (a.put o.dst v) ct) : MX P olds p W F n (o :: l) ((fun _ => v, [k], none, []) :: pl) a ct := by
 refine mx_value v [k] (fun w _ hrw => ?_) h
 have hg := hrw k (List.mem_singleton.2 rfl) _ hct
 unfold execOp
 simp only [ho, hx, Instr.loadAt, Instr.sureAddr, Sem.run_bind, Sem.run_pure, Result.andThen_ok, run_load_cell w _ i ty v ha (hg.cell i |>.trans hc)]
theorem mx_new (t : TypeId) (ho : o.op = .alloc t) (c : Array Value) (hz : ∀ w, (zeroValue t).run P w = .ok (.agg c) w)
  (h : MX P olds p W F (n + 1) l pl (a.put o.dst (.pointer (some ⟨p n, 0, none⟩))) (ctSet ct (2 * n + 1) (t, c))) : MX P olds p W F n (o :: l) ((fun q => .pointer (some ⟨q n, 0, none⟩), [], some (t, c), []) :: pl) a ct :=
 mx_made (fun g => .pointer (some ⟨g, 0, none⟩)) t c (fun w => by unfold execOp; simp only [ho, Instr.alloc, Sem.run_bind, hz, Result.andThen_ok, newVar, newRow]; rfl) h
theorem mx_box (t : TypeId) (x : Operand) (ho : o.op = .box t x) (c : Array Value) (hx : a.eval x = .agg c)
  (h : MX P olds p W F (n + 1) l pl (a.put o.dst (.pointer (some ⟨p n, 0, none⟩))) (ctSet ct (2 * n + 1) (t, c))) : MX P olds p W F n (o :: l) ((fun q => .pointer (some ⟨q n, 0, none⟩), [], some (t, c), []) :: pl) a ct :=
 mx_made (fun g => .pointer (some ⟨g, 0, none⟩)) t c (fun w => by unfold execOp; simp only [ho, hx, Instr.box, Sem.run_bind, newVar, newRow]; rfl) h
theorem only_setRow (w : World) (g : Nat) (c : Array Value) : Only g w (w.setRow g c) := ⟨rfl, rfl, rfl, by simp, fun k hk => setRow_other w g k c hk⟩
theorem only_setCell (w : World) (g i : Nat) (v : Value) : Only g w (w.setCell ⟨g, i, none⟩ v) := ⟨rfl, rfl, rfl, setCell_size _ _ _, fun k hk => heap_setCell_other w ⟨g, i, none⟩ k v hk⟩
theorem mx_put (k : Nat) (ty : TypeId) (x y : Operand) (ho : o.op = .store ty x y) {t : TypeId} {old : Array Value} (hct : ct k = some (t, old)) (hx : a.eval x = .pointer (some ⟨addrOf olds p k, 0, none⟩)) (c : Array Value) (hy : a.eval y = .agg c)
  (hi : (P.info? ty).map (·.size) = some c.size) (hold : old.size = c.size) (h1 : c.all (·.oneCell') = true)
  (h : MX P olds p W F (n + 1) l pl (a.put o.dst undef) (ctSet ct k (t, c))) : MX P olds p W F n (o :: l) ((fun _ => undef, [], none, [(k, c)]) :: pl) a ct := by
 refine mx_fill k c hct (fun w hr => ⟨w.setRow (addrOf olds p k) c, ?_, hr.setRow _, only_setRow _ _ _⟩) h
 unfold execOp
 simp only [ho, hx, hy, Instr.storeAt, Instr.sureAddr, Sem.run_bind, Sem.run_pure, Result.andThen_ok, run_storeVar_row w _ t ty old c hr hi hold h1]
theorem mx_putc (k : Nat) (ty : TypeId) (x y : Operand) (ho : o.op = .store ty x y) (i : Nat) {t : TypeId} {old : Array Value} (hct : ct k = some (t, old)) (hx : a.eval x = .pointer (some ⟨addrOf olds p k, i, none⟩)) (kd : IntKind) (m : Int) (hy : a.eval y = .int kd m)
  (hz : ∀ w, (sizeOf ty).run P w = .ok 1 w) (hi : i < old.size) (c : Array Value) (hc : old.setIfInBounds i (.int kd m) = c)
  (h : MX P olds p W F (n + 1) l pl (a.put o.dst undef) (ctSet ct k (t, c))) : MX P olds p W F n (o :: l) ((fun _ => undef, [], none, [(k, c)]) :: pl) a ct := by
 subst hc
 refine mx_fill k _ hct (fun w hr => ⟨w.setCell ⟨addrOf olds p k, i, none⟩ (.int kd m), ?_, hr.setCell _ _, only_setCell _ _ _ _⟩) h
 have hcell : w.cell? ⟨addrOf olds p k, i, none⟩ = some old[i] := (hr.cell i).trans (by simp [hi])
 unfold execOp
 simp only [ho, hx, hy, Instr.storeAt, Instr.sureAddr, Sem.run_bind, Sem.run_pure, Result.andThen_ok, run_store_cell w _ i ty kd m _ hz hcell (hr.frozen i)]
/-- A function's end: two results, both rows in memory. -/
theorem ret_rows2 {fn : Func} {R : Ending → World → Prop} {a : Act} {w : World} {p p' : Tmp} {ty : TypeId} (hf : fn.results = #[.cell p ty, .cell p' ty]) (g : Nat) (hp : a.tmps.getD p undef = .pointer (some ⟨g, 0, none⟩))
  {t : TypeId} {cs : Array Value} (hr : Row w g cs t) (g' : Nat) (hp' : a.tmps.getD p' undef = .pointer (some ⟨g', 0, none⟩)) {t' : TypeId} {cs' : Array Value} (hr' : Row w g' cs' t') (n : Nat) (e : TypeId) (hu : P.underlying ty = some (.array n e)) (hi : (P.info? ty).map (·.size) = some cs.size) (hi' : (P.info? ty).map (·.size) = some cs'.size) (hd : a.defers = [])
  (h : R (.returned (.tuple #[.agg cs, .agg cs'])) w) : bodyPost P fn R .ret a w := by
 refine bodyPost_ret (v := .tuple #[.agg cs, .agg cs']) ?_ hd h
 have h1 := run_loadVar_row w g t ty cs (0, 0) _ hr hu rfl hi
 have h2 := run_loadVar_row w g' t' ty cs' (0, 0) _ hr' hu rfl hi'
 rw [Array.getD_eq_getD_getElem?] at hp hp'
 simp [results, hf, hp, hp', Sem.run_bind, asAddr, h1, h2]
/-- Two results: a value, then a row. -/
theorem ret_val_row {fn : Func} {R : Ending → World → Prop} {a : Act} {w : World} {u p : Tmp} {ty : TypeId} (hf : fn.results = #[.tmp u, .cell p ty]) (v : Value) (hv : a.tmps.getD u undef = v) (g : Nat) (hp : a.tmps.getD p undef = .pointer (some ⟨g, 0, none⟩))
  {t : TypeId} {cs : Array Value} (hr : Row w g cs t) (n : Nat) (e : TypeId) (hu : P.underlying ty = some (.array n e)) (hi : (P.info? ty).map (·.size) = some cs.size) (hd : a.defers = [])
  (h : R (.returned (.tuple #[v, .agg cs])) w) : bodyPost P fn R .ret a w := by
 refine bodyPost_ret (v := .tuple #[v, .agg cs]) ?_ hd h
 have h1 := run_loadVar_row w g t ty cs (0, 0) _ hr hu rfl hi
 rw [Array.getD_eq_getD_getElem?] at hp hv
 simp [results, hf, hp, hv, asAddr, h1]
/-- Three results: two rows, then a value. -/
theorem ret_rows2_val {fn : Func} {R : Ending → World → Prop} {a : Act} {w : World} {p p' u : Tmp} {ty : TypeId} (hf : fn.results = #[.cell p ty, .cell p' ty, .tmp u]) (g : Nat) (hp : a.tmps.getD p undef = .pointer (some ⟨g, 0, none⟩))
  {t : TypeId} {cs : Array Value} (hr : Row w g cs t) (g' : Nat) (hp' : a.tmps.getD p' undef = .pointer (some ⟨g', 0, none⟩)) {t' : TypeId} {cs' : Array Value} (hr' : Row w g' cs' t') (v : Value) (hv : a.tmps.getD u undef = v) (n : Nat) (e : TypeId) (hu : P.underlying ty = some (.array n e)) (hi : (P.info? ty).map (·.size) = some cs.size) (hi' : (P.info? ty).map (·.size) = some cs'.size) (hd : a.defers = [])
  (h : R (.returned (.tuple #[.agg cs, .agg cs', v])) w) : bodyPost P fn R .ret a w := by
 refine bodyPost_ret (v := .tuple #[.agg cs, .agg cs', v]) ?_ hd h
 have h1 := run_loadVar_row w g t ty cs (0, 0) _ hr hu rfl hi
 have h2 := run_loadVar_row w g' t' ty cs' (0, 0) _ hr' hu rfl hi'
 rw [Array.getD_eq_getD_getElem?] at hp hp' hv
 simp [results, hf, hp, hp', hv, Sem.run_bind, asAddr, h1, h2]
/-- An element's address. -/
theorem exec_index {ρ : Operand → Value} (t : TypeId) (x y : Operand) (ho : o.op = .indexAddr t x y) (g : Nat) (hx : ρ x = .pointer (some ⟨g, 0, none⟩)) (i len : Nat) (hy : ρ y = .int .i64 i) (hi : i < len) (e : TypeId) (hu : P.underlying t = some (.array len e))
  (hz : ∀ w, (sizeOf e).run P w = .ok 1 w) (w : World) : (execOp ρ o).run P w = .ok (.value (.pointer (some ⟨g, i, none⟩))) w := by
 unfold execOp
 simp [ho, hx, hy, Instr.indexAt, Instr.sureAddr, Sem.run_bind, run_underlying hu, hz, go_sem, asIntOf, Addr.add, hi]
 intro h0
 rw [h0]
end
section
variable {P : Program} {olds : Olds} {p : Nat → Nat} {W : World} {F : Act → Ct → Prop} {n : Nat} {l : List Oper} {pl : List Sp} {a : Act} {ct : Ct} {o : Oper}
theorem m_m {t : Tmp} {v : Value} (h : MX P olds p W F (n + 1) l pl (a.put o.dst v) ct) (ho : o.op = .move (.tmp t) := by exact rfl) (hx : a.tmps.toList[t]? = some v := by exact rfl) : MX P olds p W F n (o :: l) ((fun _ => v, [], none, []) :: pl) a ct := mx_move ho hx h
theorem m_a {t : Tmp} {v : Value} (h : MX P olds p W F (n + 1) l pl (a.put o.dst v) ct) (ho : o.op = .assign (.tmp t) := by exact rfl) (hx : a.tmps.toList[t]? = some v := by exact rfl) : MX P olds p W F n (o :: l) ((fun _ => v, [], none, []) :: pl) a ct := mx_asg ho hx h
theorem m_e {t : Tmp} {i : Nat} {vs : Array Value} {v : Value} (h : MX P olds p W F (n + 1) l pl (a.put o.dst v) ct) (ho : o.op = .extract (.tmp t) i := by exact rfl) (hx : a.tmps.toList[t]? = some (.tuple vs) := by exact rfl) (hv : vs.toList[i]? = some v := by exact rfl) : MX P olds p W F n (o :: l) ((fun _ => v, [], none, []) :: pl) a ct := mx_ext ho hx hv h
theorem m_W {A B : Prop} (b : B) (h : B → A := by (intro b; (try simp only [pv]); (repeat ((first | refine m_m ?_ | refine m_a ?_ | refine m_e ?_); try simp only [pv])); exact b)) : A := h b
theorem m_V (v : Value) (hr : ∀ w, (execOp a.eval o).run P w = .ok (.value v) w) {B : Prop} (b : B) (h : B → MX P olds p W F (n + 1) l pl (a.put o.dst v) ct := by exact fun b => m_W b) : MX P olds p W F n (o :: l) ((fun _ => v, [], none, []) :: pl) a ct := mx_val v hr (h b)
theorem m_D {ty : TypeId} {x : Operand} {g : Nat} (i : Nat) {t : TypeId} {cs : Array Value} (hg : Row W g cs t) (v : Value) (hc : cs[i]? = some v) (ha : ∀ w, (isAgg ty).run P w = .ok false w) {B : Prop} (b : B) (ho : o.op = .load ty x := by exact rfl) (hx : a.eval x = .pointer (some ⟨g, i, none⟩) := by exact rfl) (hS : g ∉ olds.map (·.1) := by simp <;> omega) (h : B → MX P olds p W F (n + 1) l pl (a.put o.dst v) ct := by exact fun b => m_W b) : MX P olds p W F n (o :: l) ((fun _ => v, [], none, []) :: pl) a ct := mx_loadc ty x ho g i hx hg hS v hc ha (h b)
theorem m_C {fn : Func} (f : FuncId) (hf : P.funcs[f]? = some fn) (vs : Array Value) {v : Value} (hc : ∀ w, Calls P f vs w fun e w' => e = .returned v ∧ Below w.heap.size w w') {B : Prop} (b : B) {args : Array Operand} {ts : Array TypeId} (ho : o.op = .call { callee := .value (.func f), args := args, argTypes := ts } := by exact rfl) (hb : (fn.name == "runtime.NumGoroutine" || fn.body.isNone) = false := by kernel_rfl) (hv' : args.toList.map a.eval = vs.toList := by exact rfl) (h : B → MX P olds p W F (n + 1) l pl (a.put o.dst v) ct := by exact fun b => m_W b) : MX P olds p W F n (o :: l) ((fun _ => v, [], none, []) :: pl) a ct := m_c f hf vs hc (h b) ho hb hv'
end
end Go.Proofs.Ytchiiphmpkmloaa
