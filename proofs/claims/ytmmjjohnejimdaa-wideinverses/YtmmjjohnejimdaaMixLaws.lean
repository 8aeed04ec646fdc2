/- The laws by which a walk of 'MX' goes on, one an operation. -/
import Derived.Test.YtmmjjohnejimdaaMix
import Derived.Test.YtmmjjohnejimdaaTypes
namespace Go.Proofs.Ytmmjjohnejimdaa
open Go.RowKit
section
variable {P : Program} {olds : Olds} {p : Nat → Nat} {W : World} {F : Act → Ct → Prop} {n : Nat} {l : List Oper} {pl : List Sp} {a : Act} {ct : Ct} {o : Oper}

theorem run_load_cell (w : World) (g i : Nat) (ty : TypeId) (v : Value) (ha : ∀ w, (isAgg ty).run P w = .ok false w) (hc : w.cell? ⟨g, i, none⟩ = some v) : (loadVar ty ⟨g, i, none⟩).run P w = .ok v w := by
  unfold loadVar
  simp [Sem.run_bind, ha, hc, go_sem]
theorem run_store_cell (w : World) (g i : Nat) (ty : TypeId) (k : IntKind) (m : Int) (old : Value) (hz : ∀ w, (sizeOf ty).run P w = .ok 1 w) (hc : w.cell? ⟨g, i, none⟩ = some old) (hf : w.frozen? ⟨g, i, none⟩ = false) :
    (storeVar ty ⟨g, i, none⟩ (.int k m)).run P w = .ok () (w.setCell ⟨g, i, none⟩ (.int k m)) := by
  unfold storeVar
  simp [Sem.run_bind, hz, hc, hf, go_sem, Value.cells, storeCells]
theorem mx_end (h : F a ct) : MX P olds p W F n [] [] a ct := ⟨h⟩
theorem mx_val (v : Value) (hr : ∀ w, (execOp a.eval o).run P w = .ok (.value v) w) (h : MX P olds p W F (n + 1) l pl (a.put o.dst v) ct) : MX P olds p W F n (o :: l) (.inl (v, []) :: pl) a ct :=
  ⟨⟨fun w _ _ => by unfold Oper.quietAt; rw [hr]; exact ⟨rfl, rfl⟩, h.out⟩⟩
theorem eval_at {t : Tmp} {v : Value} (h : a.tmps.toList[t]? = some v) : a.eval (.tmp t) = v := by
  have h' : a.tmps[t]? = some v := by rw [← Array.getElem?_toList]; exact h
  simp [Act.eval, h']
theorem mx_move {t : Tmp} {v : Value} (ho : o.op = .move (.tmp t)) (hx : a.tmps.toList[t]? = some v) (h : MX P olds p W F (n + 1) l pl (a.put o.dst v) ct) : MX P olds p W F n (o :: l) (.inl (v, []) :: pl) a ct :=
  mx_val v (fun w => by unfold execOp; rw [ho]; simp only [eval_at hx]; rfl) h
theorem mx_asg {t : Tmp} {v : Value} (ho : o.op = .assign (.tmp t)) (hx : a.tmps.toList[t]? = some v) (h : MX P olds p W F (n + 1) l pl (a.put o.dst v) ct) : MX P olds p W F n (o :: l) (.inl (v, []) :: pl) a ct :=
  mx_val v (fun w => by unfold execOp; rw [ho]; simp only [eval_at hx]; rfl) h
theorem mx_ext {t : Tmp} {i : Nat} {vs : Array Value} {v : Value} (ho : o.op = .extract (.tmp t) i) (hx : a.tmps.toList[t]? = some (.tuple vs)) (hv : vs.toList[i]? = some v) (h : MX P olds p W F (n + 1) l pl (a.put o.dst v) ct) : MX P olds p W F n (o :: l) (.inl (v, []) :: pl) a ct := by
  have hv' : vs[i]? = some v := by rw [← Array.getElem?_toList]; exact hv
  refine mx_val v (fun w => ?_) h
  unfold execOp
  rw [ho]
  simp only [eval_at hx, Instr.extract]
  simp [hv']
theorem mx_call {fn : Func} (f : FuncId) (args : Array Operand) (ts : Array TypeId)
    (ho : o.op = .call { callee := .value (.func f), args := args, argTypes := ts }) (hf : P.funcs[f]? = some fn) (hb : (fn.name == "runtime.NumGoroutine" || fn.body.isNone) = false)
    (vs : Array Value) (hv' : args.toList.map a.eval = vs.toList) (v : Value)
    (hc : ∀ w, Calls P f vs w fun e w' => e = .returned v ∧ Below w.heap.size w w')
    (h : MX P olds p W F (n + 1) l pl (a.put o.dst v) ct) : MX P olds p W F n (o :: l) (.inl (v, []) :: pl) a ct := by
  refine ⟨⟨fun w _ _ => ?_, h.out⟩⟩
  have hv : args.map a.eval = vs := by apply Array.toList_inj.1; rw [Array.toList_map]; exact hv'
  have hr := run_callFunc_body (P := P) hf hb vs w
  have hd : (execOp a.eval o).run P w = .ok (.enter f vs) w := by
    unfold execOp
    simp only [ho, resolve, hv, Act.eval]
    simp [Deferred.ofValue, invoke, hr]
  unfold Oper.quietAt
  rw [hd]
  exact ⟨rfl, hc w⟩
theorem mx_load (ty : TypeId) (x : Operand) (ho : o.op = .load ty x) (g : Nat) (hx : a.eval x = .pointer (some ⟨g, 0, none⟩)) {t : TypeId} {cs : Array Value} (hg : Row W g cs t) (hS : g ∉ olds.map (·.1)) (m : Nat) (e : TypeId)
    (hu : P.underlying ty = some (.array m e)) (hi : (P.info? ty).map (·.size) = some cs.size)
    (h : MX P olds p W F (n + 1) l pl (a.put o.dst (.agg cs)) ct) : MX P olds p W F n (o :: l) (.inl (.agg cs, []) :: pl) a ct := by
  refine ⟨⟨fun w hk _ => ?_, h.out⟩⟩
  have hr : (execOp a.eval o).run P w = .ok (.value (.agg cs)) w := by
    unfold execOp
    simp only [ho, hx, Instr.loadAt, Instr.sureAddr, Sem.run_bind, Sem.run_pure, Result.andThen_ok, run_loadVar_row w g t ty cs (0, 0) _ (hk.row hg hS) hu rfl hi]
  unfold Oper.quietAt
  rw [hr]
  exact ⟨rfl, rfl⟩
theorem mx_loadT (k : Nat) (ty : TypeId) (x : Operand) (ho : o.op = .load ty x) {t : TypeId} {cs : Array Value} (hct : ct k = some (t, cs)) (hx : a.eval x = .pointer (some ⟨addrOf olds p k, 0, none⟩)) (m : Nat) (e : TypeId)
    (hu : P.underlying ty = some (.array m e)) (hi : (P.info? ty).map (·.size) = some cs.size)
    (h : MX P olds p W F (n + 1) l pl (a.put o.dst (.agg cs)) ct) : MX P olds p W F n (o :: l) (.inl (.agg cs, [k]) :: pl) a ct := by
  refine ⟨⟨fun w _ hrw => ?_, h.out⟩⟩
  have hg := hrw k (List.mem_singleton.2 rfl) _ hct
  have hr : (execOp a.eval o).run P w = .ok (.value (.agg cs)) w := by
    unfold execOp
    simp only [ho, hx, Instr.loadAt, Instr.sureAddr, Sem.run_bind, Sem.run_pure, Result.andThen_ok, run_loadVar_row w _ t ty cs (0, 0) _ hg hu rfl hi]
  unfold Oper.quietAt
  rw [hr]
  exact ⟨rfl, rfl⟩
theorem mx_loadc (ty : TypeId) (x : Operand) (ho : o.op = .load ty x) (g i : Nat) (hx : a.eval x = .pointer (some ⟨g, i, none⟩)) {t : TypeId} {cs : Array Value} (hg : Row W g cs t) (hS : g ∉ olds.map (·.1)) (v : Value) (hc : cs[i]? = some v)
    (ha : ∀ w, (isAgg ty).run P w = .ok false w)
    (h : MX P olds p W F (n + 1) l pl (a.put o.dst v) ct) : MX P olds p W F n (o :: l) (.inl (v, []) :: pl) a ct := by
  refine ⟨⟨fun w hk _ => ?_, h.out⟩⟩
  have hr : (execOp a.eval o).run P w = .ok (.value v) w := by
    unfold execOp
    simp only [ho, hx, Instr.loadAt, Instr.sureAddr, Sem.run_bind, Sem.run_pure, Result.andThen_ok, run_load_cell w g i ty v ha ((hk.row hg hS).cell i |>.trans hc)]
  unfold Oper.quietAt
  rw [hr]
  exact ⟨rfl, rfl⟩
theorem mx_loadcT (k : Nat) (ty : TypeId) (x : Operand) (ho : o.op = .load ty x) (i : Nat) {t : TypeId} {cs : Array Value} (hct : ct k = some (t, cs)) (hx : a.eval x = .pointer (some ⟨addrOf olds p k, i, none⟩)) (v : Value) (hc : cs[i]? = some v)
    (ha : ∀ w, (isAgg ty).run P w = .ok false w)
    (h : MX P olds p W F (n + 1) l pl (a.put o.dst v) ct) : MX P olds p W F n (o :: l) (.inl (v, [k]) :: pl) a ct := by
  refine ⟨⟨fun w _ hrw => ?_, h.out⟩⟩
  have hg := hrw k (List.mem_singleton.2 rfl) _ hct
  have hr : (execOp a.eval o).run P w = .ok (.value v) w := by
    unfold execOp
    simp only [ho, hx, Instr.loadAt, Instr.sureAddr, Sem.run_bind, Sem.run_pure, Result.andThen_ok, run_load_cell w _ i ty v ha (hg.cell i |>.trans hc)]
  unfold Oper.quietAt
  rw [hr]
  exact ⟨rfl, rfl⟩
theorem mx_new (t : TypeId) (ho : o.op = .alloc t) (c : Array Value) (hz : ∀ w, (zeroValue t).run P w = .ok (.agg c) w)
    (h : MX P olds p W F (n + 1) l pl (a.put o.dst (.pointer (some ⟨p n, 0, none⟩))) (ctSet ct (2 * n + 1) (t, c))) : MX P olds p W F n (o :: l) (.inr (.inl (t, c)) :: pl) a ct :=
  ⟨⟨fun w => by unfold execOp; simp only [ho, Instr.alloc, Sem.run_bind, hz, Result.andThen_ok, newVar, newRow]; rfl, h.out⟩⟩
theorem mx_box (t : TypeId) (x : Operand) (ho : o.op = .box t x) (c : Array Value) (hx : a.eval x = .agg c)
    (h : MX P olds p W F (n + 1) l pl (a.put o.dst (.pointer (some ⟨p n, 0, none⟩))) (ctSet ct (2 * n + 1) (t, c))) : MX P olds p W F n (o :: l) (.inr (.inl (t, c)) :: pl) a ct :=
  ⟨⟨fun w => by unfold execOp; simp only [ho, hx, Instr.box, Sem.run_bind, newVar, newRow]; rfl, h.out⟩⟩
theorem only_setRow (w : World) (g : Nat) (c : Array Value) : Only g w (w.setRow g c) := ⟨rfl, rfl, rfl, by simp, fun k hk => setRow_other w g k c hk⟩
theorem only_setCell (w : World) (g i : Nat) (v : Value) : Only g w (w.setCell ⟨g, i, none⟩ v) := ⟨rfl, rfl, rfl, setCell_size _ _ _, fun k hk => heap_setCell_other w ⟨g, i, none⟩ k v hk⟩
theorem mx_put (k : Nat) (ty : TypeId) (x y : Operand) (ho : o.op = .store ty x y) {t : TypeId} {old : Array Value} (hct : ct k = some (t, old)) (hx : a.eval x = .pointer (some ⟨addrOf olds p k, 0, none⟩)) (c : Array Value) (hy : a.eval y = .agg c)
    (hi : (P.info? ty).map (·.size) = some c.size) (hold : old.size = c.size) (h1 : c.all (·.oneCell') = true)
    (h : MX P olds p W F (n + 1) l pl (a.put o.dst undef) (ctSet ct k (t, c))) : MX P olds p W F n (o :: l) (.inr (.inr (k, c)) :: pl) a ct := by
  have e : spC n (.inr (.inr (k, c))) ct = ctSet ct k (t, c) := by show ctSet ct k (((ct k).map (·.1)).getD 0, c) = _; rw [hct]; rfl
  refine ⟨⟨⟨_, hct, fun w hr => ⟨w.setRow (addrOf olds p k) c, ?_, hr.setRow _, only_setRow _ _ _⟩⟩, by rw [e]; exact h.out⟩⟩
  unfold execOp
  simp only [ho, hx, hy, Instr.storeAt, Instr.sureAddr, Sem.run_bind, Sem.run_pure, Result.andThen_ok, run_storeVar_row w _ t ty old c hr hi hold h1]
theorem mx_putc (k : Nat) (ty : TypeId) (x y : Operand) (ho : o.op = .store ty x y) (i : Nat) {t : TypeId} {old : Array Value} (hct : ct k = some (t, old)) (hx : a.eval x = .pointer (some ⟨addrOf olds p k, i, none⟩)) (kd : IntKind) (m : Int) (hy : a.eval y = .int kd m)
    (hz : ∀ w, (sizeOf ty).run P w = .ok 1 w) (hi : i < old.size) (c : Array Value) (hc : old.setIfInBounds i (.int kd m) = c)
    (h : MX P olds p W F (n + 1) l pl (a.put o.dst undef) (ctSet ct k (t, c))) : MX P olds p W F n (o :: l) (.inr (.inr (k, c)) :: pl) a ct := by
  have e : spC n (.inr (.inr (k, c))) ct = ctSet ct k (t, c) := by show ctSet ct k (((ct k).map (·.1)).getD 0, c) = _; rw [hct]; rfl
  subst hc
  refine ⟨⟨⟨_, hct, fun w hr => ⟨w.setCell ⟨addrOf olds p k, i, none⟩ (.int kd m), ?_, hr.setCell _ _, only_setCell _ _ _ _⟩⟩, by rw [e]; exact h.out⟩⟩
  have hcell : w.cell? ⟨addrOf olds p k, i, none⟩ = some old[i] := (hr.cell i).trans (by simp [hi])
  unfold execOp
  simp only [ho, hx, hy, Instr.storeAt, Instr.sureAddr, Sem.run_bind, Sem.run_pure, Result.andThen_ok, run_store_cell w _ i ty kd m _ hz hcell (hr.frozen i)]
/-- A function's end: two results, both rows in memory. -/
theorem ret_rows2 {fn : Func} {R : Ending → World → Prop} {a : Act} {w : World} {p p' : Tmp} {ty : TypeId} (hf : fn.results = #[.cell p ty, .cell p' ty]) (g : Nat) (hp : a.tmps.getD p undef = .pointer (some ⟨g, 0, none⟩))
    {t : TypeId} {cs : Array Value} (hr : Row w g cs t) (g' : Nat) (hp' : a.tmps.getD p' undef = .pointer (some ⟨g', 0, none⟩)) {t' : TypeId} {cs' : Array Value} (hr' : Row w g' cs' t') (n : Nat) (e : TypeId) (hu : P.underlying ty = some (.array n e)) (hi : (P.info? ty).map (·.size) = some cs.size) (hi' : (P.info? ty).map (·.size) = some cs'.size) (hd : a.defers = [])
    (h : R (.returned (.tuple #[.agg cs, .agg cs'])) w) : bodyPost P fn R .ret a w := by
  refine bodyPost_ret (v := .tuple #[.agg cs, .agg cs']) ?_ hd h
  have h1 := run_loadVar_row w g t ty cs (0, 0) _ hr hu rfl hi
  have h2 := run_loadVar_row w g' t' ty cs' (0, 0) _ hr' hu rfl hi'
  rw [Array.getD_eq_getD_getElem?] at hp hp'
  simp [results, hf, hp, hp', Sem.run_bind, asAddr, h1, h2]
/-- Two results: a value, then a row. -/
theorem ret_val_row {fn : Func} {R : Ending → World → Prop} {a : Act} {w : World} {u p : Tmp} {ty : TypeId} (hf : fn.results = #[.tmp u, .cell p ty]) (v : Value) (hv : a.tmps.getD u undef = v) (g : Nat) (hp : a.tmps.getD p undef = .pointer (some ⟨g, 0, none⟩))
    {t : TypeId} {cs : Array Value} (hr : Row w g cs t) (n : Nat) (e : TypeId) (hu : P.underlying ty = some (.array n e)) (hi : (P.info? ty).map (·.size) = some cs.size) (hd : a.defers = [])
    (h : R (.returned (.tuple #[v, .agg cs])) w) : bodyPost P fn R .ret a w := by
  refine bodyPost_ret (v := .tuple #[v, .agg cs]) ?_ hd h
  have h1 := run_loadVar_row w g t ty cs (0, 0) _ hr hu rfl hi
  rw [Array.getD_eq_getD_getElem?] at hp hv
  simp [results, hf, hp, hv, asAddr, h1]
/-- Three results: two rows, then a value. -/
theorem ret_rows2_val {fn : Func} {R : Ending → World → Prop} {a : Act} {w : World} {p p' u : Tmp} {ty : TypeId} (hf : fn.results = #[.cell p ty, .cell p' ty, .tmp u]) (g : Nat) (hp : a.tmps.getD p undef = .pointer (some ⟨g, 0, none⟩))
    {t : TypeId} {cs : Array Value} (hr : Row w g cs t) (g' : Nat) (hp' : a.tmps.getD p' undef = .pointer (some ⟨g', 0, none⟩)) {t' : TypeId} {cs' : Array Value} (hr' : Row w g' cs' t') (v : Value) (hv : a.tmps.getD u undef = v) (n : Nat) (e : TypeId) (hu : P.underlying ty = some (.array n e)) (hi : (P.info? ty).map (·.size) = some cs.size) (hi' : (P.info? ty).map (·.size) = some cs'.size) (hd : a.defers = [])
    (h : R (.returned (.tuple #[.agg cs, .agg cs', v])) w) : bodyPost P fn R .ret a w := by
  refine bodyPost_ret (v := .tuple #[.agg cs, .agg cs', v]) ?_ hd h
  have h1 := run_loadVar_row w g t ty cs (0, 0) _ hr hu rfl hi
  have h2 := run_loadVar_row w g' t' ty cs' (0, 0) _ hr' hu rfl hi'
  rw [Array.getD_eq_getD_getElem?] at hp hp' hv
  simp [results, hf, hp, hp', hv, Sem.run_bind, asAddr, h1, h2]
/-- An element's address. -/
theorem exec_index {ρ : Operand → Value} (t : TypeId) (x y : Operand) (ho : o.op = .indexAddr t x y) (g : Nat) (hx : ρ x = .pointer (some ⟨g, 0, none⟩)) (i len : Nat) (hy : ρ y = .int .i64 i) (hi : i < len) (e : TypeId) (hu : P.underlying t = some (.array len e))
    (hz : ∀ w, (sizeOf e).run P w = .ok 1 w) (w : World) : (execOp ρ o).run P w = .ok (.value (.pointer (some ⟨g, i, none⟩))) w := by
  unfold execOp
  simp [ho, hx, hy, Instr.indexAt, Instr.sureAddr, Sem.run_bind, run_underlying hu, hz, go_sem, asIntOf, Addr.add, hi]
  intro h0
  rw [h0]
end
end Go.Proofs.Ytmmjjohnejimdaa
