/- A region that draws its order and whose operations read, reckon or call what only makes memory: walked once, operation by operation. -/
import Derived.Test.YtchiiphmpkmloaaInv
namespace Go.Proofs.Ytchiiphmpkmloaa
open Go.RowKit
section
variable {P : Program}
/-- The walk, behind a name that is not opened. W: the world at the region's head. -/
structure QW (P : Program) (ops : Array Oper) (W : World) (Q : Act → Prop) (l : List Oper) (a : Act) : Prop where
 out : wpQuiet P ops (Below W.heap.size W) Q l a
theorem wp_region_qw {id : Nat} {Q : Exit → Act → World → Prop} {a : Act} {W : World} {l : List Oper} (hm : P.follows .mixedOrders = true) (hB : Region.lexB .any l.toArray = true)
  (h : QW P l.toArray W (fun a' => ∀ w', Below W.heap.size W w' → Q .normal a' w') l a) : (Code.region id l.toArray true).wp P Q a W :=
 wp_region_quiet (C := Below W.heap.size W) hm hB ((Below.refl _ _).drew) (by simpa using h.out)
variable {ops : Array Oper} {W : World} {Q : Act → Prop} {rest : List Oper} {o : Oper} {a : Act}
theorem qw_nil (h : Q a) : QW P ops W Q [] a := ⟨h⟩
theorem qw_value (hw : Region.wanted o (yielded ops a.tmps) = true) (v : Value) (hr : ∀ w, (execOp a.eval o).run P w = .ok (.value v) w) (h : QW P ops W Q rest (a.put o.dst v)) : QW P ops W Q (o :: rest) a := by
 refine ⟨?_⟩
 unfold wpQuiet
 rw [if_pos hw]
 exact ⟨v, fun w _ => by unfold Oper.quietAt; rw [hr]; exact ⟨rfl, rfl⟩, h.out⟩
theorem qw_skip (hw : Region.wanted o (yielded ops a.tmps) = false) (h : QW P ops W Q rest (a.put o.dst undef)) : QW P ops W Q (o :: rest) a := by
 refine ⟨?_⟩
 unfold wpQuiet
 rw [if_neg (by rw [hw]; decide)]
 exact h.out
theorem qw_load (hw : Region.wanted o (yielded ops a.tmps) = true) (ty : TypeId) (x : Operand) (ho : o.op = .load ty x)
  (g : Nat) (hx : a.eval x = .pointer (some ⟨g, 0, none⟩)) {t : TypeId} {cs : Array Value} (hg : Row W g cs t) (n : Nat) (e : TypeId)
  (hu : P.underlying ty = some (.array n e)) (hi : (P.info? ty).map (·.size) = some cs.size)
  (h : QW P ops W Q rest (a.put o.dst (.agg cs))) : QW P ops W Q (o :: rest) a := by
 refine ⟨?_⟩
 unfold wpQuiet
 rw [if_pos hw]
 refine ⟨.agg cs, fun w hC => ?_, h.out⟩
 have hr : (execOp a.eval o).run P w = .ok (.value (.agg cs)) w := by
  unfold execOp
  simp only [ho, hx, Instr.loadAt, Instr.sureAddr, Sem.run_bind, Sem.run_pure, Result.andThen_ok, run_loadVar_row w g t ty cs (0, 0) _ (hg.belowAll hC) hu rfl hi]
 unfold Oper.quietAt
 rw [hr]
 exact ⟨rfl, rfl⟩
theorem qw_call {fn : Func} (hw : Region.wanted o (yielded ops a.tmps) = true) (f : FuncId) (args : Array Operand) (ts : Array TypeId)
  (ho : o.op = .call { callee := .value (.func f), args := args, argTypes := ts }) (hf : P.funcs[f]? = some fn) (hb : (fn.name == "runtime.NumGoroutine" || fn.body.isNone) = false)
  (vs : Array Value) (hv' : args.toList.map a.eval = vs.toList) (v : Value)
  (hc : ∀ w, Calls P f vs w fun e w' => e = .returned v ∧ Below w.heap.size w w')
  (h : QW P ops W Q rest (a.put o.dst v)) : QW P ops W Q (o :: rest) a := by
 refine ⟨?_⟩
 unfold wpQuiet
 rw [if_pos hw]
 refine ⟨v, fun w hC => ?_, h.out⟩
 have hv : args.map a.eval = vs := by apply Array.toList_inj.1; rw [Array.toList_map]; exact hv'
 have hr := run_callFunc_body (P := P) hf hb vs w
 have hd : (execOp a.eval o).run P w = .ok (.enter f vs) w := by
  unfold execOp
  simp only [ho, resolve, hv, Act.eval]
  simp [Deferred.ofValue, invoke, hr]
 unfold Oper.quietAt
 rw [hd]
 exact ⟨rfl, (hc w).mono fun e w' ⟨he, hb'⟩ => ⟨he, below_on hC (Nat.le_refl _) hb'⟩⟩
theorem q_c {fn : Func} (f : FuncId) (hf : P.funcs[f]? = some fn) (vs : Array Value) {v : Value} (hc : ∀ w, Calls P f vs w fun e w' => e = .returned v ∧ Below w.heap.size w w') (h : QW P ops W Q rest (a.put o.dst v)) {args : Array Operand} {ts : Array TypeId} (hw : Region.wanted o (yielded ops a.tmps) = true := by rfl) (ho : o.op = .call { callee := .value (.func f), args := args, argTypes := ts } := by exact rfl) (hb : (fn.name == "runtime.NumGoroutine" || fn.body.isNone) = false := by kernel_rfl) (hv' : args.toList.map a.eval = vs.toList := by exact rfl) : QW P ops W Q (o :: rest) a := qw_call hw f args ts ho hf hb vs hv' v hc h
/-- Two integers that are the same. -/
theorem exec_eql_int {ρ : Operand → Value} (t : TypeId) (x y : Operand) (u : TypeId) (ho : o.op = .binOp .eql t x y u) (k : IntKind) (n : Int) (hx : ρ x = .int k n) (hy : ρ y = .int k n) (w : World) :
  (execOp ρ o).run P w = .ok (.value (.bool true)) w := by
 unfold execOp
 simp only [ho, hx, hy]
 simp [eqGuard, go_sem]
theorem exec_eql_bool {ρ : Operand → Value} (t : TypeId) (x y : Operand) (u : TypeId) (ho : o.op = .binOp .eql t x y u) (n : Bool) (hx : ρ x = .bool n) (hy : ρ y = .bool n) (hu : P.underlying t = some .bool) (w : World) :
  (execOp ρ o).run P w = .ok (.value (.bool true)) w := by
 unfold execOp
 simp only [ho, hx, hy]
 simp [eqGuard, go_sem, hu]
theorem exec_eql_str {ρ : Operand → Value} (t : TypeId) (x y : Operand) (u : TypeId) (ho : o.op = .binOp .eql t x y u) (n : ByteArray) (hx : ρ x = .string n) (hy : ρ y = .string n) (w : World) :
  (execOp ρ o).run P w = .ok (.value (.bool true)) w := by
 unfold execOp
 simp only [ho, hx, hy]
 simp [eqGuard, go_sem]
end
end Go.Proofs.Ytchiiphmpkmloaa
