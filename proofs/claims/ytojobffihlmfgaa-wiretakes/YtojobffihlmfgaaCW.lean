/- A closure's call whose ending is told as it comes; append of some naturals; an empty literal; those of a slice from one on. -/
import Derived.Test.YtojobffihlmfgaaEW
import Derived.Test.YtojobffihlmfgaaTA
import Derived.Test.YtojobffihlmfgaaPY
namespace Go.Proofs.Ytojobffihlmfgaa
open Go.RowKit
set_option linter.unusedVariables false
set_option linter.unusedSimpArgs false
section
variable {P : Program} {ops : Array Oper} {Q : Exit → Act → World → Prop} {rest : List Oper} {o : Oper} {a : Act} {w : World}
theorem pw_callCE {fn : Func} (hw : Region.wanted o (yielded ops a.tmps) = true) (f : FuncId) (t : Tmp) (args : Array Operand) (ts : Array TypeId)
  (ho : o.op = .call { callee := .value (.tmp t), args := args, argTypes := ts }) (caps : Array Value) (hcl : a.eval (.tmp t) = .func (.func f) #[] caps) (hf : P.funcs[f]? = some fn) (hb : (fn.name == "runtime.NumGoroutine" || fn.body.isNone) = false)
  (vs : Array Value) (hv' : args.toList.map a.eval = vs.toList) {R : Ending → World → Prop} (hc : Calls P f (vs ++ caps) w R)
  (h : ∀ e w', R e w' → ∃ v, e = .returned v ∧ PW P ops Q rest (a.put o.dst v) w') : PW P ops Q (o :: rest) a w := by
 refine ⟨?_⟩
 unfold wpList
 rw [if_pos hw]
 left
 have hv : args.map a.eval = vs := by apply Array.toList_inj.1; rw [Array.toList_map]; exact hv'
 have hr := run_callFunc_body (P := P) hf hb (vs ++ caps) w
 have hd : (execOp a.eval o).run P w = .ok (.enter f (vs ++ caps)) w := by
  unfold execOp
  simp only [ho, resolve, hv, hcl]
  simp [Deferred.ofValue, invoke, hr]
 unfold Oper.wp
 rw [hd, Oper.upon_enter]
 exact hc.mono fun e w' hR => by
  obtain ⟨v, he, hp⟩ := h e w' hR
  subst he
  exact hp.out
/-- A variable of one cell. -/
theorem pw_newv (hw : Region.wanted o (yielded ops a.tmps) = true) (t : TypeId) (ho : o.op = .alloc t) (v : Value) (hz : ∀ w, (zeroValue t).run P w = .ok v w) (hv : v.cells = #[v])
  (h : ∀ g w', w.heap.size ≤ g → Row w' g #[v] t → Kept [] w w' → PW P ops Q rest (a.put o.dst (.pointer (some ⟨g, 0, none⟩))) w') : PW P ops Q (o :: rest) a w :=
 pw_made hw (fun g => .pointer (some ⟨g, 0, none⟩)) t #[v] (by unfold execOp; simp only [ho, Instr.alloc, Sem.run_bind, hz, Result.andThen_ok, newVar, hv, newRow]; rfl) h
end
section
variable {ops : Array Oper} {Q : Exit → Act → World → Prop} {rest : List Oper} {o : Oper} {a : Act} {w : World}
end
end Go.Proofs.Ytojobffihlmfgaa
/- Appends as hard operations. A region that draws its order, whose hard operations wait for one another but for some: walked in each order of these, as a tree tells them. Appends as hard operations. -/
namespace Go.Proofs.Ytojobffihlmfgaa
open Go.RowKit
section
variable {P : Program}
section
variable {ops : Array Oper} {C : World → Prop} {Q : Act → World → Prop} {fn : Nat → Bool} {k : Nat} {L : DL} {a : Act} {w : World} {o : Oper}
end
end
end Go.Proofs.Ytojobffihlmfgaa
