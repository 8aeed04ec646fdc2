/- Loads from rows that are only read, in a quiet walk. -/
import Derived.Test.YtchiiphmpkmloaaMixSl
namespace Go.Proofs.Ytchiiphmpkmloaa
open Go.RowKit
section
variable {P : Program} {ops : Array Oper} {W : World} {Q : Act → Prop} {rest : List Oper} {o : Oper} {a : Act}
theorem qw_loadmR (hw : Region.wanted o (yielded ops a.tmps) = true) (ty : TypeId) (x : Operand) (ho : o.op = .load ty x) (g off : Nat) (hx : a.eval x = .pointer (some ⟨g, off, none⟩)) {t : TypeId} {cs : Array Value} (hg : RowR W g cs t)
  (sub : Array Value) (hs : ∀ j v, sub.toList[j]? = some v → cs[off + j]? = some v) (d : TypeDesc) (hu : P.underlying ty = some d) (hd : d.isRow = true) (hi : (P.info? ty).map (·.size) = some sub.size)
  (h : QW P ops W Q rest (a.put o.dst (.agg sub))) : QW P ops W Q (o :: rest) a := by
 refine ⟨?_⟩
 unfold wpQuiet
 rw [if_pos hw]
 refine ⟨.agg sub, fun w hC => ?_, h.out⟩
 unfold Oper.quietAt
 rw [run_load_mid ty x ho g off hx (hg.belowAll hC) sub hs d hu hd hi]
 exact ⟨rfl, rfl⟩
theorem qw_loadcR (hw : Region.wanted o (yielded ops a.tmps) = true) (ty : TypeId) (x : Operand) (ho : o.op = .load ty x) (g i : Nat) (hx : a.eval x = .pointer (some ⟨g, i, none⟩)) {t : TypeId} {cs : Array Value} (hg : RowR W g cs t) (v : Value) (hc : cs[i]? = some v)
  (ha : ∀ w, (isAgg ty).run P w = .ok false w) (h : QW P ops W Q rest (a.put o.dst v)) : QW P ops W Q (o :: rest) a := by
 refine ⟨?_⟩
 unfold wpQuiet
 rw [if_pos hw]
 refine ⟨v, fun w hC => ?_, h.out⟩
 have hr : (execOp a.eval o).run P w = .ok (.value v) w := by
  unfold execOp
  simp only [ho, hx, Instr.loadAt, Instr.sureAddr, Sem.run_bind, Sem.run_pure, Result.andThen_ok, run_load_cell w g i ty v ha (((hg.belowAll hC).cell i).trans hc)]
 unfold Oper.quietAt
 rw [hr]
 exact ⟨rfl, rfl⟩
end
end Go.Proofs.Ytchiiphmpkmloaa
