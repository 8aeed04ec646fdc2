/- More laws of the quiet walk: moves, parts of tuples, picks. -/
import Derived.Test.YtchiiphmpkmloaaMix
namespace Go.Proofs.Ytchiiphmpkmloaa
open Go.RowKit
section
variable {P : Program} {ops : Array Oper} {W : World} {Q : Act → Prop} {rest : List Oper} {o : Oper} {a : Act}
theorem qw_move {t : Tmp} {v : Value} (hw : Region.wanted o (yielded ops a.tmps) = true) (ho : o.op = .move (.tmp t)) (hx : a.tmps.toList[t]? = some v) (h : QW P ops W Q rest (a.put o.dst v)) : QW P ops W Q (o :: rest) a := by
 have h' : a.tmps[t]? = some v := by rw [← Array.getElem?_toList]; exact hx
 exact qw_value hw v (fun w => by unfold execOp; rw [ho]; simp [Act.eval, h']) h
theorem qw_asg {t : Tmp} {v : Value} (hw : Region.wanted o (yielded ops a.tmps) = true) (ho : o.op = .assign (.tmp t)) (hx : a.tmps.toList[t]? = some v) (h : QW P ops W Q rest (a.put o.dst v)) : QW P ops W Q (o :: rest) a := by
 have h' : a.tmps[t]? = some v := by rw [← Array.getElem?_toList]; exact hx
 exact qw_value hw v (fun w => by unfold execOp; rw [ho]; simp [Act.eval, h']) h
theorem qw_ext {t : Tmp} {i : Nat} {vs : Array Value} {v : Value} (hw : Region.wanted o (yielded ops a.tmps) = true) (ho : o.op = .extract (.tmp t) i) (hx : a.tmps.toList[t]? = some (.tuple vs)) (hv : vs.toList[i]? = some v) (h : QW P ops W Q rest (a.put o.dst v)) : QW P ops W Q (o :: rest) a := by
 have h' : a.tmps[t]? = some (.tuple vs) := by rw [← Array.getElem?_toList]; exact hx
 have hv' : vs[i]? = some v := by rw [← Array.getElem?_toList]; exact hv
 exact qw_value hw v (fun w => by unfold execOp; rw [ho]; simp [Act.eval, h', Instr.extract, hv']) h
theorem qw_pick (b : Bool) {c : Tmp} {x y : Operand} {v : Value} (hw : Region.wanted o (yielded ops a.tmps) = true) (ho : o.op = .pick (.tmp c) x y) (hc : a.tmps.toList[c]? = some (.bool b)) (hv : a.eval (if b = true then x else y) = v) (h : QW P ops W Q rest (a.put o.dst v)) : QW P ops W Q (o :: rest) a := by
 have h' : a.tmps[c]? = some (.bool b) := by rw [← Array.getElem?_toList]; exact hc
 refine qw_value hw v (fun w => ?_) h
 subst hv
 unfold execOp
 rw [ho]
 have h2 : a.eval (.tmp c) = .bool b := by simp [Act.eval, h']
 simp only [h2]
 cases b <;> rfl
theorem q_p (b : Bool) (v : Value) {c : Tmp} {x y : Operand} (h : QW P ops W Q rest (a.put o.dst v)) (hw : Region.wanted o (yielded ops a.tmps) = true := by rfl) (ho : o.op = .pick (.tmp c) x y := by exact rfl) (hc : a.tmps.toList[c]? = some (.bool b) := by exact rfl) (hv : a.eval (if b = true then x else y) = v := by exact rfl) : QW P ops W Q (o :: rest) a := qw_pick b hw ho hc hv h
/-- The same walk for a region that keeps the text's order. -/
theorem opw_quiet_class {o : Oper} {a : Act} {w : World} {v : Value} {C : World → Prop} {K : Act → World → Prop} {Q' : Exit → Act → World → Prop} (hC : C w) (h : o.quietAt P a C w v) (hK : ∀ w2, C w2 → K (a.put o.dst v) w2) : o.wp P a w K Q' := by
 unfold Oper.quietAt at h
 unfold Oper.wp
 generalize (execOp a.eval o).run P w = r at *
 cases r with
 | ok n w' =>
  cases n <;> simp only [Oper.quietUpon] at h <;> simp only [Oper.upon]
  case value u =>
   obtain ⟨e1, e2⟩ := h
   rw [e1, e2]
   exact hK _ hC
  case skip =>
   obtain ⟨e1, e2⟩ := h
   rw [e1, ← e2]
   exact hK _ hC
  case enter f args =>
   obtain ⟨e1, hc⟩ := h
   rw [e1]
   exact hc.mono fun e w'' ⟨he, hw''⟩ => by subst he; exact hK _ hw''
 | halt x w' => simp only [Oper.quietUpon] at h
theorem plain_quiet {C : World → Prop} {Q' : Exit → Act → World → Prop} : ∀ (l : List Oper) (a : Act) (w : World), C w → wpQuiet P ops C (fun a' => ∀ w', C w' → Q' .normal a' w') l a → wpList P ops Q' l a w
 | [], a, w, hC, h => h w hC
 | o :: l, a, w, hC, h => by
  unfold wpQuiet at h
  refine wpList_step fun K hK => ?_
  by_cases hw : Region.wanted o (yielded ops a.tmps) = true
  ·rw [if_pos hw] at h ⊢
   obtain ⟨v, hq, hr⟩ := h
   exact opw_quiet_class hC (hq w hC) fun w2 hC2 => hK _ _ (plain_quiet l _ w2 hC2 hr)
  ·rw [if_neg hw] at h ⊢
   exact hK _ _ (plain_quiet l _ w hC h)
theorem wp_region_qp {id : Nat} {Q' : Exit → Act → World → Prop} {l : List Oper}
  (h : QW P l.toArray W (fun a' => ∀ w', Below W.heap.size W w' → Q' .normal a' w') l a) : (Code.region id l.toArray false).wp P Q' a W :=
 wp_region_lit (plain_quiet l a W (Below.refl _ _) h.out)
theorem wp_region_mixq {id : Nat} {l : List Oper} {Q' : Exit → Act → World → Prop} (olds : Olds) (plan : List Sp) (hr : RowsOf W olds) (hn : (olds.map (·.1)).Nodup) (hg : (l.all fun o => o.guard.isNone) = true)
  (h : ∀ p, MX P olds p W (FinF olds p W Q') 0 l plan a (ct0 olds)) : (Code.region id l.toArray false).wp P Q' a W := wp_region_mixp olds plan hr hn h hg
end
section
variable {P : Program} {ops : Array Oper} {W : World} {Q : Act → Prop} {rest : List Oper} {o : Oper} {a : Act}
theorem q_m {t : Tmp} {v : Value} (h : QW P ops W Q rest (a.put o.dst v)) (hw : Region.wanted o (yielded ops a.tmps) = true := by rfl) (ho : o.op = .move (.tmp t) := by exact rfl) (hx : a.tmps.toList[t]? = some v := by exact rfl) : QW P ops W Q (o :: rest) a := qw_move hw ho hx h
theorem q_a {t : Tmp} {v : Value} (h : QW P ops W Q rest (a.put o.dst v)) (hw : Region.wanted o (yielded ops a.tmps) = true := by rfl) (ho : o.op = .assign (.tmp t) := by exact rfl) (hx : a.tmps.toList[t]? = some v := by exact rfl) : QW P ops W Q (o :: rest) a := qw_asg hw ho hx h
theorem q_v (v : Value) (hr : ∀ w, (execOp a.eval o).run P w = .ok (.value v) w) (h : QW P ops W Q rest (a.put o.dst v)) (hw : Region.wanted o (yielded ops a.tmps) = true := by rfl) : QW P ops W Q (o :: rest) a := qw_value hw v hr h
theorem q_W {A B : Prop} (b : B) (h : B → A := by (intro b; (try simp only [pv]); (repeat ((first | refine q_m ?_ | refine q_a ?_ | refine qw_ext (by rfl) rfl rfl rfl ?_ | refine qw_skip (by rfl) ?_ | refine qw_nil ?_); try simp only [pv])); exact b)) : A := h b
theorem q_V (v : Value) (hr : ∀ w, (execOp a.eval o).run P w = .ok (.value v) w) {B : Prop} (b : B) (hw : Region.wanted o (yielded ops a.tmps) = true := by rfl) (h : B → QW P ops W Q rest (a.put o.dst v) := by exact fun b => q_W b) : QW P ops W Q (o :: rest) a := q_v v hr (h b) hw
theorem q_P (b : Bool) (v : Value) {c : Tmp} {x y : Operand} {B : Prop} (bb : B) (hw : Region.wanted o (yielded ops a.tmps) = true := by rfl) (ho : o.op = .pick (.tmp c) x y := by exact rfl) (hc : a.tmps.toList[c]? = some (.bool b) := by exact rfl) (hv : a.eval (if b = true then x else y) = v := by exact rfl) (h : B → QW P ops W Q rest (a.put o.dst v) := by exact fun b => q_W b) : QW P ops W Q (o :: rest) a := q_p b v (h bb) hw ho hc hv
end
end Go.Proofs.Ytchiiphmpkmloaa
