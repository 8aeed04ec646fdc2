/- What the laws of layer 22 share: two spaces side by side; a variable of some cells in a drawn region. -/
import Derived.Test.YtchiiphmpkmloaaSpOpen
namespace Go.Proofs.Ytchiiphmpkmloaa
open Go.RowKit
set_option linter.unusedVariables false
set_option linter.unusedSectionVars false
set_option linter.unusedSimpArgs false
section
variable {P : Program} {ops : Array Oper} {C : World → Prop} {Q : Act → World → Prop} {fn : Nat → Bool} {i : Nat} {L : DL} {a : Act} {w : World} {o : Oper}
theorem ew_newr (hw : Region.wanted o (yielded ops a.tmps) = true) (t : TypeId) (ho : o.op = .alloc t) (c : Array Value) (hz : ∀ w, (zeroValue t).run P w = .ok (.agg c) w)
  (h : ∀ w2, Below w.heap.size w w2 → ∀ g w3, w2.heap.size ≤ g → Row w3 g c t → Below w2.heap.size w2 w3 → (fn i = false → C w3) ∧ EW P ops C Q fn L (a.put o.dst (.pointer (some ⟨g, 0, none⟩))) w3) : EW P ops C Q fn ((i, o, true) :: L) a w := by
 refine ew_hard hw fun w2 hb => ?_
 have hr : (execOp a.eval o).run P w2 = .ok (.value (.pointer (some ⟨w2.heap.size, 0, none⟩))) (w2.alloc (.cells c t)) := by
  unfold execOp
  simp only [ho, Instr.alloc, Sem.run_bind, hz, Result.andThen_ok, newVar, newRow]
  rfl
 rw [hr]
 exact h w2 hb w2.heap.size _ (Nat.le_refl _) (Row.new _ _ _) (below_alloc _)
theorem ew_putr (hw : Region.wanted o (yielded ops a.tmps) = true) (ty : TypeId) (x y : Operand) (ho : o.op = .store ty x y) (g : Nat) (hx : a.eval x = .pointer (some ⟨g, 0, none⟩)) {t : TypeId} {old : Array Value} (hg : Row w g old t) (c : Array Value) (hy : a.eval y = .agg c)
  (hi : (P.info? ty).map (·.size) = some c.size) (hold : old.size = c.size) (h1 : c.all (·.oneCell') = true)
  (h : ∀ w2, Below w.heap.size w w2 → ∀ w3, Row w3 g c t → Kept [g] w2 w3 → (fn i = false → C w3) ∧ EW P ops C Q fn L (a.put o.dst undef) w3) : EW P ops C Q fn ((i, o, true) :: L) a w := by
 refine ew_hard hw fun w2 hb => ?_
 have hg2 := hg.belowAll hb
 have hr : (execOp a.eval o).run P w2 = .ok .skip (w2.setRow g c) := by
  unfold execOp
  simp only [ho, hx, hy, Instr.storeAt, Instr.sureAddr, Sem.run_bind, Sem.run_pure, Result.andThen_ok, run_storeVar_row w2 _ t ty old c hg2 hi hold h1]
 rw [hr]
 exact h w2 hb _ (hg2.setRow _) (kept_only (only_setRow _ _ _))
end
theorem RfAt.weak {w : World} {S S2 : List Nat} {a1 a2 : Option Addr} {us : List Ky} {es : List Int} (h : RfAt w S a1 a2 us es) (hS : ∀ b ∈ S2, b ∈ S) : RfAt w S2 a1 a2 us es := h.on (Kept.refl [] w) (by simp) fun b hb => .inl (hS b hb)
theorem fd_perm {l k : List Ky} (h : l.Perm k) (x : Ky) : fdP l x = fdP k x ∧ fdB l x = fdB k x := by
 have hm : (x ∈ l) = (x ∈ k) := propext h.mem_iff
 unfold fdP fdB
 constructor
 ·simp only [hm, rk_perm h]
 ·simp only [hm]
theorem rsame_self (a1 : Option Addr) (c1 : Nat) (l : List Ky) (g1 o1 : Nat) (b1 : Array Value) (t1 : TypeId) (a2 : Option Addr) (c2 : Nat) (g2 o2 : Nat) (b2 : Array Value) (t2 : TypeId) (w : World) (hl : l.length ≤ 100000) (hz : ElsAt 1 w a1 l.length (stC l) g1 o1 b1 t1) (hy : ElsAt 1 w a2 l.length (stC l) g2 o2 b2 t2) :
  Calls Try.prog 18 #[.slice a1 l.length c1, .slice a2 l.length c2] w fun e w' => e = .returned (.bool true) ∧ Below w.heap.size w w' := by
 have h := rsame_any a1 c1 l g1 o1 b1 t1 a2 c2 l g2 o2 b2 t2 w hl hl hz hy
 rw [decide_eq_true rfl] at h
 exact h
theorem rfnd_at {w : World} {S : List Nat} {a1 a2 : Option Addr} {us : List Ky} {es : List Int} (h : RfAt w S a1 a2 us es) (n m : Int) (c1 c2 : Nat) (x : Ky) (hn : us.length ≤ 1000) :
  Calls Try.prog 13 #[.agg (sxC n m (.slice a1 us.length c1) (.slice a2 es.length c2)), .string ⟨x.toArray⟩] w fun e' w' => e' = .returned (.tuple #[.int .i64 (fdP us x : Nat), .bool (fdB us x)]) ∧ Below w.heap.size w w' := by
 obtain ⟨g1, o1, b1, t1, g2, o2, b2, t2, h1, h2, _, _⟩ := h.out
 exact rfnd_any n m _ a1 c1 us g1 o1 b1 t1 x w (by omega) h1
theorem rusd_at {w : World} {S : List Nat} {a1 a2 : Option Addr} {us : List Ky} {es : List Int} (h : RfAt w S a1 a2 us es) (n m : Int) (c1 c2 : Nat) (e : Int) (hn : es.length ≤ 1000) :
  Calls Try.prog 15 #[.agg (sxC n m (.slice a1 us.length c1) (.slice a2 es.length c2)), .int .i64 e] w fun e' w' => e' = .returned (.int .i64 (usd es e)) ∧ Below w.heap.size w w' := by
 obtain ⟨g1, o1, b1, t1, g2, o2, b2, t2, h1, h2, _, _⟩ := h.out
 exact rusd_any n m _ a2 c2 es g2 o2 b2 t2 e w (by omega) h2
/-- Both Opens, side by side. -/
theorem both_open {n m : Int} {ks us : List Ky} {U : Int → Int} {es : List Int} (h : SRel ks U us es) (x : Ky) (e : Int) :
  opP n m us (usd es e) x e = opP n m ks (U e) x e ∧ opF n m us (usd es e) x e = opF n m ks (U e) x e ∧ opE n m us (usd es e) x e = opE n m ks (U e) x e := by
 have hp := op_perm (n := n) (m := m) h.perm (usd es e) x e
 rw [h.used e]
 exact ⟨hp.2.2, hp.2.1, hp.1⟩
theorem built_rf0 (n m : Int) : Try.prog.built 33 [(0, .int .i64 n), (1, .int .i64 m)] = some (sxC n m (.slice none 0 0) (.slice none 0 0)) := by kernel_rfl
end Go.Proofs.Ytchiiphmpkmloaa
