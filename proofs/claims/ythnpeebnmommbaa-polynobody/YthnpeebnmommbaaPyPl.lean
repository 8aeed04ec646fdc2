/- What poly's functions answer, as lists of numbers below Q: of a group that New has made. -/
import Derived.Test.YthnpeebnmommbaaPyFun
namespace Go.Proofs.Ythnpeebnmommbaa
open Go.RowKit
set_option linter.unusedVariables false
set_option linter.unusedSectionVars false
section
variable {Q : Nat} [NeZero Q]
/-- An argument: naturals that by Q are a list's numbers. -/
def PlA (w : World) (v : Value) (L : List (Fin Q)) : Prop := ∃ ab n c F gb ob bcs tb, v = .slice ab n c ∧ n ≤ 1000 ∧ NatsAt w ab n F gb ob bcs tb ∧ fl n F = L
/-- A result: a list's numbers themselves. -/
def PlAt (w : World) (v : Value) (L : List (Fin Q)) : Prop := ∃ ab c gb ob bcs tb, v = .slice ab L.length c ∧ NatsAt w ab L.length (fun i => (pco L i).val) gb ob bcs tb
theorem PlA.below {w w' : World} {v : Value} {L : List (Fin Q)} (h : PlA w v L) (hb : Below w.heap.size w w') : PlA w' v L := by
 obtain ⟨ab, n, c, F, gb, ob, bcs, tb, h1, h2, h3, h4⟩ := h
 exact ⟨ab, n, c, F, gb, ob, bcs, tb, h1, h2, h3.below hb, h4⟩
theorem PlAt.below {w w' : World} {v : Value} {L : List (Fin Q)} (h : PlAt w v L) (hb : Below w.heap.size w w') : PlAt w' v L := by
 obtain ⟨ab, c, gb, ob, bcs, tb, h1, h3⟩ := h
 exact ⟨ab, c, gb, ob, bcs, tb, h1, h3.below hb⟩
theorem PlAt.arg {w : World} {v : Value} {L : List (Fin Q)} (h : PlAt w v L) (hl : L.length ≤ 1000) : PlA w v L := by
 obtain ⟨ab, c, gb, ob, bcs, tb, h1, h3⟩ := h
 exact ⟨ab, _, c, _, gb, ob, bcs, tb, h1, hl, h3, fl_of L⟩
theorem NatsAt.pl {w : World} {ab : Option Addr} {n c : Nat} {F : Nat → Nat} {gb ob : Nat} {bcs : Array Value} {tb : TypeId} (h : NatsAt w ab n F gb ob bcs tb) (hn : n ≤ 1000) : PlA w (.slice ab n c) (fl n F : List (Fin Q)) :=
 ⟨ab, n, c, F, gb, ob, bcs, tb, rfl, hn, h, rfl⟩
theorem plAt_nil (w : World) : PlAt w (.slice none 0 0) ([] : List (Fin Q)) := ⟨none, 0, 0, 0, #[], 0, rfl, ⟨.inl rfl, fun i hi => by simp at hi⟩⟩
/-- Numbers that were made, trimmed. -/
theorem plAt_of {w : World} {g n : Nat} {F : Nat → Nat} {L : List (Fin Q)} (r : Row w g (nsC n F) 32) (hQ : Q < 2 ^ 256) (hF : ∀ i, i < n → F i < Q) (hL : ∀ i, pco (fl n F : List (Fin Q)) i = pco L i) : PlAt w (.slice (some ⟨g, 0, none⟩) (yTn F n) n) (ptrim L) := by
 obtain ⟨h1, h2⟩ := tn_of n F L hF hL
 have h := (nats_row r fun i hi => Nat.lt_trans (hF i hi) hQ).take (yTn_le F n)
 rw [h1] at h h2
 rw [h1]
 exact ⟨_, _, _, _, _, _, rfl, h.congr fun i hi => h2 i hi⟩
theorem psum_def (f g : List (Fin Q)) : ptrim (padd f g) = psum f g := rfl
section
variable {g gr gf P G : Nat} {w : World}
theorem trimQ (va : Value) (La : List (Fin Q)) (q : FdQ Q) (h : GrpAt w g gr gf P Q G) (ha : PlA w va La) :
  Calls Try.prog 16 #[.pointer (some ⟨g, 0, none⟩), va] w fun e w' => ∃ v, e = .returned v ∧ PlAt w' v (ptrim La) ∧ Below w.heap.size w w' := by
 obtain ⟨ab, n, c, F, gb, ob, bcs, tb, rfl, hn, hna, rfl⟩ := ha
 refine (trim_any _ ab n c F (fO Q) gb ob bcs tb w (by omega) hna (h.fa q)).mono ?_
 rintro e w' ⟨gx, rfl, _, r, hb⟩
 refine ⟨_, rfl, plAt_of r q.m (fun i _ => yTm_lt F i) fun i => ?_, hb⟩
 rw [yTm_of]
theorem addQ (va vb : Value) (La Lb : List (Fin Q)) (q : FdQ Q) (h : GrpAt w g gr gf P Q G) (ha : PlA w va La) (hb : PlA w vb Lb) :
  Calls Try.prog 13 #[.pointer (some ⟨g, 0, none⟩), va, vb] w fun e w' => ∃ v, e = .returned v ∧ PlAt w' v (psum La Lb) ∧ Below w.heap.size w w' := by
 obtain ⟨ab, n, c, F, gb, ob, bcs, tb, rfl, hn, hna, rfl⟩ := ha
 obtain ⟨ae, m, ce, E, ge, oe, ecs, te, rfl, hm, hnb, rfl⟩ := hb
 refine (padd_any _ ab ae n c m ce F E (fO Q) gb ob ge oe bcs ecs tb te w (by omega) (by omega) hna hnb (h.fa q)).mono ?_
 rintro e w' ⟨gx, rfl, _, r, hb⟩
 exact ⟨_, rfl, plAt_of r q.m (fun i _ => Nat.mod_lt _ q.pos) fun i => ySm_of n F m E i, hb⟩
theorem mulQ (va vb : Value) (La Lb : List (Fin Q)) (q : FdQ Q) (h : GrpAt w g gr gf P Q G) (ha : PlA w va La) (hb : PlA w vb Lb) :
  Calls Try.prog 14 #[.pointer (some ⟨g, 0, none⟩), va, vb] w fun e w' => ∃ v, e = .returned v ∧ PlAt w' v (pmul La Lb) ∧ Below w.heap.size w w' := by
 obtain ⟨ab, n, c, F, gb, ob, bcs, tb, rfl, hn, hna, rfl⟩ := ha
 obtain ⟨ae, m, ce, E, ge, oe, ecs, te, rfl, hm, hnb, rfl⟩ := hb
 refine (pmul_any _ ab ae n c m ce F E (fO Q) gb ob ge oe bcs ecs tb te w hn hm hna hnb (h.fa q)).mono ?_
 rintro e w' ⟨gx, rfl, _, r, hb⟩
 have ea : (fl (yTn (yTm (fO Q) F) n) (yTm (fO Q) F) : List (Fin Q)) = ptrim (fl n F) := by
  have h1 := tn_of n (yTm (fO Q) F) (fl n F : List (Fin Q)) (fun i _ => yTm_lt F i) (fun i => by rw [yTm_of])
  exact fl_pco _ _ _ h1.1 h1.2
 have eb : (fl (yTn (yTm (fO Q) E) m) (yTm (fO Q) E) : List (Fin Q)) = ptrim (fl m E) := by
  have h1 := tn_of m (yTm (fO Q) E) (fl m E : List (Fin Q)) (fun i _ => yTm_lt E i) (fun i => by rw [yTm_of])
  exact fl_pco _ _ _ h1.1 h1.2
 have hp := plAt_of (L := pmul (fl n F) (fl m E)) r q.m (fun i _ => yCv_lt _ _ _ _ _) fun i => by rw [yMl_of, ea, eb, pmul_trims]
 rw [pmul_trim] at hp
 exact ⟨_, rfl, hp, hb⟩
theorem evalQ (va : Value) (La : List (Fin Q)) (x : Nat) (hx : x < 2 ^ 256) (q : FdQ Q) (h : GrpAt w g gr gf P Q G) (ha : PlA w va La) :
  Calls Try.prog 11 #[.pointer (some ⟨g, 0, none⟩), va, .agg (natC x)] w fun e w' => e = .returned (.agg (natC (pev (fi x) La).val)) ∧ Below w.heap.size w w' := by
 obtain ⟨ab, n, c, F, gb, ob, bcs, tb, rfl, hn, hna, rfl⟩ := ha
 have := peval_any (some ⟨g, 0, none⟩) ab n c x F (fO Q) gb ob bcs tb w (by omega) hx hna (h.fa q)
 rw [yHv_of] at this
 exact this
end
end
end Go.Proofs.Ythnpeebnmommbaa
