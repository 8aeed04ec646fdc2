/- A region that draws its order, whose hard operations wait for one another but for some: walked in each order of these, as a tree tells them. -/
import Derived.Test.YtchiiphmpkmloaaSrWalk
namespace Go.Proofs.Ytchiiphmpkmloaa
open Go.RowKit
section
variable {P : Program}
/-- An operation that calls nothing. -/
def plainO3 (o : Oper) : Bool := plainO o || (match o.op with
 | .buildSlice _ _ _ => true
 | .makeSlice _ _ _ => true
 | _ => false)
theorem plain_noenter3 {o : Oper} (h : plainO3 o = true) (ρ : Operand → Value) (w : World) (f : FuncId) (args : Array Value) (w' : World) : (execOp ρ o).run P w ≠ .ok (.enter f args) w' := by
 unfold plainO3 at h
 rw [Bool.or_eq_true] at h
 rcases h with h | h
 ·exact plain_noenter h _ _ _ _ _
 ·unfold execOp
  generalize o.op = q at h ⊢
  cases q <;> first | (exact absurd (show false = true from h) (by decide)) | (exact run_noenter _ _ _ _ _)
/-- One waits for another: by itself, or by pairs, the first of which comes behind the second. -/
def wfL (l : List Oper) (ps : List (Nat × Nat)) (i j : Nat) : Bool := waitsFor (opsS l) i j || ps.any fun p => (i == p.1 || waitsFor (opsS l) i p.1) && j == p.2
def chkE3 (l : List Oper) (fs : List Nat) (ps : List (Nat × Nat)) (r : List (Nat × Bool)) : Bool :=
 l.zipIdx.all fun (u : Oper × Nat) => (match u.1.op with | .select _ _ => false | _ => true) && (u.1.after.all fun e => !Region.binds .any e || decide (e.on < u.2)) && chkRW l.toArray (wfL l ps) u.2 u.1 (mkL l r) &&
  (!fs.contains u.2 || r.all fun v => v.2 || waitsFor (opsS l) u.2 v.1)
theorem so_step3 {l : List Oper} {C : World → Prop} (hC : ∀ w w2, C w → Below w.heap.size w w2 → C w2) {Q : Act → World → Prop} {fs : List Nat} {r : List (Nat × Bool)} {ps : List (Nat × Nat)} (hchk : chkE3 l fs ps r = true) {a : Act} {d : Nat → Bool} {val : Nat → Value} {a' : Act} {w' : World}
  (hst : ST P l C Q fs r a d val a' w') (hcl : CLd l d) {i : Nat} {o : Oper} (ho : l[i]? = some o) (hd : d i = false) (hpre : ∀ e ∈ o.after, Region.binds .any e = true → d e.on = true) (hok : ∀ p ∈ ps, d p.1 = true → d p.2 = true) (hnx : ∀ p ∈ ps, i = p.1 → d p.2 = true) :
  (Region.wanted o (yielded l.toArray a'.tmps) = false ∧ ST P l C Q fs r a (fun j => j == i || d j) (updV val i undef) (a'.put o.dst undef) w') ∨
  (Region.wanted o (yielded l.toArray a'.tmps) = true ∧ effUpon P (fun v w2 => ST P l C Q fs r a (fun j => j == i || d j) (updV val i v) (a'.put o.dst v) w2) w' ((execOp a'.eval o).run P w')) := by
 obtain ⟨hw, rfl, hr⟩ := hst
 unfold chkE3 at hchk
 have h1 : (o, i) ∈ l.zipIdx := by rw [List.mem_zipIdx_iff_getElem?]; exact ho
 have h2 := List.all_eq_true.1 hchk _ h1
 simp only [Bool.and_eq_true] at h2
 obtain ⟨⟨⟨a1, a2⟩, a3⟩, a4⟩ := h2
 have hsel : ∀ cs b, o.op ≠ .select cs b := fun cs b e => (by rw [e] at a1; cases a1)
 have hW : ∀ j, waitsFor (opsS l) i j = true → d j = true := fun j hj => reach_pre hcl _ i j _ (opsS_at ho) hpre hj
 have hwait : ∀ j, wfL l ps i j = true → d j = true := fun j hj => by
  unfold wfL at hj
  rw [Bool.or_eq_true] at hj
  rcases hj with hj | hj
  ·exact hW j hj
  ·obtain ⟨p, hp, hq⟩ := List.any_eq_true.1 hj
   rw [Bool.and_eq_true, Bool.or_eq_true] at hq
   have e2 : j = p.2 := by simpa using hq.2
   rw [e2]
   rcases hq.1 with h | h
   ·exact hnx p hp (by simpa using h)
   ·exact hok p hp (hW _ h)
 have hlater : ∀ j u, l[j]? = some u → wfL l ps j i = true → d j = false := fun j u hu hj => by
  cases hdj : d j
  ·rfl
  ·have hR : ∀ k, waitsFor (opsS l) j k = true → d k = true := fun k hk => reach_pre hcl _ j k _ (opsS_at hu) (hcl j _ (opsS_at hu) hdj) hk
   exfalso
   have : d i = true := by
    unfold wfL at hj
    rw [Bool.or_eq_true] at hj
    rcases hj with hj | hj
    ·exact hR i hj
    ·obtain ⟨p, hp, hq⟩ := List.any_eq_true.1 hj
     rw [Bool.and_eq_true, Bool.or_eq_true] at hq
     have e2 : i = p.2 := by simpa using hq.2
     rw [e2]
     rcases hq.1 with h | h
     ·exact hok p hp (by rw [← (by simpa using h : j = p.1)]; exact hdj)
     ·exact hok p hp (hR _ h)
   rw [hd] at this
   cases this
 obtain ⟨hard, hrdy, hmem⟩ := rdy_chkRW ho hwait hlater (mkL l r) (fun x hx => (mkL_mem r x hx).1) a3
 have hof : ∀ j, (j == i || d j) = false → d j = false := fun j hj => by
  rw [Bool.or_eq_false_iff] at hj
  exact hj.2
 rcases re_step hd hC hsel (mkL l r) a a w' (fun hh => hw _ hmem hh hd) hr hrdy rfl (fun _ _ => rfl) with ⟨h1, h2⟩ | ⟨h1, h2⟩
 ·exact .inl ⟨h1, fun x hx hq hdx => hw x hx hq (hof _ hdx), (actV_add hd undef _ _ hrdy).symm, h2⟩
 ·refine .inr ⟨h1, effUpon_mono h2 fun v w2 ⟨h3, h4⟩ => ⟨fun x hx hq hdx => ?_, (actV_add hd v _ _ hrdy).symm, h4⟩⟩
  cases hf : fs.contains i with
  | false => exact h3 hf
  | true =>
   rw [hf] at a4
   simp only [Bool.not_true, Bool.false_or] at a4
   have h5 := List.all_eq_true.1 a4 (x.1, x.2.2) (mkL_mem r x hx).2
   rw [Bool.or_eq_true] at h5
   rcases h5 with h5 | h5
   ·rw [hq] at h5; cases h5
   ·have h6 := hof _ hdx
    rw [hW x.1 h5] at h6
    cases h6
/-- A tree of orders: at a node one of two comes first. -/
inductive OT where
 | leaf (r : List (Nat × Bool))
 | node (A B : Nat) (s t : OT)
def OT.chk (l : List Oper) (fs : List Nat) : List (Nat × Nat) → OT → Bool
 | ps, .leaf r => chkE3 l fs ps r
 | ps, .node A B s t => A != B && (l.zipIdx.all fun (x : Oper × Nat) => x.2 == A || x.2 == B || plainO3 x.1 || waitsFor (opsS l) x.2 A || waitsFor (opsS l) x.2 B) && OT.chk l fs ((B, A) :: ps) s && OT.chk l fs ((A, B) :: ps) t
def OT.inv (P : Program) (l : List Oper) (C : World → Prop) (Q : Act → World → Prop) (fs : List Nat) (a : Act) (d : Nat → Bool) (val : Nat → Value) (a' : Act) (w' : World) : OT → Prop
 | .leaf r => ST P l C Q fs r a d val a' w'
 | .node A B s t => (d A = false ∧ d B = false ∧ OT.inv P l C Q fs a d val a' w' s ∧ OT.inv P l C Q fs a d val a' w' t) ∨ (d A = true ∧ OT.inv P l C Q fs a d val a' w' s) ∨ (d B = true ∧ OT.inv P l C Q fs a d val a' w' t)
def OT.all (P : Program) (l : List Oper) (C : World → Prop) (Q : Act → World → Prop) (fs : List Nat) (a : Act) (W : World) : OT → Prop
 | .leaf r => EW P l.toArray C Q (fun i => fs.contains i) (mkL l r) a W
 | .node _ _ s t => OT.all P l C Q fs a W s ∧ OT.all P l C Q fs a W t
theorem OT.start {l : List Oper} {C : World → Prop} (hC : ∀ w w2, C w → Below w.heap.size w w2 → C w2) {Q : Act → World → Prop} {fs : List Nat} {a : Act} {W : World} (h0 : C W) : ∀ T : OT, T.all P l C Q fs a W → T.inv P l C Q fs a (fun _ => false) (fun _ => undef) a W.drew
 | .leaf _, h => so_start hC h0 h
 | .node _ _ s t, h => .inl ⟨rfl, rfl, OT.start hC h0 s h.1, OT.start hC h0 t h.2⟩
theorem OT.fin {l : List Oper} {C : World → Prop} {Q : Act → World → Prop} {fs : List Nat} {a : Act} {d : Nat → Bool} {val : Nat → Value} {a' : Act} {w' : World} (hd : ∀ j, j < l.length → d j = true) : ∀ T : OT, T.inv P l C Q fs a d val a' w' → Q a' w'
 | .leaf _, h => so_done h hd
 | .node _ _ s t, h => by
  rcases h with ⟨_, _, h, _⟩ | ⟨_, h⟩ | ⟨_, h⟩
  ·exact OT.fin hd s h
  ·exact OT.fin hd s h
  ·exact OT.fin hd t h
theorem OT.lex {l : List Oper} {fs : List Nat} : ∀ (T : OT) (ps : List (Nat × Nat)), T.chk l fs ps = true → (l.zipIdx.all fun (u : Oper × Nat) => u.1.after.all fun e => !Region.binds .any e || decide (e.on < u.2)) = true
 | .leaf r, ps, h => by
  rw [List.all_eq_true]
  intro x hx
  have h2 := List.all_eq_true.1 (show chkE3 l fs ps r = true from h) _ hx
  simp only [Bool.and_eq_true] at h2
  exact h2.1.1.2
 | .node A B s t, ps, h => by
  unfold OT.chk at h
  simp only [Bool.and_eq_true] at h
  exact OT.lex s _ h.1.2
theorem OT.step {l : List Oper} {C : World → Prop} (hC : ∀ w w2, C w → Below w.heap.size w w2 → C w2) {Q : Act → World → Prop} {fs : List Nat} {a : Act} {d : Nat → Bool} {val : Nat → Value} {a' : Act} {w' : World} (hcl : CLd l d) {i : Nat} {o : Oper} (ho : l[i]? = some o) (hd : d i = false) (hpre : ∀ e ∈ o.after, Region.binds .any e = true → d e.on = true) :
  ∀ (T : OT) (ps : List (Nat × Nat)), T.chk l fs ps = true → (∀ p ∈ ps, d p.1 = true → d p.2 = true) → (∀ p ∈ ps, i = p.1 → d p.2 = true) → T.inv P l C Q fs a d val a' w' →
  (Region.wanted o (yielded l.toArray a'.tmps) = false ∧ T.inv P l C Q fs a (fun j => j == i || d j) (updV val i undef) (a'.put o.dst undef) w') ∨
  (Region.wanted o (yielded l.toArray a'.tmps) = true ∧ effUpon P (fun v w2 => T.inv P l C Q fs a (fun j => j == i || d j) (updV val i v) (a'.put o.dst v) w2) w' ((execOp a'.eval o).run P w'))
 | .leaf _, _, hc, hok, hnx, h => so_step3 hC hc h hcl ho hd hpre hok hnx
 | .node A B s t, ps, hc, hok, hnx, h => by
  unfold OT.chk at hc
  simp only [Bool.and_eq_true] at hc
  obtain ⟨⟨⟨hne, hp⟩, hcs⟩, hct⟩ := hc
  have hAB : A ≠ B := by simpa using hne
  have up : ∀ {X : Nat}, d X = true → (X == i || d X) = true := fun h => by rw [h, Bool.or_true]
  have S : (d B = true → d A = true) → (i = B → d A = true) → s.inv P l C Q fs a d val a' w' → _ := fun h1 h2 hi => OT.step hC hcl ho hd hpre s ((B, A) :: ps) hcs (fun p hp' => by
   rcases List.mem_cons.1 hp' with rfl | hp'
   ·exact h1
   ·exact hok p hp') (fun p hp' => by
   rcases List.mem_cons.1 hp' with rfl | hp'
   ·exact h2
   ·exact hnx p hp') hi
  have T : (d A = true → d B = true) → (i = A → d B = true) → t.inv P l C Q fs a d val a' w' → _ := fun h1 h2 hi => OT.step hC hcl ho hd hpre t ((A, B) :: ps) hct (fun p hp' => by
   rcases List.mem_cons.1 hp' with rfl | hp'
   ·exact h1
   ·exact hok p hp') (fun p hp' => by
   rcases List.mem_cons.1 hp' with rfl | hp'
   ·exact h2
   ·exact hnx p hp') hi
  rcases h with ⟨hA, hB, hs, ht⟩ | ⟨hA, hs⟩ | ⟨hB, ht⟩
  ·by_cases eA : i = A
   ·rcases S (fun h => by rw [hB] at h; cases h) (fun h => absurd (eA.symm.trans h) hAB) hs with ⟨h3, h4⟩ | ⟨h3, h4⟩
    ·exact .inl ⟨h3, .inr (.inl ⟨by simp [eA], h4⟩)⟩
    ·exact .inr ⟨h3, effUpon_mono h4 fun v w2 h5 => .inr (.inl ⟨by simp [eA], h5⟩)⟩
   ·by_cases eB : i = B
    ·rcases T (fun h => by rw [hA] at h; cases h) (fun h => absurd h eA) ht with ⟨h3, h4⟩ | ⟨h3, h4⟩
     ·exact .inl ⟨h3, .inr (.inr ⟨by simp [eB], h4⟩)⟩
     ·exact .inr ⟨h3, effUpon_mono h4 fun v w2 h5 => .inr (.inr ⟨by simp [eB], h5⟩)⟩
    ·have hA' : (A == i || d A) = false := by rw [hA, Bool.or_false]; simpa using fun h => eA h.symm
     have hB' : (B == i || d B) = false := by rw [hB, Bool.or_false]; simpa using fun h => eB h.symm
     have hW : ∀ j, waitsFor (opsS l) i j = true → d j = true := fun j hj => reach_pre hcl _ i j _ (opsS_at ho) hpre hj
     have hpl : plainO3 o = true := by
      have h3 := List.all_eq_true.1 hp (o, i) (by rw [List.mem_zipIdx_iff_getElem?]; exact ho)
      simp only [Bool.or_eq_true] at h3
      rcases h3 with (((h3 | h3) | h3) | h3) | h3
      ·exact absurd (by simpa using h3) eA
      ·exact absurd (by simpa using h3) eB
      ·exact h3
      ·rw [hW A h3] at hA; cases hA
      ·rw [hW B h3] at hB; cases hB
     rcases S (fun h => by rw [hB] at h; cases h) (fun h => absurd h eB) hs with ⟨h3, h4⟩ | ⟨h3, h4⟩
     ·rcases T (fun h => by rw [hA] at h; cases h) (fun h => absurd h eA) ht with ⟨h5, h6⟩ | ⟨h5, h6⟩
      ·exact .inl ⟨h3, .inl ⟨hA', hB', h4, h6⟩⟩
      ·rw [h3] at h5; cases h5
     ·rcases T (fun h => by rw [hA] at h; cases h) (fun h => absurd h eA) ht with ⟨h5, h6⟩ | ⟨h5, h6⟩
      ·rw [h3] at h5; cases h5
      ·exact .inr ⟨h3, effUpon_mono (effUpon_and (plain_noenter3 hpl _ _) h4 h6) fun v w2 h7 => .inl ⟨hA', hB', h7.1, h7.2⟩⟩
  ·rcases S (fun _ => hA) (fun _ => hA) hs with ⟨h3, h4⟩ | ⟨h3, h4⟩
   ·exact .inl ⟨h3, .inr (.inl ⟨up hA, h4⟩)⟩
   ·exact .inr ⟨h3, effUpon_mono h4 fun v w2 h5 => .inr (.inl ⟨up hA, h5⟩)⟩
  ·rcases T (fun _ => hB) (fun _ => hB) ht with ⟨h3, h4⟩ | ⟨h3, h4⟩
   ·exact .inl ⟨h3, .inr (.inr ⟨up hB, h4⟩)⟩
   ·exact .inr ⟨h3, effUpon_mono h4 fun v w2 h5 => .inr (.inr ⟨up hB, h5⟩)⟩
/-- In each order of a tree. -/
theorem wp_region_ot {id : Nat} {l : List Oper} {a : Act} {W : World} {Q : Exit → Act → World → Prop} (hm : P.follows .mixedOrders = true) (C : World → Prop) (hC : ∀ w w2, C w → Below w.heap.size w w2 → C w2) (h0 : C W) (fs : List Nat) (T : OT)
  (h : T.all P l C (Q .normal) fs a W) (hc : T.chk l fs [] = true) : (Code.region id l.toArray true).wp P Q a W := by
 refine wp_region_inv hm (fun d a' w' => CLd l d ∧ ∃ val, T.inv P l C (Q .normal) fs a d val a' w') ?lex ?start ?step ?fin
 case lex => exact T.lex [] hc
 case start => exact ⟨fun i x _ hd => (by cases hd), _, OT.start hC h0 T h⟩
 case fin =>
  rintro d a' w' ⟨_, val, h⟩ hd
  exact OT.fin hd T h
 case step =>
  rintro i o ho d a' w' ⟨hcl, val, hi⟩ hd hpre
  have hup := hcl.up ho hpre
  rcases OT.step hC hcl ho hd hpre T [] hc (fun p hp => by cases hp) (fun p hp => by cases hp) hi with ⟨h3, h4⟩ | ⟨h3, h4⟩
  ·rw [if_neg (by rw [h3]; decide)]
   exact ⟨hup, _, h4⟩
  ·rw [if_pos h3]
   exact opw_eff h4 fun v w2 h5 => ⟨hup, _, h5⟩
theorem wp_region_otb {id : Nat} {l : List Oper} {a : Act} {W : World} {Q : Exit → Act → World → Prop} (hm : P.follows .mixedOrders = true) (fs : List Nat) (T : OT)
  (h : T.all P l (fun x => Below W.heap.size W x) (Q .normal) fs a W) (hc : T.chk l fs [] = true) : (Code.region id l.toArray true).wp P Q a W :=
 wp_region_ot hm (fun x => Below W.heap.size W x) (fun _ _ h1 h2 => below_on h1 (Nat.le_refl _) h2) (Below.refl _ _) fs T h hc
theorem wp_region_ewb {id : Nat} {l : List Oper} {a : Act} {W : World} {Q : Exit → Act → World → Prop} (hm : P.follows .mixedOrders = true) (fs : List Nat) (r : List (Nat × Bool))
  (h : EW P l.toArray (fun x => Below W.heap.size W x) (Q .normal) (fun i => fs.contains i) (mkL l r) a W) (hchk : chkE3 l fs [] r = true) : (Code.region id l.toArray true).wp P Q a W := wp_region_otb hm fs (.leaf r) h hchk
theorem wp_region_ewb2 {id : Nat} {l : List Oper} {a : Act} {W : World} {Q : Exit → Act → World → Prop} (hm : P.follows .mixedOrders = true) (fs : List Nat) (A B : Nat) (hAB : A ≠ B) (r1 r2 : List (Nat × Bool))
  (c1 : chkE3 l fs [(B, A)] r1 = true) (c2 : chkE3 l fs [(A, B)] r2 = true) (hp : (l.zipIdx.all fun (x : Oper × Nat) => x.2 == A || x.2 == B || plainO3 x.1 || waitsFor (opsS l) x.2 A || waitsFor (opsS l) x.2 B) = true)
  (h1 : EW P l.toArray (fun x => Below W.heap.size W x) (Q .normal) (fun i => fs.contains i) (mkL l r1) a W) (h2 : EW P l.toArray (fun x => Below W.heap.size W x) (Q .normal) (fun i => fs.contains i) (mkL l r2) a W) : (Code.region id l.toArray true).wp P Q a W :=
 wp_region_otb hm fs (.node A B (.leaf r1) (.leaf r2)) ⟨h1, h2⟩ (by unfold OT.chk OT.chk; rw [c1, c2, hp, bne_iff_ne.2 hAB]; rfl)
end
end Go.Proofs.Ytchiiphmpkmloaa
