/- A region that draws its order, two of whose hard operations do not wait for one another: walked in both orders. -/
import Derived.Test.YtchiiphmpkmloaaEWalk
namespace Go.Proofs.Ytchiiphmpkmloaa
open Go.RowKit
section
variable {P : Program}
/-- An operation that calls nothing. -/
def plainO (o : Oper) : Bool := match o.op with
 | .move _ | .assign _ | .load _ _ | .binOp _ _ _ _ _ | .unOp _ _ _ | .slice _ _ _ _ _ | .fieldAddr _ _ _ | .indexAddr _ _ _ | .extract _ _ | .makeFunc _ _ _ | .build _ _ => true
 | _ => false
theorem run_noenter (s : Sem Value) (w : World) (f : FuncId) (args : Array Value) (w' : World) : ((do pure (Next.value (← s))) : Sem Next).run P w ≠ .ok (.enter f args) w' := by
 intro h
 simp only [Sem.run_bind] at h
 cases hs : s.run P w with
 | ok v w2 => rw [hs] at h; simp [Result.andThen_ok] at h
 | halt x w2 => rw [hs] at h; cases h
theorem plain_noenter {o : Oper} (h : plainO o = true) (ρ : Operand → Value) (w : World) (f : FuncId) (args : Array Value) (w' : World) : (execOp ρ o).run P w ≠ .ok (.enter f args) w' := by
 unfold execOp
 unfold plainO at h
 generalize o.op = q at h ⊢
 cases q <;> first | (exact absurd (show false = true from h) (by decide)) | (exact run_noenter _ _ _ _ _) | (intro h2; cases h2)
theorem effUpon_and {E E' : Value → World → Prop} {w : World} {r : Result Next} (hn : ∀ f args w', r ≠ .ok (.enter f args) w') (h : effUpon P E w r) (h' : effUpon P E' w r) : effUpon P (fun v w2 => E v w2 ∧ E' v w2) w r := by
 cases r with
 | ok n w' =>
  cases n <;> simp only [effUpon] at h h' ⊢
  case value u => exact ⟨h, h'⟩
  case skip => exact ⟨h, h'⟩
  case enter f args => exact absurd rfl (hn f args w')
 | halt x w' => simp only [effUpon] at h
def chkRW (ops : Array Oper) (wf : Nat → Nat → Bool) (i : Nat) (o : Oper) : DL → Bool
 | [] => false
 | y :: l =>
  if y.1 == i then l.all fun u => u.1 != i && (match u.2.1.dst with | none => true | some s => o.dst != some s && (!(o.looksAt ops).contains s || wf u.1 i))
  else (match y.2.1.dst with | none => true | some s => o.dst != some s && (!(o.looksAt ops).contains s || wf i y.1)) && (!y.2.2 || wf i y.1) && chkRW ops wf i o l
theorem rdy_chkRW {l : List Oper} {d : Nat → Bool} {i : Nat} {o : Oper} {wf : Nat → Nat → Bool} (ho : l[i]? = some o) (hwait : ∀ j, wf i j = true → d j = true) (hlater : ∀ j y, l[j]? = some y → wf j i = true → d j = false) :
  ∀ L : DL, (∀ x ∈ L, l[x.1]? = some x.2.1) → chkRW l.toArray wf i o L = true → ∃ hard, Rdy l.toArray d i o hard L ∧ (i, o, hard) ∈ L
 | [], _, h => by simp [chkRW] at h
 | y :: L, hL, h => by
  unfold chkRW at h
  by_cases e : y.1 = i
  ·rw [if_pos (by simpa using e)] at h
   have hy := hL y (List.mem_cons_self ..)
   rw [e, ho] at hy
   obtain ⟨j, p, f⟩ := y
   obtain rfl : j = i := e
   obtain rfl : o = p := by simpa using hy
   refine ⟨f, .inr ⟨rfl, fun u hu => ?_⟩, List.mem_cons_self ..⟩
   have h1 := List.all_eq_true.1 h u hu
   rw [Bool.and_eq_true] at h1
   refine ⟨by simpa using h1.1, fun s hs e => ?_, fun s hs hl => ?_⟩
   ·have h2 := h1.2
    rw [e] at h2
    simp only [Bool.and_eq_true, bne_iff_ne, ne_eq] at h2
    exact h2.1 hs
   ·have h2 := h1.2
    rw [hs] at h2
    simp only [Bool.and_eq_true, Bool.or_eq_true, Bool.not_eq_true'] at h2
    rcases h2.2 with h3 | h3
    ·rw [List.contains_iff_mem.2 hl] at h3; cases h3
    ·exact hlater u.1 u.2.1 (hL u (List.mem_cons_of_mem _ hu)) h3
  ·rw [if_neg (by simpa using e)] at h
   simp only [Bool.and_eq_true] at h
   obtain ⟨⟨h1, h2⟩, h3⟩ := h
   obtain ⟨hard, hr, hm⟩ := rdy_chkRW ho hwait hlater L (fun x hx => hL x (List.mem_cons_of_mem _ hx)) h3
   refine ⟨hard, .inl ⟨e, fun s hs e' => ?_, fun s hs hl => ?_, fun hh => ?_, hr⟩, List.mem_cons_of_mem _ hm⟩
   ·rw [e'] at h1
    simp only [Bool.and_eq_true, bne_iff_ne, ne_eq] at h1
    exact h1.1 hs
   ·rw [hs] at h1
    simp only [Bool.and_eq_true, Bool.or_eq_true, Bool.not_eq_true'] at h1
    rcases h1.2 with h4 | h4
    ·rw [List.contains_iff_mem.2 hl] at h4; cases h4
    ·exact hwait y.1 h4
   ·rw [hh] at h2
    exact hwait y.1 (by simpa using h2)
/-- One waits for another: by itself, or as it is the x-th that comes behind the y-th. -/
def wfP (l : List Oper) (x y i j : Nat) : Bool := waitsFor (opsS l) i j || (i == x && j == y)
def chkE2 (l : List Oper) (fs : List Nat) (x y : Nat) (r : List (Nat × Bool)) : Bool :=
 l.zipIdx.all fun (u : Oper × Nat) => (match u.1.op with | .select _ _ => false | _ => true) && (u.1.after.all fun e => !Region.binds .any e || decide (e.on < u.2)) && chkRW l.toArray (wfP l x y) u.2 u.1 (mkL l r) &&
  (!fs.contains u.2 || r.all fun v => v.2 || waitsFor (opsS l) u.2 v.1)
/-- Where one is, on an order's way. -/
structure ST (P : Program) (l : List Oper) (C : World → Prop) (Q : Act → World → Prop) (fs : List Nat) (r : List (Nat × Bool)) (a : Act) (d : Nat → Bool) (val : Nat → Value) (a' : Act) (w' : World) : Prop where
 c : ∀ x ∈ mkL l r, x.2.2 = false → d x.1 = false → C w'
 e : a' = actV val d (mkL l r) a
 o : RE P l.toArray C Q (fun i => fs.contains i) d val (mkL l r) a w'
def CLd (l : List Oper) (d : Nat → Bool) : Prop := ∀ i (x : Oper × Sp), (opsS l)[i]? = some x → d i = true → ∀ e ∈ x.1.after, Region.binds .any e = true → d e.on = true
theorem opsS_at {l : List Oper} {i : Nat} {o : Oper} (ho : l[i]? = some o) : (opsS l)[i]? = some (o, skipS) := by
 unfold opsS
 rw [List.getElem?_map, ho]; rfl
theorem CLd.up {l : List Oper} {d : Nat → Bool} (h : CLd l d) {i : Nat} {o : Oper} (ho : l[i]? = some o) (hpre : ∀ e ∈ o.after, Region.binds .any e = true → d e.on = true) : CLd l (fun j => j == i || d j) := fun i' x' hx' hd' e he hb => by
 show (e.on == i || d e.on) = true
 by_cases hii : i' = i
 ·subst hii
  rw [opsS_at ho] at hx'
  obtain rfl : (o, skipS) = x' := by simpa using hx'
  rw [hpre e he hb, Bool.or_true]
 ·have hd2 : (i' == i || d i') = true := hd'
  rw [show (i' == i) = false by simpa using hii, Bool.false_or] at hd2
  rw [h i' x' hx' hd2 e he hb, Bool.or_true]
theorem so_step {l : List Oper} {C : World → Prop} (hC : ∀ w w2, C w → Below w.heap.size w w2 → C w2) {Q : Act → World → Prop} {fs : List Nat} {r : List (Nat × Bool)} {x y : Nat} (hchk : chkE2 l fs x y r = true) {a : Act} {d : Nat → Bool} {val : Nat → Value} {a' : Act} {w' : World}
  (hst : ST P l C Q fs r a d val a' w') (hcl : CLd l d) {i : Nat} {o : Oper} (ho : l[i]? = some o) (hd : d i = false) (hpre : ∀ e ∈ o.after, Region.binds .any e = true → d e.on = true) (hx1 : i = x → d y = true) (hx2 : i = y → d x = false) :
  (Region.wanted o (yielded l.toArray a'.tmps) = false ∧ ST P l C Q fs r a (fun j => j == i || d j) (updV val i undef) (a'.put o.dst undef) w') ∨
  (Region.wanted o (yielded l.toArray a'.tmps) = true ∧ effUpon P (fun v w2 => ST P l C Q fs r a (fun j => j == i || d j) (updV val i v) (a'.put o.dst v) w2) w' ((execOp a'.eval o).run P w')) := by
 obtain ⟨hw, rfl, hr⟩ := hst
 unfold chkE2 at hchk
 have h1 : (o, i) ∈ l.zipIdx := by rw [List.mem_zipIdx_iff_getElem?]; exact ho
 have h2 := List.all_eq_true.1 hchk _ h1
 simp only [Bool.and_eq_true] at h2
 obtain ⟨⟨⟨a1, a2⟩, a3⟩, a4⟩ := h2
 have hsel : ∀ cs b, o.op ≠ .select cs b := fun cs b e => (by rw [e] at a1; cases a1)
 have hW : ∀ j, waitsFor (opsS l) i j = true → d j = true := fun j hj => reach_pre hcl _ i j _ (opsS_at ho) hpre hj
 have hwait : ∀ j, wfP l x y i j = true → d j = true := fun j hj => by
  unfold wfP at hj
  rw [Bool.or_eq_true] at hj
  rcases hj with hj | hj
  ·exact hW j hj
  ·rw [Bool.and_eq_true] at hj
   have e1 : i = x := by simpa using hj.1
   have e2 : j = y := by simpa using hj.2
   rw [e2]; exact hx1 e1
 have hlater : ∀ j u, l[j]? = some u → wfP l x y j i = true → d j = false := fun j u hu hj => by
  unfold wfP at hj
  rw [Bool.or_eq_true] at hj
  rcases hj with hj | hj
  ·cases hdj : d j
   ·rfl
   ·rw [reach_pre hcl _ j i _ (opsS_at hu) (hcl j _ (opsS_at hu) hdj) hj] at hd; cases hd
  ·rw [Bool.and_eq_true] at hj
   have e1 : j = x := by simpa using hj.1
   have e2 : i = y := by simpa using hj.2
   rw [e1]; exact hx2 e2
 obtain ⟨hard, hrdy, hmem⟩ := rdy_chkRW ho hwait hlater (mkL l r) (fun x hx => (mkL_mem r x hx).1) a3
 have hof : ∀ j, (j == i || d j) = false → d j = false := fun j hj => by
  rw [Bool.or_eq_false_iff] at hj
  exact hj.2
 rcases re_step hd hC hsel (mkL l r) a a w' (fun hh => hw _ hmem hh hd) hr hrdy rfl (fun _ _ => rfl) with ⟨h1, h2⟩ | ⟨h1, h2⟩
 ·exact .inl ⟨h1, fun x hx hq hdx => hw x hx hq (hof _ hdx), (actV_add hd undef _ _ hrdy).symm, h2⟩
 ·refine .inr ⟨h1, effUpon_mono h2 fun v w2 ⟨h3, h4⟩ => ⟨fun x hx hq hdx => ?_, (actV_add hd v _ _ hrdy).symm, h4⟩⟩
  cases hf : fs.contains i with
  | false => exact h3 hf
  | true =>
   rw [hf] at a4
   simp only [Bool.not_true, Bool.false_or] at a4
   have h5 := List.all_eq_true.1 a4 (x.1, x.2.2) (mkL_mem r x hx).2
   rw [Bool.or_eq_true] at h5
   rcases h5 with h5 | h5
   ·rw [hq] at h5; cases h5
   ·have h6 := hof _ hdx
    rw [hW x.1 h5] at h6
    cases h6
theorem so_start {l : List Oper} {C : World → Prop} (hC : ∀ w w2, C w → Below w.heap.size w w2 → C w2) {Q : Act → World → Prop} {fs : List Nat} {r : List (Nat × Bool)} {a : Act} {W : World} (h0 : C W) (h : EW P l.toArray C Q (fun i => fs.contains i) (mkL l r) a W) :
  ST P l C Q fs r a (fun _ => false) (fun _ => undef) a W.drew := by
 have hb : Below W.heap.size W W.drew := (Below.refl _ _).drew
 refine ⟨fun _ _ _ _ => hC _ _ h0 hb, ?_, RE.later _ _ _ _ h.out hb⟩
 have : ∀ (L : DL) (b : Act), actV (fun _ => undef) (fun _ => false) L b = b := fun L => by
  induction L with
  | nil => intro b; rfl
  | cons x L ih =>
   intro b
   unfold actV
   rw [if_neg (by decide)]
   exact ih b
 exact (this _ _).symm
theorem so_done {l : List Oper} {C : World → Prop} {Q : Act → World → Prop} {fs : List Nat} {r : List (Nat × Bool)} {a : Act} {d : Nat → Bool} {val : Nat → Value} {a' : Act} {w' : World} (h : ST P l C Q fs r a d val a' w') (hd : ∀ j, j < l.length → d j = true) : Q a' w' := by
 obtain ⟨_, rfl, hr⟩ := h
 exact RE.done _ _ _ (fun x hx => hd x.1 (List.getElem?_eq_some_iff.1 (mkL_mem r x hx).1).1) hr
theorem wp_region_ew2 {id : Nat} {l : List Oper} {a : Act} {W : World} {Q : Exit → Act → World → Prop} (hm : P.follows .mixedOrders = true) (C : World → Prop) (hC : ∀ w w2, C w → Below w.heap.size w w2 → C w2) (h0 : C W) (fs : List Nat) (A B : Nat) (hAB : A ≠ B) (r1 r2 : List (Nat × Bool))
  (c1 : chkE2 l fs B A r1 = true) (c2 : chkE2 l fs A B r2 = true) (hp : (l.zipIdx.all fun (x : Oper × Nat) => x.2 == A || x.2 == B || plainO x.1 || waitsFor (opsS l) x.2 A || waitsFor (opsS l) x.2 B) = true)
  (h1 : EW P l.toArray C (Q .normal) (fun i => fs.contains i) (mkL l r1) a W) (h2 : EW P l.toArray C (Q .normal) (fun i => fs.contains i) (mkL l r2) a W) : (Code.region id l.toArray true).wp P Q a W := by
 refine wp_region_inv hm (fun d a' w' => CLd l d ∧ ((d A = false ∧ d B = false ∧ ∃ val, ST P l C (Q .normal) fs r1 a d val a' w' ∧ ST P l C (Q .normal) fs r2 a d val a' w') ∨ (d A = true ∧ ∃ val, ST P l C (Q .normal) fs r1 a d val a' w') ∨ (d B = true ∧ ∃ val, ST P l C (Q .normal) fs r2 a d val a' w'))) ?lex ?start ?step ?fin
 case lex =>
  rw [List.all_eq_true]
  intro x hx
  unfold chkE2 at c1
  have h2 := List.all_eq_true.1 c1 _ hx
  simp only [Bool.and_eq_true] at h2
  exact h2.1.1.2
 case start => exact ⟨fun i x _ hd => (by cases hd), .inl ⟨rfl, rfl, _, so_start hC h0 h1, so_start hC h0 h2⟩⟩
 case fin =>
  rintro d a' w' ⟨_, ⟨_, _, val, h, _⟩ | ⟨_, val, h⟩ | ⟨_, val, h⟩⟩ hd <;> exact so_done h hd
 case step =>
  rintro i o ho d a' w' ⟨hcl, hdis⟩ hd hpre
  have hup := hcl.up ho hpre
  have onA : d A = true → ((fun j => j == i || d j) A) = true := fun h => by show (A == i || d A) = true; rw [h, Bool.or_true]
  have onB : d B = true → ((fun j => j == i || d j) B) = true := fun h => by show (B == i || d B) = true; rw [h, Bool.or_true]
  rcases hdis with ⟨hA, hB, val, s1, s2⟩ | ⟨hA, val, s1⟩ | ⟨hB, val, s2⟩
  ·by_cases eA : i = A
   ·subst eA
    rcases so_step hC c1 s1 hcl ho hd hpre (fun h => absurd h hAB) (fun _ => hB) with ⟨h3, h4⟩ | ⟨h3, h4⟩
    ·rw [if_neg (by rw [h3]; decide)]
     exact ⟨hup, .inr (.inl ⟨by simp, _, h4⟩)⟩
    ·rw [if_pos h3]
     exact opw_eff h4 fun v w2 h5 => ⟨hup, .inr (.inl ⟨by simp, _, h5⟩)⟩
   ·by_cases eB : i = B
    ·subst eB
     rcases so_step hC c2 s2 hcl ho hd hpre (fun h => absurd h eA) (fun _ => hA) with ⟨h3, h4⟩ | ⟨h3, h4⟩
     ·rw [if_neg (by rw [h3]; decide)]
      exact ⟨hup, .inr (.inr ⟨by simp, _, h4⟩)⟩
     ·rw [if_pos h3]
      exact opw_eff h4 fun v w2 h5 => ⟨hup, .inr (.inr ⟨by simp, _, h5⟩)⟩
    ·have hA' : ((fun j => j == i || d j) A) = false := by
      show (A == i || d A) = false
      rw [hA, Bool.or_false]; simpa using fun h => eA h.symm
     have hB' : ((fun j => j == i || d j) B) = false := by
      show (B == i || d B) = false
      rw [hB, Bool.or_false]; simpa using fun h => eB h.symm
     have hW : ∀ j, waitsFor (opsS l) i j = true → d j = true := fun j hj => reach_pre hcl _ i j _ (opsS_at ho) hpre hj
     have hpl : plainO o = true := by
      have h3 := List.all_eq_true.1 hp (o, i) (by rw [List.mem_zipIdx_iff_getElem?]; exact ho)
      simp only [Bool.or_eq_true] at h3
      rcases h3 with (((h3 | h3) | h3) | h3) | h3
      ·exact absurd (by simpa using h3) eA
      ·exact absurd (by simpa using h3) eB
      ·exact h3
      ·rw [hW A h3] at hA; cases hA
      ·rw [hW B h3] at hB; cases hB
     rcases so_step hC c1 s1 hcl ho hd hpre (fun h => absurd h eB) (fun h => absurd h eA) with ⟨h3, h4⟩ | ⟨h3, h4⟩
     ·rcases so_step hC c2 s2 hcl ho hd hpre (fun h => absurd h eA) (fun h => absurd h eB) with ⟨h5, h6⟩ | ⟨h5, h6⟩
      ·rw [if_neg (by rw [h3]; decide)]
       exact ⟨hup, .inl ⟨hA', hB', _, h4, h6⟩⟩
      ·rw [h3] at h5; cases h5
     ·rcases so_step hC c2 s2 hcl ho hd hpre (fun h => absurd h eA) (fun h => absurd h eB) with ⟨h5, h6⟩ | ⟨h5, h6⟩
      ·rw [h3] at h5; cases h5
      ·rw [if_pos h3]
       exact opw_eff (effUpon_and (plain_noenter hpl _ _) h4 h6) fun v w2 h7 => ⟨hup, .inl ⟨hA', hB', _, h7.1, h7.2⟩⟩
  ·have hne : i ≠ A := fun e => by rw [e, hA] at hd; cases hd
   rcases so_step hC c1 s1 hcl ho hd hpre (fun _ => hA) (fun h => absurd h hne) with ⟨h3, h4⟩ | ⟨h3, h4⟩
   ·rw [if_neg (by rw [h3]; decide)]
    exact ⟨hup, .inr (.inl ⟨onA hA, _, h4⟩)⟩
   ·rw [if_pos h3]
    exact opw_eff h4 fun v w2 h5 => ⟨hup, .inr (.inl ⟨onA hA, _, h5⟩)⟩
  ·have hne : i ≠ B := fun e => by rw [e, hB] at hd; cases hd
   rcases so_step hC c2 s2 hcl ho hd hpre (fun _ => hB) (fun h => absurd h hne) with ⟨h3, h4⟩ | ⟨h3, h4⟩
   ·rw [if_neg (by rw [h3]; decide)]
    exact ⟨hup, .inr (.inr ⟨onB hB, _, h4⟩)⟩
   ·rw [if_pos h3]
    exact opw_eff h4 fun v w2 h5 => ⟨hup, .inr (.inr ⟨onB hB, _, h5⟩)⟩
section
variable {ops : Array Oper} {C : World → Prop} {Q : Act → World → Prop} {fn : Nat → Bool} {i : Nat} {L : DL} {a : Act} {w : World} {o : Oper}
/-- A variable of one cell. -/
theorem ew_newv (hw : Region.wanted o (yielded ops a.tmps) = true) (t : TypeId) (ho : o.op = .alloc t) (v : Value) (hz : ∀ w, (zeroValue t).run P w = .ok v w) (hv : v.cells = #[v])
  (h : ∀ w2, Below w.heap.size w w2 → ∀ g w3, w2.heap.size ≤ g → Row w3 g #[v] t → Below w2.heap.size w2 w3 → (fn i = false → C w3) ∧ EW P ops C Q fn L (a.put o.dst (.pointer (some ⟨g, 0, none⟩))) w3) : EW P ops C Q fn ((i, o, true) :: L) a w := by
 refine ew_hard hw fun w2 hb => ?_
 have hr : (execOp a.eval o).run P w2 = .ok (.value (.pointer (some ⟨w2.heap.size, 0, none⟩))) (w2.alloc (.cells #[v] t)) := by
  unfold execOp
  simp only [ho, Instr.alloc, Sem.run_bind, hz, Result.andThen_ok, newVar, hv, newRow]
  rfl
 rw [hr]
 exact h w2 hb w2.heap.size _ (Nat.le_refl _) (Row.new _ _ _) (below_alloc _)
end
end
section
variable {P : Program} {olds : Olds} {p : Nat → Nat} {W : World} {F : Act → (Nat → Option (TypeId × Array Value)) → Prop} {n : Nat} {l : List Oper} {pl : List Sp} {a : Act} {ct : Nat → Option (TypeId × Array Value)} {o : Oper}
/-- A cell of a row that is only read. -/
theorem mx_loadkR (ty : TypeId) (x : Operand) (ho : o.op = .load ty x) (g i : Nat) (hx : a.eval x = .pointer (some ⟨g, i, none⟩)) {t : TypeId} {cs : Array Value} (hg : RowR W g cs t) (hS : g ∉ olds.map (·.1)) (v : Value) (hc : cs[i]? = some v)
  (ha : ∀ w, (isAgg ty).run P w = .ok false w)
  (h : MX P olds p W F (n + 1) l pl (a.put o.dst v) ct) : MX P olds p W F n (o :: l) ((fun _ => v, [], none, []) :: pl) a ct := by
 refine mx_value v [] (fun w hk _ => ?_) h
 unfold execOp
 simp only [ho, hx, Instr.loadAt, Instr.sureAddr, Sem.run_bind, Sem.run_pure, Result.andThen_ok, run_load_cell w g i ty v ha ((hk.rowR hg hS).cell i |>.trans hc)]
end
end Go.Proofs.Ytchiiphmpkmloaa
