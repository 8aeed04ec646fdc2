/- A region that draws its order, walked in an order of one's own: quiet operations, hard ones whose outcome is told as it comes, and last ones that wait for all quiet ones (stores). -/
import Derived.Test.YtchiiphmpkmloaaDWalk
import Derived.Test.YtchiiphmpkmloaaGWalk
namespace Go.Proofs.Ytchiiphmpkmloaa
open Go.RowKit
section
variable {P : Program}
/-- What is still owed, where some operations are done already. -/
def RE (P : Program) (ops : Array Oper) (C : World → Prop) (Q : Act → World → Prop) (fn : Nat → Bool) (d : Nat → Bool) (val : Nat → Value) : DL → Act → World → Prop
 | [], a, w => ∀ w2, Below w.heap.size w w2 → Q a w2
 | x :: l, a, w =>
  if d x.1 = true then RE P ops C Q fn d val l (a.put x.2.1.dst (val x.1)) w
  else (Region.wanted x.2.1 (yielded ops a.tmps) = false ∧ RE P ops C Q fn d val l (a.put x.2.1.dst undef) w) ∨
   (Region.wanted x.2.1 (yielded ops a.tmps) = true ∧
    if x.2.2 = true then ∀ w2, Below w.heap.size w w2 → effUpon P (fun v w3 => (fn x.1 = false → C w3) ∧ RE P ops C Q fn d val l (a.put x.2.1.dst v) w3) w2 ((execOp a.eval x.2.1).run P w2)
    else ∃ v, (∀ w2, C w2 → effUpon P (fun u w3 => u = v ∧ Below w2.heap.size w2 w3) w2 ((execOp a.eval x.2.1).run P w2)) ∧ RE P ops C Q fn d val l (a.put x.2.1.dst v) w)
theorem RE.later {ops : Array Oper} {C : World → Prop} {Q : Act → World → Prop} {fn : Nat → Bool} {d : Nat → Bool} {val : Nat → Value} : ∀ (l : DL) (a : Act) (w w' : World), RE P ops C Q fn d val l a w → Below w.heap.size w w' → RE P ops C Q fn d val l a w'
 | [], _, _, _, h, hb => fun w2 h2 => h w2 (below_on hb (Nat.le_refl _) h2)
 | x :: l, a, w, w', h, hb => by
  unfold RE at h ⊢
  by_cases e : d x.1 = true
  ·rw [if_pos e] at h ⊢
   exact RE.later l _ w w' h hb
  ·rw [if_neg e] at h ⊢
   refine h.imp (fun ⟨h1, h2⟩ => ⟨h1, RE.later l _ w w' h2 hb⟩) fun ⟨h1, h2⟩ => ⟨h1, ?_⟩
   by_cases f : x.2.2 = true
   ·rw [if_pos f] at h2 ⊢
    exact fun w2 hb2 => h2 w2 (below_on hb (Nat.le_refl _) hb2)
   ·rw [if_neg f] at h2 ⊢
    obtain ⟨v, h3, h4⟩ := h2
    exact ⟨v, h3, RE.later l _ w w' h4 hb⟩
theorem RE.congr {ops : Array Oper} {C : World → Prop} {Q : Act → World → Prop} {fn : Nat → Bool} {d d' : Nat → Bool} {val val' : Nat → Value} : ∀ (l : DL) (a : Act) (w : World), (∀ x ∈ l, d x.1 = d' x.1 ∧ val x.1 = val' x.1) → RE P ops C Q fn d val l a w → RE P ops C Q fn d' val' l a w
 | [], _, _, _, h => h
 | x :: l, a, w, hx, h => by
  have h0 := hx x (List.mem_cons_self ..)
  have hl : ∀ y ∈ l, d y.1 = d' y.1 ∧ val y.1 = val' y.1 := fun y hy => hx y (List.mem_cons_of_mem _ hy)
  unfold RE at h ⊢
  by_cases e : d x.1 = true
  ·rw [if_pos e] at h
   rw [if_pos (h0.1 ▸ e), ← h0.2]
   exact RE.congr l _ w hl h
  ·rw [if_neg e] at h
   rw [if_neg (h0.1 ▸ e)]
   refine h.imp (fun ⟨h1, h2⟩ => ⟨h1, RE.congr l _ w hl h2⟩) fun ⟨h1, h2⟩ => ⟨h1, ?_⟩
   by_cases f : x.2.2 = true
   ·rw [if_pos f] at h2 ⊢
    exact fun w2 hb2 => effUpon_mono (h2 w2 hb2) fun v w3 ⟨h3, h4⟩ => ⟨h3, RE.congr l _ w3 hl h4⟩
   ·rw [if_neg f] at h2 ⊢
    obtain ⟨v, h3, h4⟩ := h2
    exact ⟨v, h3, RE.congr l _ w hl h4⟩
theorem RE.done {ops : Array Oper} {C : World → Prop} {Q : Act → World → Prop} {fn : Nat → Bool} {d : Nat → Bool} {val : Nat → Value} : ∀ (l : DL) (a : Act) (w : World), (∀ x ∈ l, d x.1 = true) → RE P ops C Q fn d val l a w → Q (actV val d l a) w
 | [], _, w, _, h => h w (Below.refl _ _)
 | x :: l, a, w, hx, h => by
  have h0 := hx x (List.mem_cons_self ..)
  unfold RE at h
  unfold actV
  rw [if_pos h0] at h ⊢
  exact RE.done l _ w (fun y hy => hx y (List.mem_cons_of_mem _ hy)) h
theorem re_step {ops : Array Oper} {C : World → Prop} {Q : Act → World → Prop} {fn : Nat → Bool} {d : Nat → Bool} {val : Nat → Value} {i : Nat} {o : Oper} {hard : Bool} (hd : d i = false) (hC : ∀ w w2, C w → Below w.heap.size w w2 → C w2) (hsel : ∀ cs b, o.op ≠ .select cs b) :
  ∀ (l : DL) (a b : Act) (w : World), (hard = false → C w) → RE P ops C Q fn d val l a w → Rdy ops d i o hard l → a.tmps.size = b.tmps.size → (∀ t, t ∈ o.looksAt ops → a.eval (.tmp t) = b.eval (.tmp t)) →
   (Region.wanted o (yielded ops (actV val d l b).tmps) = false ∧ RE P ops C Q fn (fun j => j == i || d j) (updV val i undef) l a w) ∨
   (Region.wanted o (yielded ops (actV val d l b).tmps) = true ∧ effUpon P (fun v w2 => (fn i = false → C w2) ∧ RE P ops C Q fn (fun j => j == i || d j) (updV val i v) l a w2) w ((execOp (actV val d l b).eval o).run P w))
 | [], _, _, _, _, _, h, _, _ => h.elim
 | y :: l, a, b, w, hw, h, hr, hz, he => by
  rcases hr with ⟨hne, _, hlk, hhd, hr⟩ | ⟨rfl, hlater⟩
  ·have hdi : ((y.1 == i) || d y.1) = d y.1 := by rw [show (y.1 == i) = false by simpa using hne, Bool.false_or]
   unfold RE at h
   unfold actV
   by_cases e : d y.1 = true
   ·rw [if_pos e] at h
    rw [if_pos e]
    have := re_step hd hC hsel l (a.put y.2.1.dst (val y.1)) (b.put y.2.1.dst (val y.1)) w hw h hr (by rw [put_size, put_size, hz]) (fun t ht => by
     cases hx : y.2.1.dst with
     | none => exact he t ht
     | some s => rw [put_eval, put_eval, hz, he t ht])
    have lift : ∀ v w2, RE P ops C Q fn (fun j => j == i || d j) (updV val i v) l (a.put y.2.1.dst (val y.1)) w2 → RE P ops C Q fn (fun j => j == i || d j) (updV val i v) (y :: l) a w2 := fun v w2 h2 => by
     unfold RE
     rw [if_pos (by rw [hdi]; exact e), updV_other val v hne]
     exact h2
    exact this.imp (fun ⟨h1, h2⟩ => ⟨h1, lift _ _ h2⟩) fun ⟨h1, h2⟩ => ⟨h1, effUpon_mono h2 fun v w2 ⟨h3, h4⟩ => ⟨h3, lift v w2 h4⟩⟩
   ·rw [if_neg e] at h
    rw [if_neg e]
    have hev : ∀ x, ∀ t, t ∈ o.looksAt ops → (a.put y.2.1.dst x).eval (.tmp t) = b.eval (.tmp t) := fun x t ht => by
     cases hx : y.2.1.dst with
     | none => exact he t ht
     | some s =>
      rw [put_eval, if_neg (fun k => e (hlk s hx (by rw [k.1]; exact ht)))]
      exact he t ht
    rcases h with ⟨h1, h2⟩ | ⟨h1, h2⟩
    ·have := re_step hd hC hsel l (a.put y.2.1.dst undef) b w hw h2 hr (by rw [put_size, hz]) (hev undef)
     have lift : ∀ v w2, RE P ops C Q fn (fun j => j == i || d j) (updV val i v) l (a.put y.2.1.dst undef) w2 → RE P ops C Q fn (fun j => j == i || d j) (updV val i v) (y :: l) a w2 := fun v w2 h2 => by
      unfold RE
      rw [if_neg (by rw [hdi]; exact e)]
      exact .inl ⟨h1, h2⟩
     exact this.imp (fun ⟨h1, h2⟩ => ⟨h1, lift _ _ h2⟩) fun ⟨h1, h2⟩ => ⟨h1, effUpon_mono h2 fun v w2 ⟨h3, h4⟩ => ⟨h3, lift v w2 h4⟩⟩
    ·by_cases f : y.2.2 = true
     ·exact absurd (hhd f) e
     ·rw [if_neg f] at h2
      obtain ⟨x, h3, h4⟩ := h2
      have := re_step hd hC hsel l (a.put y.2.1.dst x) b w hw h4 hr (by rw [put_size, hz]) (hev x)
      have lift : ∀ v w2, RE P ops C Q fn (fun j => j == i || d j) (updV val i v) l (a.put y.2.1.dst x) w2 → RE P ops C Q fn (fun j => j == i || d j) (updV val i v) (y :: l) a w2 := fun v w2 h2 => by
       unfold RE
       rw [if_neg (by rw [hdi]; exact e)]
       refine .inr ⟨h1, ?_⟩
       rw [if_neg f]
       exact ⟨x, h3, h2⟩
      exact this.imp (fun ⟨h1, h2⟩ => ⟨h1, lift _ _ h2⟩) fun ⟨h1, h2⟩ => ⟨h1, effUpon_mono h2 fun v w2 ⟨h3, h4⟩ => ⟨h3, lift v w2 h4⟩⟩
  ·have EV : ∀ t, t ∈ o.looksAt ops → (actV val d ((i, o, hard) :: l) b).eval (.tmp t) = a.eval (.tmp t) := fun t ht => by
    unfold actV
    rw [if_neg (by rw [hd]; decide), actV_keep l b (fun z hz' hdst => (hlater z hz').2.2 t hdst ht)]
    exact (he t ht).symm
   have E : execOp (actV val d ((i, o, hard) :: l) b).eval o = execOp a.eval o := by
    refine execOp_congr o hsel fun y hy => ?_
    cases y with
    | tmp t => exact EV t (List.mem_append_left _ (List.mem_filterMap.2 ⟨.tmp t, by simpa using hy, rfl⟩))
    | _ => rfl
   have WW : Region.wanted o (yielded ops (actV val d ((i, o, hard) :: l) b).tmps) = Region.wanted o (yielded ops a.tmps) := by
    refine wanted_same o (by rw [actV_size, hz]) fun g want hg t ht => EV t ?_
    unfold Oper.looksAt
    rw [hg]
    refine List.mem_append_right _ ?_
    show t ∈ ((ops[g]?).bind (·.dst)).toList
    rw [ht]
    exact List.mem_singleton.2 rfl
   rw [E, WW]
   have lift : ∀ v w2, RE P ops C Q fn d val l (a.put o.dst v) w2 → RE P ops C Q fn (fun j => j == i || d j) (updV val i v) ((i, o, hard) :: l) a w2 := fun v w2 h2 => by
    unfold RE
    rw [if_pos (by simp), updV_same]
    exact RE.congr l _ w2 (fun z hz' => ⟨by rw [show (z.1 == i) = false by simpa using (hlater z hz').1, Bool.false_or], (updV_other val v (hlater z hz').1).symm⟩) h2
   unfold RE at h
   rw [if_neg (by rw [hd]; decide)] at h
   rcases h with ⟨h1, h2⟩ | ⟨h1, h2⟩
   ·exact .inl ⟨h1, lift _ _ h2⟩
   ·refine .inr ⟨h1, ?_⟩
    by_cases f : hard = true
    ·rw [if_pos f] at h2
     exact effUpon_mono (h2 w (Below.refl _ _)) fun v w2 ⟨h3, h4⟩ => ⟨h3, lift v w2 h4⟩
    ·rw [if_neg f] at h2
     obtain ⟨v, h3, h4⟩ := h2
     exact effUpon_mono (h3 w (hw (Bool.eq_false_iff.2 f))) fun u w2 ⟨h5, h6⟩ => by
      subst h5
      exact ⟨fun _ => hC _ _ (hw (Bool.eq_false_iff.2 f)) h6, lift u w2 (RE.later l _ w w2 h4 h6)⟩
/-- The operations in the order that they are walked in, by their places. -/
def mkL (l : List Oper) : List (Nat × Bool) → DL
 | [] => []
 | (i, f) :: r => match l[i]? with
  | some o => (i, o, f) :: mkL l r
  | none => mkL l r
theorem mkL_mem {l : List Oper} : ∀ (r : List (Nat × Bool)) (x : Nat × Oper × Bool), x ∈ mkL l r → l[x.1]? = some x.2.1 ∧ (x.1, x.2.2) ∈ r
 | [], x, h => by simp [mkL] at h
 | (i, f) :: r, x, h => by
  unfold mkL at h
  split at h
  ·next o ho =>
   rcases List.mem_cons.1 h with rfl | h
   ·exact ⟨ho, List.mem_cons_self ..⟩
   ·exact ⟨(mkL_mem r x h).1, List.mem_cons_of_mem _ (mkL_mem r x h).2⟩
  ·exact ⟨(mkL_mem r x h).1, List.mem_cons_of_mem _ (mkL_mem r x h).2⟩
def waitsFor (z : List (Oper × Sp)) (i j : Nat) : Bool := reach z z.length i j
def chkR (ops : Array Oper) (z : List (Oper × Sp)) (i : Nat) (o : Oper) : DL → Bool
 | [] => false
 | y :: l =>
  if y.1 == i then l.all fun u => u.1 != i && (match u.2.1.dst with | none => true | some s => o.dst != some s && (!(o.looksAt ops).contains s || waitsFor z u.1 i))
  else (match y.2.1.dst with | none => true | some s => o.dst != some s && (!(o.looksAt ops).contains s || waitsFor z i y.1)) && (!y.2.2 || waitsFor z i y.1) && chkR ops z i o l
def chkE (l : List Oper) (fs : List Nat) (r : List (Nat × Bool)) : Bool :=
 l.zipIdx.all fun (x : Oper × Nat) => (match x.1.op with | .select _ _ => false | _ => true) && (x.1.after.all fun e => !Region.binds .any e || decide (e.on < x.2)) && chkR l.toArray (opsS l) x.2 x.1 (mkL l r) &&
  (!fs.contains x.2 || r.all fun u => u.2 || waitsFor (opsS l) x.2 u.1)
theorem rdy_chkR {l : List Oper} {d : Nat → Bool} {i : Nat} {o : Oper} {z : List (Oper × Sp)} (ho : l[i]? = some o) (hwait : ∀ j, waitsFor z i j = true → d j = true) (hlater : ∀ j y, l[j]? = some y → waitsFor z j i = true → d j = false) :
  ∀ L : DL, (∀ x ∈ L, l[x.1]? = some x.2.1) → chkR l.toArray z i o L = true → ∃ hard, Rdy l.toArray d i o hard L ∧ (i, o, hard) ∈ L
 | [], _, h => by simp [chkR] at h
 | y :: L, hL, h => by
  unfold chkR at h
  by_cases e : y.1 = i
  ·rw [if_pos (by simpa using e)] at h
   have hy := hL y (List.mem_cons_self ..)
   rw [e, ho] at hy
   obtain ⟨j, p, f⟩ := y
   obtain rfl : j = i := e
   obtain rfl : o = p := by simpa using hy
   refine ⟨f, .inr ⟨rfl, fun u hu => ?_⟩, List.mem_cons_self ..⟩
   have h1 := List.all_eq_true.1 h u hu
   rw [Bool.and_eq_true] at h1
   refine ⟨by simpa using h1.1, fun s hs e => ?_, fun s hs hl => ?_⟩
   ·have h2 := h1.2
    rw [e] at h2
    simp only [Bool.and_eq_true, bne_iff_ne, ne_eq] at h2
    exact h2.1 hs
   ·have h2 := h1.2
    rw [hs] at h2
    simp only [Bool.and_eq_true, Bool.or_eq_true, Bool.not_eq_true'] at h2
    rcases h2.2 with h3 | h3
    ·rw [List.contains_iff_mem.2 hl] at h3; cases h3
    ·exact hlater u.1 u.2.1 (hL u (List.mem_cons_of_mem _ hu)) h3
  ·rw [if_neg (by simpa using e)] at h
   simp only [Bool.and_eq_true] at h
   obtain ⟨⟨h1, h2⟩, h3⟩ := h
   obtain ⟨hard, hr, hm⟩ := rdy_chkR ho hwait hlater L (fun x hx => hL x (List.mem_cons_of_mem _ hx)) h3
   refine ⟨hard, .inl ⟨e, fun s hs e' => ?_, fun s hs hl => ?_, fun hh => ?_, hr⟩, List.mem_cons_of_mem _ hm⟩
   ·rw [e'] at h1
    simp only [Bool.and_eq_true, bne_iff_ne, ne_eq] at h1
    exact h1.1 hs
   ·rw [hs] at h1
    simp only [Bool.and_eq_true, Bool.or_eq_true, Bool.not_eq_true'] at h1
    rcases h1.2 with h4 | h4
    ·rw [List.contains_iff_mem.2 hl] at h4; cases h4
    ·exact hwait y.1 h4
   ·rw [hh] at h2
    exact hwait y.1 (by simpa using h2)
structure EW (P : Program) (ops : Array Oper) (C : World → Prop) (Q : Act → World → Prop) (fn : Nat → Bool) (L : DL) (a : Act) (w : World) : Prop where
 out : RE P ops C Q fn (fun _ => false) (fun _ => undef) L a w
theorem wp_region_ew {id : Nat} {l : List Oper} {a : Act} {W : World} {Q : Exit → Act → World → Prop} (hm : P.follows .mixedOrders = true) (C : World → Prop) (hC : ∀ w w2, C w → Below w.heap.size w w2 → C w2) (h0 : C W) (fs : List Nat) (r : List (Nat × Bool))
  (h : EW P l.toArray C (Q .normal) (fun i => fs.contains i) (mkL l r) a W) (hchk : chkE l fs r = true) : (Code.region id l.toArray true).wp P Q a W := by
 unfold chkE at hchk
 have hA : ∀ i o, l[i]? = some o → (∀ cs b, o.op ≠ .select cs b) ∧ (∀ e ∈ o.after, Region.binds .any e = true → e.on < i) ∧ chkR l.toArray (opsS l) i o (mkL l r) = true ∧ (fs.contains i = true → ∀ u ∈ r, u.2 = true ∨ waitsFor (opsS l) i u.1 = true) := by
  intro i o ho
  have h1 : (o, i) ∈ l.zipIdx := by rw [List.mem_zipIdx_iff_getElem?]; exact ho
  have h2 := List.all_eq_true.1 hchk _ h1
  simp only [Bool.and_eq_true] at h2
  obtain ⟨⟨⟨a1, a2⟩, a3⟩, a4⟩ := h2
  refine ⟨fun cs b e => (by rw [e] at a1; cases a1), fun e he hb => ?_, a3, fun hf u hu => ?_⟩
  ·have := Array.all_eq_true_iff_forall_mem.1 a2 e he
   rw [hb] at this
   simpa using this
  ·rw [hf] at a4
   simp only [Bool.not_true, Bool.false_or] at a4
   have := List.all_eq_true.1 a4 u hu
   simpa using this
 have hS : ∀ i o, l[i]? = some o → (opsS l)[i]? = some (o, skipS) := fun i o ho => by
  unfold opsS
  rw [List.getElem?_map, ho]; rfl
 refine wp_region_inv hm (fun d a' w' => (∀ x ∈ mkL l r, x.2.2 = false → d x.1 = false → C w') ∧ ∃ val, a' = actV val d (mkL l r) a ∧ RE P l.toArray C (Q .normal) (fun i => fs.contains i) d val (mkL l r) a w' ∧
  (∀ i (x : Oper × Sp), (opsS l)[i]? = some x → d i = true → ∀ e ∈ x.1.after, Region.binds .any e = true → d e.on = true)) ?lex ?start ?step ?fin
 case lex =>
  rw [List.all_eq_true]
  intro x hx
  obtain ⟨_, h3, _⟩ := hA x.2 x.1 (List.mem_zipIdx_iff_getElem?.1 hx)
  rw [Array.all_eq_true_iff_forall_mem]
  intro e he
  cases hb : Region.binds .any e
  ·rfl
  ·simpa using h3 e he hb
 case start =>
  have hb : Below W.heap.size W W.drew := (Below.refl _ _).drew
  refine ⟨fun _ _ _ _ => hC _ _ h0 hb, fun _ => undef, ?_, RE.later _ _ _ _ h.out hb, fun i x _ hd => by cases hd⟩
  have : ∀ (L : DL) (b : Act), actV (fun _ => undef) (fun _ => false) L b = b := fun L => by
   induction L with
   | nil => intro b; rfl
   | cons x L ih =>
    intro b
    unfold actV
    rw [if_neg (by decide)]
    exact ih b
  exact (this _ _).symm
 case fin =>
  rintro d a' w' ⟨_, val, rfl, hr, _⟩ hd
  refine RE.done _ _ _ (fun x hx => ?_) hr
  exact hd x.1 (List.getElem?_eq_some_iff.1 (mkL_mem r x hx).1).1
 case step =>
  rintro i o ho d a' w' ⟨hw, val, rfl, hr, hcl⟩ hd hpre
  obtain ⟨hsel, _, hchk, hfin⟩ := hA i o ho
  have hwait : ∀ j, waitsFor (opsS l) i j = true → d j = true := fun j hj => reach_pre hcl _ i j _ (hS i o ho) hpre hj
  have hlater : ∀ j y, l[j]? = some y → waitsFor (opsS l) j i = true → d j = false := fun j y hy hj => by
   cases hdj : d j
   ·rfl
   ·rw [reach_pre hcl _ j i _ (hS j y hy) (hcl j _ (hS j y hy) hdj) hj] at hd; cases hd
  obtain ⟨hard, hrdy, hmem⟩ := rdy_chkR ho hwait hlater (mkL l r) (fun x hx => (mkL_mem r x hx).1) hchk
  have hcl' : ∀ i' (x' : Oper × Sp), (opsS l)[i']? = some x' → (i' == i || d i') = true → ∀ e ∈ x'.1.after, Region.binds .any e = true → (e.on == i || d e.on) = true := fun i' x' hx' hd' e he hb => by
   by_cases hii : i' = i
   ·subst hii
    rw [hS _ _ ho] at hx'
    obtain rfl : (o, skipS) = x' := by simpa using hx'
    rw [hpre e he hb, Bool.or_true]
   ·rw [show (i' == i) = false by simpa using hii, Bool.false_or] at hd'
    rw [hcl i' x' hx' hd' e he hb, Bool.or_true]
  have hof : ∀ j, (j == i || d j) = false → d j = false := fun j hj => by
   rw [Bool.or_eq_false_iff] at hj
   exact hj.2
  rcases re_step hd hC hsel (mkL l r) a a w' (fun hh => hw _ hmem hh hd) hr hrdy rfl (fun _ _ => rfl) with ⟨h1, h2⟩ | ⟨h1, h2⟩
  ·rw [if_neg (by rw [h1]; decide)]
   exact ⟨fun x hx hq hdx => hw x hx hq (hof _ hdx), updV val i undef, (actV_add hd undef _ _ hrdy).symm, h2, hcl'⟩
  ·rw [if_pos h1]
   refine opw_eff h2 fun v w2 ⟨h3, h4⟩ => ⟨fun x hx hq hdx => ?_, updV val i v, (actV_add hd v _ _ hrdy).symm, h4, hcl'⟩
   cases hf : fs.contains i with
   | false => exact h3 hf
   | true =>
    rcases hfin hf (x.1, x.2.2) (mkL_mem r x hx).2 with h5 | h5
    ·rw [hq] at h5; cases h5
    ·have h6 := hof _ hdx
     rw [hwait x.1 h5] at h6
     cases h6
section
variable {ops : Array Oper} {C : World → Prop} {Q : Act → World → Prop} {fn : Nat → Bool} {i : Nat} {L : DL} {a : Act} {w : World} {o : Oper}
theorem ew_nil (h : ∀ w2, Below w.heap.size w w2 → Q a w2) : EW P ops C Q fn [] a w := ⟨h⟩
theorem ew_skip {f : Bool} (hw : Region.wanted o (yielded ops a.tmps) = false) (h : EW P ops C Q fn L (a.put o.dst undef) w) : EW P ops C Q fn ((i, o, f) :: L) a w :=
 ⟨.inl ⟨hw, h.out⟩⟩
theorem ew_quiet (hw : Region.wanted o (yielded ops a.tmps) = true) (v : Value) (hr : ∀ w2, C w2 → effUpon P (fun u w3 => u = v ∧ Below w2.heap.size w2 w3) w2 ((execOp a.eval o).run P w2)) (h : EW P ops C Q fn L (a.put o.dst v) w) : EW P ops C Q fn ((i, o, false) :: L) a w :=
 ⟨.inr ⟨hw, v, hr, h.out⟩⟩
theorem ew_hard (hw : Region.wanted o (yielded ops a.tmps) = true) (h : ∀ w2, Below w.heap.size w w2 → effUpon P (fun v w3 => (fn i = false → C w3) ∧ EW P ops C Q fn L (a.put o.dst v) w3) w2 ((execOp a.eval o).run P w2)) : EW P ops C Q fn ((i, o, true) :: L) a w :=
 ⟨.inr ⟨hw, fun w2 hb => effUpon_mono (h w2 hb) fun _ _ ⟨h1, h2⟩ => ⟨h1, h2.out⟩⟩⟩
theorem ew_value (hw : Region.wanted o (yielded ops a.tmps) = true) (v : Value) (hr : ∀ w, (execOp a.eval o).run P w = .ok (.value v) w) (h : EW P ops C Q fn L (a.put o.dst v) w) : EW P ops C Q fn ((i, o, false) :: L) a w :=
 ew_quiet hw v (fun w2 _ => by rw [hr]; exact ⟨rfl, Below.refl _ _⟩) h
theorem ew_valK (hw : Region.wanted o (yielded ops a.tmps) = true) (v : Value) (hr : ∀ w, C w → (execOp a.eval o).run P w = .ok (.value v) w) (h : EW P ops C Q fn L (a.put o.dst v) w) : EW P ops C Q fn ((i, o, false) :: L) a w :=
 ew_quiet hw v (fun w2 hc => by rw [hr w2 hc]; exact ⟨rfl, Below.refl _ _⟩) h
theorem ew_mv {t : Tmp} {v : Value} (hw : Region.wanted o (yielded ops a.tmps) = true) (ho : o.op = .move (.tmp t)) (hx : a.tmps.toList[t]? = some v) (h : EW P ops C Q fn L (a.put o.dst v) w) : EW P ops C Q fn ((i, o, false) :: L) a w :=
 ew_value hw v (fun w => by unfold execOp; rw [ho]; simp only [eval_at hx]; rfl) h
theorem ew_as {t : Tmp} {v : Value} (hw : Region.wanted o (yielded ops a.tmps) = true) (ho : o.op = .assign (.tmp t)) (hx : a.tmps.toList[t]? = some v) (h : EW P ops C Q fn L (a.put o.dst v) w) : EW P ops C Q fn ((i, o, false) :: L) a w :=
 ew_value hw v (fun w => by unfold execOp; rw [ho]; simp only [eval_at hx]; rfl) h
theorem ew_ext {x : Operand} {k : Nat} {vs : Array Value} {v : Value} (hw : Region.wanted o (yielded ops a.tmps) = true) (ho : o.op = .extract x k) (hx : a.eval x = .tuple vs) (hv : vs.toList[k]? = some v) (h : EW P ops C Q fn L (a.put o.dst v) w) : EW P ops C Q fn ((i, o, false) :: L) a w := by
 have hv' : vs[k]? = some v := by rw [← Array.getElem?_toList]; exact hv
 refine ew_value hw v (fun w => ?_) h
 unfold execOp
 rw [ho]
 simp only [hx, Instr.extract]
 simp [hv']
theorem ew_pick (hw : Region.wanted o (yielded ops a.tmps) = true) {c x y : Operand} (b : Bool) {v : Value} (ho : o.op = .pick c x y) (hc : a.eval c = .bool b) (hv : a.eval (if b then x else y) = v) (h : EW P ops C Q fn L (a.put o.dst v) w) : EW P ops C Q fn ((i, o, false) :: L) a w := by
 refine ew_value hw v (fun w => ?_) h
 subst hv
 unfold execOp
 rw [ho]
 simp only [hc]
 cases b <;> rfl
/-- A quiet call: one value in every world of the class. -/
theorem ew_call {fnc : Func} (hw : Region.wanted o (yielded ops a.tmps) = true) (f : FuncId) (args : Array Operand) (ts : Array TypeId)
  (ho : o.op = .call { callee := .value (.func f), args := args, argTypes := ts }) (hf : P.funcs[f]? = some fnc) (hb : (fnc.name == "runtime.NumGoroutine" || fnc.body.isNone) = false)
  (vs : Array Value) (hv' : args.toList.map a.eval = vs.toList) (v : Value) (hc : ∀ w, C w → Calls P f vs w fun e w' => e = .returned v ∧ Below w.heap.size w w')
  (h : EW P ops C Q fn L (a.put o.dst v) w) : EW P ops C Q fn ((i, o, false) :: L) a w :=
 ew_quiet hw v (fun w2 hcw => by
  rw [run_enter f args ts ho hf hb vs hv' w2]
  exact ⟨rfl, (hc w2 hcw).mono fun e w' ⟨h1, h2⟩ => ⟨v, h1, rfl, h2⟩⟩) h
/-- A call whose outcome is told as it comes. -/
theorem ew_callE {fnc : Func} (hw : Region.wanted o (yielded ops a.tmps) = true) (f : FuncId) (args : Array Operand) (ts : Array TypeId)
  (ho : o.op = .call { callee := .value (.func f), args := args, argTypes := ts }) (hf : P.funcs[f]? = some fnc) (hb : (fnc.name == "runtime.NumGoroutine" || fnc.body.isNone) = false)
  (vs : Array Value) (hv' : args.toList.map a.eval = vs.toList)
  (h : ∀ w2, Below w.heap.size w w2 → Calls P f vs w2 fun e w' => ∃ v, e = .returned v ∧ (fn i = false → C w') ∧ EW P ops C Q fn L (a.put o.dst v) w') : EW P ops C Q fn ((i, o, true) :: L) a w :=
 ew_hard hw fun w2 hb2 => by
  rw [run_enter f args ts ho hf hb vs hv' w2]
  exact ⟨rfl, (h w2 hb2).mono fun e w' ⟨v, h1, h2, h3⟩ => ⟨v, h1, h2, h3⟩⟩
/-- A load out of a row that every world of the class holds. -/
theorem ew_loadm (hw : Region.wanted o (yielded ops a.tmps) = true) (ty : TypeId) (x : Operand) (ho : o.op = .load ty x) (g off : Nat) (hx : a.eval x = .pointer (some ⟨g, off, none⟩)) {t : TypeId} {cs : Array Value} (hg : ∀ w, C w → RowR w g cs t)
  (sub : Array Value) (hs : ∀ j v, sub.toList[j]? = some v → cs[off + j]? = some v) (d : TypeDesc) (hu : P.underlying ty = some d) (hd : d.isRow = true) (hi : (P.info? ty).map (·.size) = some sub.size)
  (h : EW P ops C Q fn L (a.put o.dst (.agg sub)) w) : EW P ops C Q fn ((i, o, false) :: L) a w :=
 ew_valK hw _ (fun w2 hc => run_load_mid ty x ho g off hx (hg w2 hc) sub hs d hu hd hi) h
theorem ew_loadk (hw : Region.wanted o (yielded ops a.tmps) = true) (ty : TypeId) (x : Operand) (ho : o.op = .load ty x) (g k : Nat) (hx : a.eval x = .pointer (some ⟨g, k, none⟩)) {t : TypeId} {cs : Array Value} (hg : ∀ w, C w → RowR w g cs t) (v : Value) (hc : cs[k]? = some v)
  (ha : ∀ w, (isAgg ty).run P w = .ok false w) (h : EW P ops C Q fn L (a.put o.dst v) w) : EW P ops C Q fn ((i, o, false) :: L) a w := by
 refine ew_valK hw v (fun w2 hc2 => ?_) h
 unfold execOp
 simp only [ho, hx, Instr.loadAt, Instr.sureAddr, Sem.run_bind, Sem.run_pure, Result.andThen_ok, run_load_cell w2 g k ty v ha (((hg w2 hc2).cell k).trans hc)]
/-- A slice made of a literal. -/
theorem ew_litr (hw : Region.wanted o (yielded ops a.tmps) = true) (t e : TypeId) (len : Nat) (parts : Array (Nat × Operand)) (ho : o.op = .buildSlice t len parts) (cells : Array Value) (ie : TypeInfo) (z : Value)
  (hu : P.underlying t = some (.slice e)) (hie : P.info? e = some ie) (hz : ie.zero = some z) (hsmall : ¬ len * ie.size > 2 ^ 24) (hpos : ¬ len * ie.size = 0)
  (vals : List (Nat × Value)) (hv : parts.toList.map (fun x => (x.1, a.eval x.2)) = vals)
  (hf : Instr.fill (fun i => some (i * ie.size, ie.size)) ((Array.range (len * ie.size)).map (z.cells[· % z.cells.size]!)) vals = some cells)
  (h : ∀ w2, Below w.heap.size w w2 → ∀ g w3, w2.heap.size ≤ g → Row w3 g cells e → Below w2.heap.size w2 w3 → (fn i = false → C w3) ∧ EW P ops C Q fn L (a.put o.dst (.slice (some ⟨g, 0, none⟩) len len)) w3) : EW P ops C Q fn ((i, o, true) :: L) a w := by
 have hf' : Instr.fill (fun i => some (i * ie.size, ie.size)) ((Array.range (len * ie.size)).map (z.cells[· % z.cells.size]!)) (parts.map fun (i, x) => (i, a.eval x)).toList = some cells := by
  rw [Array.toList_map]; rw [← hv] at hf; exact hf
 refine ew_hard hw fun w2 hb => ?_
 have hr : (execOp a.eval o).run P w2 = .ok (.value (.slice (some ⟨w2.heap.size, 0, none⟩) len len)) (w2.alloc (.cells cells e)) := by
  unfold execOp
  simp only [ho, Sem.run_bind, run_buildSlice w2 t e len _ cells ie z hu hie hz hsmall hpos hf', Result.andThen_ok]
  rfl
 rw [hr]
 exact h w2 hb w2.heap.size _ (Nat.le_refl _) (Row.new _ _ _) (below_alloc _)
/-- A store of a value of one cell: a last one. -/
theorem ew_putv (hw : Region.wanted o (yielded ops a.tmps) = true) (ty : TypeId) (x y : Operand) (ho : o.op = .store ty x y) (g k : Nat) (hx : a.eval x = .pointer (some ⟨g, k, none⟩)) {t : TypeId} {old : Array Value} (hg : Row w g old t) (v : Value) (hy : a.eval y = v)
  (hv : v.cells = #[v]) (h1 : v.oneCell' = true) (hz : (P.info? ty).map (·.size) = some 1) (hi : k < old.size) (c : Array Value) (hc : old.setIfInBounds k v = c)
  (h : ∀ w2, Below w.heap.size w w2 → ∀ w3, Row w3 g c t → Kept [g] w2 w3 → (fn i = false → C w3) ∧ EW P ops C Q fn L (a.put o.dst undef) w3) : EW P ops C Q fn ((i, o, true) :: L) a w := by
 subst hc
 refine ew_hard hw fun w2 hb => ?_
 have hg2 := hg.belowAll hb
 have hcell : w2.cell? ⟨g, k, none⟩ = some old[k] := (hg2.cell k).trans (by simp [hi])
 have hr : (execOp a.eval o).run P w2 = .ok .skip (w2.setCell ⟨g, k, none⟩ v) := by
  unfold execOp
  simp only [ho, hx, hy, Instr.storeAt, Instr.sureAddr, Sem.run_bind, Sem.run_pure, Result.andThen_ok, run_store_val w2 _ k ty v _ hv h1 hz hcell (hg2.frozen k)]
 rw [hr]
 exact h w2 hb _ (hg2.setCell _ _) (kept_only (only_setCell _ _ _ _))
end
end
section
variable {P : Program} {ops : Array Oper} {Q : Exit → Act → World → Prop} {rest : List Oper} {o : Oper} {a : Act} {w : World}
theorem pw_box1 (hw : Region.wanted o (yielded ops a.tmps) = true) (t : TypeId) (x : Operand) (ho : o.op = .box t x) (v : Value) (hx : a.eval x = v) (hv : v.cells = #[v])
  (h : ∀ g w', w.heap.size ≤ g → Row w' g #[v] t → Kept [] w w' → PW P ops Q rest (a.put o.dst (.pointer (some ⟨g, 0, none⟩))) w') : PW P ops Q (o :: rest) a w :=
 pw_made hw (fun g => .pointer (some ⟨g, 0, none⟩)) t #[v] (by unfold execOp; simp only [ho, hx, Instr.box, Sem.run_bind, newVar, newRow, hv]; rfl) h
/-- A call of a closure that only makes memory. -/
theorem pw_callC {fn : Func} (hw : Region.wanted o (yielded ops a.tmps) = true) (f : FuncId) (t : Tmp) (args : Array Operand) (ts : Array TypeId)
  (ho : o.op = .call { callee := .value (.tmp t), args := args, argTypes := ts }) (caps : Array Value) (hcl : a.eval (.tmp t) = .func (.func f) #[] caps) (hf : P.funcs[f]? = some fn) (hb : (fn.name == "runtime.NumGoroutine" || fn.body.isNone) = false)
  (vs : Array Value) (hv' : args.toList.map a.eval = vs.toList) (v : Value) (hc : Calls P f (vs ++ caps) w fun e w' => e = .returned v ∧ Below w.heap.size w w')
  (h : ∀ w', Kept [] w w' → PW P ops Q rest (a.put o.dst v) w') : PW P ops Q (o :: rest) a w := by
 refine ⟨?_⟩
 unfold wpList
 rw [if_pos hw]
 left
 have hv : args.map a.eval = vs := by apply Array.toList_inj.1; rw [Array.toList_map]; exact hv'
 have hr := run_callFunc_body (P := P) hf hb (vs ++ caps) w
 have hd : (execOp a.eval o).run P w = .ok (.enter f (vs ++ caps)) w := by
  unfold execOp
  simp only [ho, resolve, hv, hcl]
  simp [Deferred.ofValue, invoke, hr]
 unfold Oper.wp
 rw [hd, Oper.upon_enter]
 exact hc.mono fun e w' ⟨he, hb'⟩ => by
  subst he
  exact (h w' (Kept.ofBelow hb')).out
end
section
variable {P : Program} {ops : Array Oper} {C : World → Prop} {Q : Act → World → Prop} {fn : Nat → Bool} {i : Nat} {L : DL} {a : Act} {w : World} {o : Oper}
theorem e_m {t : Tmp} {v : Value} (h : EW P ops C Q fn L (a.put o.dst v) w) (hw : Region.wanted o (yielded ops a.tmps) = true := by rfl) (ho : o.op = .move (.tmp t) := by exact rfl) (hx : a.tmps.toList[t]? = some v := by exact rfl) : EW P ops C Q fn ((i, o, false) :: L) a w := ew_mv hw ho hx h
theorem e_v (v : Value) (hr : ∀ w, (execOp a.eval o).run P w = .ok (.value v) w) (h : EW P ops C Q fn L (a.put o.dst v) w) (hw : Region.wanted o (yielded ops a.tmps) = true := by rfl) : EW P ops C Q fn ((i, o, false) :: L) a w := ew_value hw v hr h
end
end Go.Proofs.Ytchiiphmpkmloaa
