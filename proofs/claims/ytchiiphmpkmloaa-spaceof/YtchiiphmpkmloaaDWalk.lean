/- A region that draws its order, walked in the text's order: quiet operations, whose value is the same in every world of a class, and hard ones, whose outcome is told as it comes; guards let. -/
import Derived.Test.YtchiiphmpkmloaaMixG
namespace Go.Proofs.Ytchiiphmpkmloaa
open Go.RowKit
section
variable {P : Program}
abbrev DL := List (Nat × Oper × Bool)
/-- The slots behind those operations that are done. -/
def actV (val : Nat → Value) (d : Nat → Bool) : DL → Act → Act
 | [], a => a
 | x :: l, a => actV val d l (if d x.1 = true then a.put x.2.1.dst (val x.1) else a)
def updV (val : Nat → Value) (n : Nat) (v : Value) : Nat → Value := fun j => if j = n then v else val j
theorem updV_same (val : Nat → Value) (n : Nat) (v : Value) : updV val n v n = v := if_pos rfl
theorem updV_other (val : Nat → Value) {n j : Nat} (v : Value) (h : j ≠ n) : updV val n v j = val j := if_neg h
theorem effUpon_mono {E E' : Value → World → Prop} {w : World} {r : Result Next} (h : effUpon P E w r) (hE : ∀ v w2, E v w2 → E' v w2) : effUpon P E' w r := by
 cases r with
 | ok n w' =>
  cases n <;> simp only [effUpon] at h ⊢
  case value u => exact hE _ _ h
  case skip => exact hE _ _ h
  case enter f args => exact ⟨h.1, h.2.mono fun e w'' ⟨v, he, hv⟩ => ⟨v, he, hE _ _ hv⟩⟩
 | halt x w' => simp only [effUpon] at h
/-- What is still owed, where some operations are done already. -/
def RT (P : Program) (ops : Array Oper) (C : World → Prop) (Q : Act → World → Prop) (d : Nat → Bool) (val : Nat → Value) : DL → Act → World → Prop
 | [], a, w => ∀ w2, Below w.heap.size w w2 → Q a w2
 | x :: l, a, w =>
  if d x.1 = true then RT P ops C Q d val l (a.put x.2.1.dst (val x.1)) w
  else (Region.wanted x.2.1 (yielded ops a.tmps) = false ∧ RT P ops C Q d val l (a.put x.2.1.dst undef) w) ∨
   (Region.wanted x.2.1 (yielded ops a.tmps) = true ∧
    if x.2.2 = true then ∀ w2, Below w.heap.size w w2 → effUpon P (fun v w3 => C w3 ∧ RT P ops C Q d val l (a.put x.2.1.dst v) w3) w2 ((execOp a.eval x.2.1).run P w2)
    else ∃ v, (∀ w2, C w2 → effUpon P (fun u w3 => u = v ∧ Below w2.heap.size w2 w3) w2 ((execOp a.eval x.2.1).run P w2)) ∧ RT P ops C Q d val l (a.put x.2.1.dst v) w)
theorem RT.later {ops : Array Oper} {C : World → Prop} {Q : Act → World → Prop} {d : Nat → Bool} {val : Nat → Value} : ∀ (l : DL) (a : Act) (w w' : World), RT P ops C Q d val l a w → Below w.heap.size w w' → RT P ops C Q d val l a w'
 | [], _, _, _, h, hb => fun w2 h2 => h w2 (below_on hb (Nat.le_refl _) h2)
 | x :: l, a, w, w', h, hb => by
  unfold RT at h ⊢
  by_cases e : d x.1 = true
  ·rw [if_pos e] at h ⊢
   exact RT.later l _ w w' h hb
  ·rw [if_neg e] at h ⊢
   refine h.imp (fun ⟨h1, h2⟩ => ⟨h1, RT.later l _ w w' h2 hb⟩) fun ⟨h1, h2⟩ => ⟨h1, ?_⟩
   by_cases f : x.2.2 = true
   ·rw [if_pos f] at h2 ⊢
    exact fun w2 hb2 => h2 w2 (below_on hb (Nat.le_refl _) hb2)
   ·rw [if_neg f] at h2 ⊢
    obtain ⟨v, h3, h4⟩ := h2
    exact ⟨v, h3, RT.later l _ w w' h4 hb⟩
theorem RT.congr {ops : Array Oper} {C : World → Prop} {Q : Act → World → Prop} {d d' : Nat → Bool} {val val' : Nat → Value} : ∀ (l : DL) (a : Act) (w : World), (∀ x ∈ l, d x.1 = d' x.1 ∧ val x.1 = val' x.1) → RT P ops C Q d val l a w → RT P ops C Q d' val' l a w
 | [], _, _, _, h => h
 | x :: l, a, w, hx, h => by
  have h0 := hx x (List.mem_cons_self ..)
  have hl : ∀ y ∈ l, d y.1 = d' y.1 ∧ val y.1 = val' y.1 := fun y hy => hx y (List.mem_cons_of_mem _ hy)
  unfold RT at h ⊢
  by_cases e : d x.1 = true
  ·rw [if_pos e] at h
   rw [if_pos (h0.1 ▸ e), ← h0.2]
   exact RT.congr l _ w hl h
  ·rw [if_neg e] at h
   rw [if_neg (h0.1 ▸ e)]
   refine h.imp (fun ⟨h1, h2⟩ => ⟨h1, RT.congr l _ w hl h2⟩) fun ⟨h1, h2⟩ => ⟨h1, ?_⟩
   by_cases f : x.2.2 = true
   ·rw [if_pos f] at h2 ⊢
    exact fun w2 hb2 => effUpon_mono (h2 w2 hb2) fun v w3 ⟨h3, h4⟩ => ⟨h3, RT.congr l _ w3 hl h4⟩
   ·rw [if_neg f] at h2 ⊢
    obtain ⟨v, h3, h4⟩ := h2
    exact ⟨v, h3, RT.congr l _ w hl h4⟩
theorem RT.done {ops : Array Oper} {C : World → Prop} {Q : Act → World → Prop} {d : Nat → Bool} {val : Nat → Value} : ∀ (l : DL) (a : Act) (w : World), (∀ x ∈ l, d x.1 = true) → RT P ops C Q d val l a w → Q (actV val d l a) w
 | [], _, w, _, h => h w (Below.refl _ _)
 | x :: l, a, w, hx, h => by
  have h0 := hx x (List.mem_cons_self ..)
  unfold RT at h
  unfold actV
  rw [if_pos h0] at h ⊢
  exact RT.done l _ w (fun y hy => hx y (List.mem_cons_of_mem _ hy)) h
theorem actV_put {val : Nat → Value} {d : Nat → Bool} {dst : Option Tmp} {v : Value} : ∀ (l : DL) (a : Act), (∀ x ∈ l, ∀ s, dst = some s → x.2.1.dst ≠ some s) → actV val d l (a.put dst v) = (actV val d l a).put dst v
 | [], _, _ => rfl
 | x :: l, a, h => by
  unfold actV
  rw [← actV_put l _ fun y hy => h y (List.mem_cons_of_mem _ hy)]
  congr 1
  by_cases e : d x.1 = true
  ·rw [if_pos e, if_pos e]
   exact Act.put_comm a v _ fun s hs => h x (List.mem_cons_self ..) s hs
  ·rw [if_neg e, if_neg e]
theorem actV_congr {val val' : Nat → Value} {d d' : Nat → Bool} : ∀ (l : DL) (a : Act), (∀ x ∈ l, d x.1 = d' x.1 ∧ val x.1 = val' x.1) → actV val d l a = actV val' d' l a
 | [], _, _ => rfl
 | x :: l, a, h => by
  have h0 := h x (List.mem_cons_self ..)
  unfold actV
  rw [← h0.1, ← h0.2]
  exact actV_congr l _ fun y hy => h y (List.mem_cons_of_mem _ hy)
theorem actV_keep {val : Nat → Value} {d : Nat → Bool} {t : Tmp} : ∀ (l : DL) (b : Act), (∀ x ∈ l, x.2.1.dst = some t → d x.1 = false) → (actV val d l b).eval (.tmp t) = b.eval (.tmp t)
 | [], _, _ => rfl
 | x :: l, b, h => by
  unfold actV
  rw [actV_keep l _ fun y hy => h y (List.mem_cons_of_mem _ hy)]
  by_cases e : d x.1 = true
  ·rw [if_pos e]
   cases hx : x.2.1.dst with
   | none => rfl
   | some s =>
    have hne : s ≠ t := fun hst => by
     have := h x (List.mem_cons_self ..) (by rw [hx, hst])
     rw [e] at this; cases this
    rw [put_eval, if_neg (fun k => hne k.1)]
  ·rw [if_neg e]
theorem actV_size {val : Nat → Value} {d : Nat → Bool} : ∀ (l : DL) (b : Act), (actV val d l b).tmps.size = b.tmps.size
 | [], _ => rfl
 | x :: l, b => by
  unfold actV
  rw [actV_size l]
  split
  ·exact put_size _ _ _
  ·rfl
/-- Operation i may come up: what it looks at is there. -/
def Rdy (ops : Array Oper) (d : Nat → Bool) (i : Nat) (o : Oper) (hard : Bool) : DL → Prop
 | [] => False
 | y :: l => (y.1 ≠ i ∧ (∀ s, o.dst = some s → y.2.1.dst ≠ some s) ∧ (∀ s, y.2.1.dst = some s → s ∈ o.looksAt ops → d y.1 = true) ∧ (y.2.2 = true → d y.1 = true) ∧ Rdy ops d i o hard l) ∨
   (y = (i, o, hard) ∧ ∀ z ∈ l, z.1 ≠ i ∧ (∀ s, o.dst = some s → z.2.1.dst ≠ some s) ∧ ∀ s, z.2.1.dst = some s → s ∈ o.looksAt ops → d z.1 = false)
theorem actV_add {ops : Array Oper} {val : Nat → Value} {d : Nat → Bool} {i : Nat} {o : Oper} {hard : Bool} (hd : d i = false) (v : Value) : ∀ (l : DL) (a : Act), Rdy ops d i o hard l → actV (updV val i v) (fun j => j == i || d j) l a = (actV val d l a).put o.dst v
 | [], _, h => h.elim
 | y :: l, a, h => by
  rcases h with ⟨hne, hds, _, _, hr⟩ | ⟨rfl, hz⟩
  ·unfold actV
   rw [updV_other val v hne, show ((y.1 == i) || d y.1) = d y.1 by rw [show (y.1 == i) = false by simpa using hne, Bool.false_or]]
   exact actV_add hd v l _ hr
  ·unfold actV
   rw [if_pos (by simp), updV_same, if_neg (by rw [hd]; decide), actV_congr (val' := val) (d' := d) l _ (fun z hz' => ⟨by rw [show (z.1 == i) = false by simpa using (hz z hz').1, Bool.false_or], updV_other val v (hz z hz').1⟩)]
   exact actV_put l a fun z hz' s hs => (hz z hz').2.1 s hs
theorem rt_step {ops : Array Oper} {C : World → Prop} {Q : Act → World → Prop} {d : Nat → Bool} {val : Nat → Value} {i : Nat} {o : Oper} {hard : Bool} (hd : d i = false) (hC : ∀ w w2, C w → Below w.heap.size w w2 → C w2) (hsel : ∀ cs b, o.op ≠ .select cs b) :
  ∀ (l : DL) (a b : Act) (w : World), C w → RT P ops C Q d val l a w → Rdy ops d i o hard l → a.tmps.size = b.tmps.size → (∀ t, t ∈ o.looksAt ops → a.eval (.tmp t) = b.eval (.tmp t)) →
   (Region.wanted o (yielded ops (actV val d l b).tmps) = false ∧ RT P ops C Q (fun j => j == i || d j) (updV val i undef) l a w) ∨
   (Region.wanted o (yielded ops (actV val d l b).tmps) = true ∧ effUpon P (fun v w2 => C w2 ∧ RT P ops C Q (fun j => j == i || d j) (updV val i v) l a w2) w ((execOp (actV val d l b).eval o).run P w))
 | [], _, _, _, _, _, h, _, _ => h.elim
 | y :: l, a, b, w, hw, h, hr, hz, he => by
  rcases hr with ⟨hne, _, hlk, hhd, hr⟩ | ⟨rfl, hlater⟩
  ·have hdi : ((y.1 == i) || d y.1) = d y.1 := by rw [show (y.1 == i) = false by simpa using hne, Bool.false_or]
   unfold RT at h
   unfold actV
   by_cases e : d y.1 = true
   ·rw [if_pos e] at h
    rw [if_pos e]
    have := rt_step hd hC hsel l (a.put y.2.1.dst (val y.1)) (b.put y.2.1.dst (val y.1)) w hw h hr (by rw [put_size, put_size, hz]) (fun t ht => by
     cases hx : y.2.1.dst with
     | none => exact he t ht
     | some s => rw [put_eval, put_eval, hz, he t ht])
    have lift : ∀ v w2, RT P ops C Q (fun j => j == i || d j) (updV val i v) l (a.put y.2.1.dst (val y.1)) w2 → RT P ops C Q (fun j => j == i || d j) (updV val i v) (y :: l) a w2 := fun v w2 h2 => by
     unfold RT
     rw [if_pos (by rw [hdi]; exact e), updV_other val v hne]
     exact h2
    exact this.imp (fun ⟨h1, h2⟩ => ⟨h1, lift _ _ h2⟩) fun ⟨h1, h2⟩ => ⟨h1, effUpon_mono h2 fun v w2 ⟨h3, h4⟩ => ⟨h3, lift v w2 h4⟩⟩
   ·rw [if_neg e] at h
    rw [if_neg e]
    have hev : ∀ x, ∀ t, t ∈ o.looksAt ops → (a.put y.2.1.dst x).eval (.tmp t) = b.eval (.tmp t) := fun x t ht => by
     cases hx : y.2.1.dst with
     | none => exact he t ht
     | some s =>
      rw [put_eval, if_neg (fun k => e (hlk s hx (by rw [k.1]; exact ht)))]
      exact he t ht
    rcases h with ⟨h1, h2⟩ | ⟨h1, h2⟩
    ·have := rt_step hd hC hsel l (a.put y.2.1.dst undef) b w hw h2 hr (by rw [put_size, hz]) (hev undef)
     have lift : ∀ v w2, RT P ops C Q (fun j => j == i || d j) (updV val i v) l (a.put y.2.1.dst undef) w2 → RT P ops C Q (fun j => j == i || d j) (updV val i v) (y :: l) a w2 := fun v w2 h2 => by
      unfold RT
      rw [if_neg (by rw [hdi]; exact e)]
      exact .inl ⟨h1, h2⟩
     exact this.imp (fun ⟨h1, h2⟩ => ⟨h1, lift _ _ h2⟩) fun ⟨h1, h2⟩ => ⟨h1, effUpon_mono h2 fun v w2 ⟨h3, h4⟩ => ⟨h3, lift v w2 h4⟩⟩
    ·by_cases f : y.2.2 = true
     ·exact absurd (hhd f) e
     ·rw [if_neg f] at h2
      obtain ⟨x, h3, h4⟩ := h2
      have := rt_step hd hC hsel l (a.put y.2.1.dst x) b w hw h4 hr (by rw [put_size, hz]) (hev x)
      have lift : ∀ v w2, RT P ops C Q (fun j => j == i || d j) (updV val i v) l (a.put y.2.1.dst x) w2 → RT P ops C Q (fun j => j == i || d j) (updV val i v) (y :: l) a w2 := fun v w2 h2 => by
       unfold RT
       rw [if_neg (by rw [hdi]; exact e)]
       refine .inr ⟨h1, ?_⟩
       rw [if_neg f]
       exact ⟨x, h3, h2⟩
      exact this.imp (fun ⟨h1, h2⟩ => ⟨h1, lift _ _ h2⟩) fun ⟨h1, h2⟩ => ⟨h1, effUpon_mono h2 fun v w2 ⟨h3, h4⟩ => ⟨h3, lift v w2 h4⟩⟩
  ·have EV : ∀ t, t ∈ o.looksAt ops → (actV val d ((i, o, hard) :: l) b).eval (.tmp t) = a.eval (.tmp t) := fun t ht => by
    unfold actV
    rw [if_neg (by rw [hd]; decide), actV_keep l b (fun z hz' hdst => (hlater z hz').2.2 t hdst ht)]
    exact (he t ht).symm
   have E : execOp (actV val d ((i, o, hard) :: l) b).eval o = execOp a.eval o := by
    refine execOp_congr o hsel fun y hy => ?_
    cases y with
    | tmp t => exact EV t (List.mem_append_left _ (List.mem_filterMap.2 ⟨.tmp t, by simpa using hy, rfl⟩))
    | _ => rfl
   have WW : Region.wanted o (yielded ops (actV val d ((i, o, hard) :: l) b).tmps) = Region.wanted o (yielded ops a.tmps) := by
    refine wanted_same o (by rw [actV_size, hz]) fun g want hg t ht => EV t ?_
    unfold Oper.looksAt
    rw [hg]
    refine List.mem_append_right _ ?_
    show t ∈ ((ops[g]?).bind (·.dst)).toList
    rw [ht]
    exact List.mem_singleton.2 rfl
   rw [E, WW]
   have lift : ∀ v w2, RT P ops C Q d val l (a.put o.dst v) w2 → RT P ops C Q (fun j => j == i || d j) (updV val i v) ((i, o, hard) :: l) a w2 := fun v w2 h2 => by
    unfold RT
    rw [if_pos (by simp), updV_same]
    exact RT.congr l _ w2 (fun z hz' => ⟨by rw [show (z.1 == i) = false by simpa using (hlater z hz').1, Bool.false_or], (updV_other val v (hlater z hz').1).symm⟩) h2
   unfold RT at h
   rw [if_neg (by rw [hd]; decide)] at h
   rcases h with ⟨h1, h2⟩ | ⟨h1, h2⟩
   ·exact .inl ⟨h1, lift _ _ h2⟩
   ·refine .inr ⟨h1, ?_⟩
    by_cases f : hard = true
    ·rw [if_pos f] at h2
     exact effUpon_mono (h2 w (Below.refl _ _)) fun v w2 ⟨h3, h4⟩ => ⟨h3, lift v w2 h4⟩
    ·rw [if_neg f] at h2
     obtain ⟨v, h3, h4⟩ := h2
     exact effUpon_mono (h3 w hw) fun u w2 ⟨h5, h6⟩ => by
      subst h5
      exact ⟨hC _ _ hw h6, lift u w2 (RT.later l _ w w2 h4 h6)⟩
/-- Operations and which of them are hard, with their places. -/
def mkD : Nat → List Oper → List Bool → DL
 | n, o :: l, f :: fs => (n, o, f) :: mkD (n + 1) l fs
 | _, _, _ => []
theorem mkD_mem : ∀ (n : Nat) (l : List Oper) (fs : List Bool) (x : Nat × Oper × Bool), x ∈ mkD n l fs → n ≤ x.1 ∧ l[x.1 - n]? = some x.2.1 ∧ fs[x.1 - n]? = some x.2.2
 | n, o :: l, f :: fs, x, h => by
  rcases List.mem_cons.1 h with rfl | h
  ·simp
  ·obtain ⟨h1, h2, h3⟩ := mkD_mem (n + 1) l fs x h
   have e : x.1 - n = (x.1 - (n + 1)) + 1 := by omega
   exact ⟨by omega, by rw [e]; simpa using h2, by rw [e]; simpa using h3⟩
 | _, [], _, _, h => by simp [mkD] at h
 | _, _ :: _, [], _, h => by simp [mkD] at h
theorem rdy_mkD {ops : Array Oper} {d : Nat → Bool} {i : Nat} {o : Oper} {hard : Bool} : ∀ (n : Nat) (l : List Oper) (fs : List Bool), n ≤ i → l[i - n]? = some o → fs[i - n]? = some hard →
  (∀ j y f, n ≤ j → l[j - n]? = some y → fs[j - n]? = some f → j ≠ i → (∀ s, o.dst = some s → y.dst ≠ some s) ∧ (∀ s, y.dst = some s → s ∈ o.looksAt ops → (j < i → d j = true) ∧ (i < j → d j = false)) ∧ (f = true → j < i → d j = true)) →
  Rdy ops d i o hard (mkD n l fs)
 | n, x :: l, f :: fs, hn, ho, hf, hc => by
  unfold mkD
  by_cases e : n = i
  ·subst e
   obtain rfl : x = o := by simpa using ho
   obtain rfl : f = hard := by simpa using hf
   refine .inr ⟨rfl, fun z hz => ?_⟩
   obtain ⟨h1, h2, h3⟩ := mkD_mem (n + 1) l fs z hz
   have e : z.1 - n = (z.1 - (n + 1)) + 1 := by omega
   have := hc z.1 z.2.1 z.2.2 (by omega) (by rw [e]; simpa using h2) (by rw [e]; simpa using h3) (by omega)
   exact ⟨by omega, this.1, fun s hs hl => (this.2.1 s hs hl).2 (by omega)⟩
  ·have h0 := hc n x f (Nat.le_refl _) (by simp) (by simp) e
   refine .inl ⟨e, h0.1, fun s hs hl => (h0.2.1 s hs hl).1 (by omega), fun hh => h0.2.2 hh (by omega), ?_⟩
   have ei : i - n = (i - (n + 1)) + 1 := by omega
   refine rdy_mkD (n + 1) l fs (by omega) (by rw [ei] at ho; simpa using ho) (by rw [ei] at hf; simpa using hf) fun j y f' hj hy hf' hne => ?_
   have ej : j - n = (j - (n + 1)) + 1 := by omega
   exact hc j y f' (by omega) (by rw [ej]; simpa using hy) (by rw [ej]; simpa using hf') hne
 | _, [], _, _, ho, _, _ => by simp at ho
 | _, _ :: _, [], _, _, hf, _ => by simp at hf
def opsS (l : List Oper) : List (Oper × Sp) := l.map fun o => (o, skipS)
def chkPairD (ops : Array Oper) (z : List (Oper × Sp)) (x : Oper) (i : Nat) (y : Oper) (f : Bool) (j : Nat) : Bool :=
 j == i || ((match y.dst with
  | none => true
  | some s => x.dst != some s && (!(x.looksAt ops).contains s || ((decide (j < i) && reach z z.length i j) || (decide (i < j) && reach z z.length j i)))) &&
 (!f || !decide (j < i) || reach z z.length i j))
def chkD (l : List Oper) (fs : List Bool) : Bool :=
 l.length == fs.length && l.zipIdx.all fun (x : Oper × Nat) => (match x.1.op with | .select _ _ => false | _ => true) && (x.1.after.all fun e => !Region.binds .any e || decide (e.on < x.2)) &&
  (l.zip fs).zipIdx.all fun (u : (Oper × Bool) × Nat) => chkPairD l.toArray (opsS l) x.1 x.2 u.1.1 u.1.2 u.2
structure DW (P : Program) (ops : Array Oper) (C : World → Prop) (Q : Act → World → Prop) (n : Nat) (l : List Oper) (fs : List Bool) (a : Act) (w : World) : Prop where
 out : RT P ops C Q (fun _ => false) (fun _ => undef) (mkD n l fs) a w
theorem wp_region_dw {id : Nat} {l : List Oper} {a : Act} {W : World} {Q : Exit → Act → World → Prop} (hm : P.follows .mixedOrders = true) (C : World → Prop) (hC : ∀ w w2, C w → Below w.heap.size w w2 → C w2) (h0 : C W) (fs : List Bool)
  (h : DW P l.toArray C (Q .normal) 0 l fs a W) (hchk : chkD l fs = true) : (Code.region id l.toArray true).wp P Q a W := by
 unfold chkD at hchk
 rw [Bool.and_eq_true] at hchk
 obtain ⟨hlen, hall⟩ := hchk
 have hlen : l.length = fs.length := by simpa using hlen
 have hA : ∀ i o, l[i]? = some o → (∀ cs b, o.op ≠ .select cs b) ∧ (∀ e ∈ o.after, Region.binds .any e = true → e.on < i) ∧ ∀ j y f, l[j]? = some y → fs[j]? = some f → chkPairD l.toArray (opsS l) o i y f j = true := by
  intro i o ho
  have h1 : (o, i) ∈ l.zipIdx := by rw [List.mem_zipIdx_iff_getElem?]; exact ho
  have h2 := List.all_eq_true.1 hall _ h1
  simp only [Bool.and_eq_true] at h2
  obtain ⟨⟨a1, a2⟩, a3⟩ := h2
  refine ⟨fun cs b e => (by rw [e] at a1; cases a1), fun e he hb => ?_, fun j y f hy hf => ?_⟩
  ·have := Array.all_eq_true_iff_forall_mem.1 a2 e he
   rw [hb] at this
   simpa using this
  ·have h3 : ((y, f), j) ∈ (l.zip fs).zipIdx := by
    rw [List.mem_zipIdx_iff_getElem?, List.getElem?_zip_eq_some]
    exact ⟨hy, hf⟩
   exact List.all_eq_true.1 a3 _ h3
 have hS : ∀ i o, l[i]? = some o → (opsS l)[i]? = some (o, skipS) := fun i o ho => by
  unfold opsS
  rw [List.getElem?_map, ho]; rfl
 refine wp_region_inv hm (fun d a' w' => C w' ∧ ∃ val, a' = actV val d (mkD 0 l fs) a ∧ RT P l.toArray C (Q .normal) d val (mkD 0 l fs) a w' ∧
  (∀ i (x : Oper × Sp), (opsS l)[i]? = some x → d i = true → ∀ e ∈ x.1.after, Region.binds .any e = true → d e.on = true)) ?lex ?start ?step ?fin
 case lex =>
  rw [List.all_eq_true]
  intro x hx
  obtain ⟨_, h3, _⟩ := hA x.2 x.1 (List.mem_zipIdx_iff_getElem?.1 hx)
  rw [Array.all_eq_true_iff_forall_mem]
  intro e he
  cases hb : Region.binds .any e
  ·rfl
  ·simpa using h3 e he hb
 case start =>
  have hb : Below W.heap.size W W.drew := (Below.refl _ _).drew
  refine ⟨hC _ _ h0 hb, fun _ => undef, ?_, RT.later _ _ _ _ h.out hb, fun i x _ hd => by cases hd⟩
  have : ∀ (L : DL) (b : Act), actV (fun _ => undef) (fun _ => false) L b = b := fun L => by
   induction L with
   | nil => intro b; rfl
   | cons x L ih =>
    intro b
    unfold actV
    rw [if_neg (by decide)]
    exact ih b
  exact (this _ _).symm
 case fin =>
  rintro d a' w' ⟨_, val, rfl, hr, _⟩ hd
  refine RT.done _ _ _ (fun x hx => ?_) hr
  obtain ⟨_, h2, _⟩ := mkD_mem 0 l fs x hx
  rw [Nat.sub_zero] at h2
  exact hd x.1 (List.getElem?_eq_some_iff.1 h2).1
 case step =>
  rintro i o ho d a' w' ⟨hw, val, rfl, hr, hcl⟩ hd hpre
  obtain ⟨hsel, _, hpair⟩ := hA i o ho
  have hi : i < l.length := (List.getElem?_eq_some_iff.1 ho).1
  obtain ⟨hard, hhard⟩ : ∃ f, fs[i]? = some f := ⟨fs[i]'(by omega), List.getElem?_eq_getElem (by omega)⟩
  have hwait : ∀ j, reach (opsS l) (opsS l).length i j = true → d j = true := fun j hj => reach_pre hcl _ i j _ (hS i o ho) hpre hj
  have hlater : ∀ j y, l[j]? = some y → reach (opsS l) (opsS l).length j i = true → d j = false := fun j y hy hj => by
   cases hdj : d j
   ·rfl
   ·rw [reach_pre hcl _ j i _ (hS j y hy) (hcl j _ (hS j y hy) hdj) hj] at hd; cases hd
  have hrdy : Rdy l.toArray d i o hard (mkD 0 l fs) := by
   refine rdy_mkD 0 l fs (Nat.zero_le _) (by simpa using ho) (by simpa using hhard) fun j y f _ hy hf hne => ?_
   rw [Nat.sub_zero] at hy hf
   have hc := hpair j y f hy hf
   unfold chkPairD at hc
   rw [show (j == i) = false by simpa using hne, Bool.false_or, Bool.and_eq_true] at hc
   refine ⟨fun s hs e => ?_, fun s hs hl => ?_, fun hf' hj => ?_⟩
   ·have h2 := hc.1
    rw [e] at h2
    simp only [Bool.and_eq_true, bne_iff_ne, ne_eq] at h2
    exact h2.1 hs
   ·have h2 := hc.1
    rw [hs] at h2
    simp only [Bool.and_eq_true, Bool.or_eq_true, Bool.not_eq_true', decide_eq_true_eq] at h2
    rcases h2.2 with h3 | ⟨h3, h4⟩ | ⟨h3, h4⟩
    ·rw [List.contains_iff_mem.2 hl] at h3; cases h3
    ·exact ⟨fun _ => hwait j h4, fun h5 => by omega⟩
    ·exact ⟨fun h5 => by omega, fun _ => hlater j y hy h4⟩
   ·have h2 := hc.2
    rw [hf'] at h2
    simp only [Bool.not_true, Bool.false_or, Bool.or_eq_true, Bool.not_eq_true', decide_eq_false_iff_not] at h2
    exact hwait j (h2.resolve_left (fun h3 => h3 hj))
  have hcl' : ∀ i' (x' : Oper × Sp), (opsS l)[i']? = some x' → (i' == i || d i') = true → ∀ e ∈ x'.1.after, Region.binds .any e = true → (e.on == i || d e.on) = true := fun i' x' hx' hd' e he hb => by
   by_cases hii : i' = i
   ·subst hii
    rw [hS _ _ ho] at hx'
    obtain rfl : (o, skipS) = x' := by simpa using hx'
    rw [hpre e he hb, Bool.or_true]
   ·rw [show (i' == i) = false by simpa using hii, Bool.false_or] at hd'
    rw [hcl i' x' hx' hd' e he hb, Bool.or_true]
  rcases rt_step hd hC hsel (mkD 0 l fs) a a w' hw hr hrdy rfl (fun _ _ => rfl) with ⟨h1, h2⟩ | ⟨h1, h2⟩
  ·rw [if_neg (by rw [h1]; decide)]
   exact ⟨hw, updV val i undef, (actV_add hd undef _ _ hrdy).symm, h2, hcl'⟩
  ·rw [if_pos h1]
   exact opw_eff h2 fun v w2 ⟨h3, h4⟩ => ⟨h3, updV val i v, (actV_add hd v _ _ hrdy).symm, h4, hcl'⟩
theorem below_self {B : Nat} {w z : World} (_ : Below B w z) : Below z.heap.size z z := Below.refl _ _
theorem wp_region_dwb {id : Nat} {l : List Oper} {a : Act} {W : World} {Q : Exit → Act → World → Prop} (hm : P.follows .mixedOrders = true) (fs : List Bool) (h : DW P l.toArray (fun x => Below W.heap.size W x) (Q .normal) 0 l fs a W) (hchk : chkD l fs = true) :
  (Code.region id l.toArray true).wp P Q a W :=
 wp_region_dw hm (fun x => Below W.heap.size W x) (fun _ _ h1 h2 => below_on h1 (Nat.le_refl _) h2) (Below.refl _ _) fs h hchk
section
variable {ops : Array Oper} {C : World → Prop} {Q : Act → World → Prop} {n : Nat} {l : List Oper} {fs : List Bool} {a : Act} {w : World} {o : Oper}
theorem run_enter {fn : Func} (f : FuncId) (args : Array Operand) (ts : Array TypeId) (ho : o.op = .call { callee := .value (.func f), args := args, argTypes := ts }) (hf : P.funcs[f]? = some fn) (hb : (fn.name == "runtime.NumGoroutine" || fn.body.isNone) = false)
  (vs : Array Value) (hv' : args.toList.map a.eval = vs.toList) (w : World) : (execOp a.eval o).run P w = .ok (.enter f vs) w := by
 have hv : args.map a.eval = vs := by apply Array.toList_inj.1; rw [Array.toList_map]; exact hv'
 have hr := run_callFunc_body (P := P) hf hb vs w
 unfold execOp
 simp only [ho, resolve, hv, Act.eval]
 simp [Deferred.ofValue, invoke, hr]
theorem dw_nil (h : ∀ w2, Below w.heap.size w w2 → Q a w2) : DW P ops C Q n [] [] a w := ⟨h⟩
theorem dw_skip {f : Bool} (hw : Region.wanted o (yielded ops a.tmps) = false) (h : DW P ops C Q (n + 1) l fs (a.put o.dst undef) w) : DW P ops C Q n (o :: l) (f :: fs) a w :=
 ⟨.inl ⟨hw, h.out⟩⟩
theorem dw_quiet (hw : Region.wanted o (yielded ops a.tmps) = true) (v : Value) (hr : ∀ w2, C w2 → effUpon P (fun u w3 => u = v ∧ Below w2.heap.size w2 w3) w2 ((execOp a.eval o).run P w2)) (h : DW P ops C Q (n + 1) l fs (a.put o.dst v) w) : DW P ops C Q n (o :: l) (false :: fs) a w :=
 ⟨.inr ⟨hw, v, hr, h.out⟩⟩
theorem dw_hard (hw : Region.wanted o (yielded ops a.tmps) = true) (h : ∀ w2, Below w.heap.size w w2 → effUpon P (fun v w3 => C w3 ∧ DW P ops C Q (n + 1) l fs (a.put o.dst v) w3) w2 ((execOp a.eval o).run P w2)) : DW P ops C Q n (o :: l) (true :: fs) a w :=
 ⟨.inr ⟨hw, fun w2 hb => effUpon_mono (h w2 hb) fun _ _ ⟨h1, h2⟩ => ⟨h1, h2.out⟩⟩⟩
theorem dw_value (hw : Region.wanted o (yielded ops a.tmps) = true) (v : Value) (hr : ∀ w, (execOp a.eval o).run P w = .ok (.value v) w) (h : DW P ops C Q (n + 1) l fs (a.put o.dst v) w) : DW P ops C Q n (o :: l) (false :: fs) a w :=
 dw_quiet hw v (fun w2 _ => by rw [hr]; exact ⟨rfl, Below.refl _ _⟩) h
theorem dw_valK (hw : Region.wanted o (yielded ops a.tmps) = true) (v : Value) (hr : ∀ w, C w → (execOp a.eval o).run P w = .ok (.value v) w) (h : DW P ops C Q (n + 1) l fs (a.put o.dst v) w) : DW P ops C Q n (o :: l) (false :: fs) a w :=
 dw_quiet hw v (fun w2 hc => by rw [hr w2 hc]; exact ⟨rfl, Below.refl _ _⟩) h
theorem dw_mv {t : Tmp} {v : Value} (hw : Region.wanted o (yielded ops a.tmps) = true) (ho : o.op = .move (.tmp t)) (hx : a.tmps.toList[t]? = some v) (h : DW P ops C Q (n + 1) l fs (a.put o.dst v) w) : DW P ops C Q n (o :: l) (false :: fs) a w :=
 dw_value hw v (fun w => by unfold execOp; rw [ho]; simp only [eval_at hx]; rfl) h
theorem dw_as {t : Tmp} {v : Value} (hw : Region.wanted o (yielded ops a.tmps) = true) (ho : o.op = .assign (.tmp t)) (hx : a.tmps.toList[t]? = some v) (h : DW P ops C Q (n + 1) l fs (a.put o.dst v) w) : DW P ops C Q n (o :: l) (false :: fs) a w :=
 dw_value hw v (fun w => by unfold execOp; rw [ho]; simp only [eval_at hx]; rfl) h
theorem dw_ext {x : Operand} {i : Nat} {vs : Array Value} {v : Value} (hw : Region.wanted o (yielded ops a.tmps) = true) (ho : o.op = .extract x i) (hx : a.eval x = .tuple vs) (hv : vs.toList[i]? = some v) (h : DW P ops C Q (n + 1) l fs (a.put o.dst v) w) : DW P ops C Q n (o :: l) (false :: fs) a w := by
 have hv' : vs[i]? = some v := by rw [← Array.getElem?_toList]; exact hv
 refine dw_value hw v (fun w => ?_) h
 unfold execOp
 rw [ho]
 simp only [hx, Instr.extract]
 simp [hv']
theorem dw_pick (hw : Region.wanted o (yielded ops a.tmps) = true) {c x y : Operand} (b : Bool) {v : Value} (ho : o.op = .pick c x y) (hc : a.eval c = .bool b) (hv : a.eval (if b then x else y) = v) (h : DW P ops C Q (n + 1) l fs (a.put o.dst v) w) : DW P ops C Q n (o :: l) (false :: fs) a w := by
 refine dw_value hw v (fun w => ?_) h
 subst hv
 unfold execOp
 rw [ho]
 simp only [hc]
 cases b <;> rfl
/-- A quiet call: one value in every world of the class. -/
theorem dw_call {fn : Func} (hw : Region.wanted o (yielded ops a.tmps) = true) (f : FuncId) (args : Array Operand) (ts : Array TypeId)
  (ho : o.op = .call { callee := .value (.func f), args := args, argTypes := ts }) (hf : P.funcs[f]? = some fn) (hb : (fn.name == "runtime.NumGoroutine" || fn.body.isNone) = false)
  (vs : Array Value) (hv' : args.toList.map a.eval = vs.toList) (v : Value) (hc : ∀ w, C w → Calls P f vs w fun e w' => e = .returned v ∧ Below w.heap.size w w')
  (h : DW P ops C Q (n + 1) l fs (a.put o.dst v) w) : DW P ops C Q n (o :: l) (false :: fs) a w :=
 dw_quiet hw v (fun w2 hcw => by
  rw [run_enter f args ts ho hf hb vs hv' w2]
  exact ⟨rfl, (hc w2 hcw).mono fun e w' ⟨h1, h2⟩ => ⟨v, h1, rfl, h2⟩⟩) h
/-- A call whose outcome is told as it comes. -/
theorem dw_callE {fn : Func} (hw : Region.wanted o (yielded ops a.tmps) = true) (f : FuncId) (args : Array Operand) (ts : Array TypeId)
  (ho : o.op = .call { callee := .value (.func f), args := args, argTypes := ts }) (hf : P.funcs[f]? = some fn) (hb : (fn.name == "runtime.NumGoroutine" || fn.body.isNone) = false)
  (vs : Array Value) (hv' : args.toList.map a.eval = vs.toList)
  (h : ∀ w2, Below w.heap.size w w2 → Calls P f vs w2 fun e w' => ∃ v, e = .returned v ∧ C w' ∧ DW P ops C Q (n + 1) l fs (a.put o.dst v) w') : DW P ops C Q n (o :: l) (true :: fs) a w :=
 dw_hard hw fun w2 hb2 => by
  rw [run_enter f args ts ho hf hb vs hv' w2]
  exact ⟨rfl, (h w2 hb2).mono fun e w' ⟨v, h1, h2, h3⟩ => ⟨v, h1, h2, h3⟩⟩
/-- A load out of a row that every world of the class holds. -/
theorem dw_loadm (hw : Region.wanted o (yielded ops a.tmps) = true) (ty : TypeId) (x : Operand) (ho : o.op = .load ty x) (g off : Nat) (hx : a.eval x = .pointer (some ⟨g, off, none⟩)) {t : TypeId} {cs : Array Value} (hg : ∀ w, C w → RowR w g cs t)
  (sub : Array Value) (hs : ∀ j v, sub.toList[j]? = some v → cs[off + j]? = some v) (d : TypeDesc) (hu : P.underlying ty = some d) (hd : d.isRow = true) (hi : (P.info? ty).map (·.size) = some sub.size)
  (h : DW P ops C Q (n + 1) l fs (a.put o.dst (.agg sub)) w) : DW P ops C Q n (o :: l) (false :: fs) a w :=
 dw_valK hw _ (fun w2 hc => run_load_mid ty x ho g off hx (hg w2 hc) sub hs d hu hd hi) h
theorem dw_loadk (hw : Region.wanted o (yielded ops a.tmps) = true) (ty : TypeId) (x : Operand) (ho : o.op = .load ty x) (g i : Nat) (hx : a.eval x = .pointer (some ⟨g, i, none⟩)) {t : TypeId} {cs : Array Value} (hg : ∀ w, C w → RowR w g cs t) (v : Value) (hc : cs[i]? = some v)
  (ha : ∀ w, (isAgg ty).run P w = .ok false w) (h : DW P ops C Q (n + 1) l fs (a.put o.dst v) w) : DW P ops C Q n (o :: l) (false :: fs) a w := by
 refine dw_valK hw v (fun w2 hc2 => ?_) h
 unfold execOp
 simp only [ho, hx, Instr.loadAt, Instr.sureAddr, Sem.run_bind, Sem.run_pure, Result.andThen_ok, run_load_cell w2 g i ty v ha (((hg w2 hc2).cell i).trans hc)]
end
end
end Go.Proofs.Ytchiiphmpkmloaa
