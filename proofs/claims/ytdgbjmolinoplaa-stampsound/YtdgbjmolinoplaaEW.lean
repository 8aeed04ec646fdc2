/- A region that draws its order, walked in the text's order: quiet operations, whose value is the same in every world of a class, and hard ones, whose outcome is told as it comes; guards let. -/
import Derived.Test.YtdgbjmolinoplaaGJ
import Derived.Test.YtdgbjmolinoplaaGWalk
namespace Go.Proofs.Ytdgbjmolinoplaa
open Go.RowKit
section
variable {P : Program}
abbrev DL := List (Nat × Oper × Bool)
/-- The slots behind those operations that are done. -/
def actV (val : Nat → Value) (d : Nat → Bool) : DL → Act → Act
 | [], a => a
 | x :: l, a => actV val d l (if d x.1 = true then a.put x.2.1.dst (val x.1) else a)
def updV (val : Nat → Value) (n : Nat) (v : Value) : Nat → Value := fun j => if j = n then v else val j
theorem updV_same (val : Nat → Value) (n : Nat) (v : Value) : updV val n v n = v := if_pos rfl
theorem updV_other (val : Nat → Value) {n j : Nat} (v : Value) (h : j ≠ n) : updV val n v j = val j := if_neg h
theorem effUpon_mono {E E' : Value → World → Prop} {w : World} {r : Result Next} (h : effUpon P E w r) (hE : ∀ v w2, E v w2 → E' v w2) : effUpon P E' w r := by
 cases r with
 | ok n w' =>
  cases n <;> simp only [effUpon] at h ⊢
  case value u => exact hE _ _ h
  case skip => exact hE _ _ h
  case enter f args => exact ⟨h.1, h.2.mono fun e w'' ⟨v, he, hv⟩ => ⟨v, he, hE _ _ hv⟩⟩
 | halt x w' => simp only [effUpon] at h
/-- What is still owed, where some operations are done already. -/
def RT (P : Program) (ops : Array Oper) (C : World → Prop) (Q : Act → World → Prop) (d : Nat → Bool) (val : Nat → Value) : DL → Act → World → Prop
 | [], a, w => ∀ w2, Below w.heap.size w w2 → Q a w2
 | x :: l, a, w =>
  if d x.1 = true then RT P ops C Q d val l (a.put x.2.1.dst (val x.1)) w
  else (Region.wanted x.2.1 (yielded ops a.tmps) = false ∧ RT P ops C Q d val l (a.put x.2.1.dst undef) w) ∨
   (Region.wanted x.2.1 (yielded ops a.tmps) = true ∧
    if x.2.2 = true then ∀ w2, Below w.heap.size w w2 → effUpon P (fun v w3 => C w3 ∧ RT P ops C Q d val l (a.put x.2.1.dst v) w3) w2 ((execOp a.eval x.2.1).run P w2)
    else ∃ v, (∀ w2, C w2 → effUpon P (fun u w3 => u = v ∧ Below w2.heap.size w2 w3) w2 ((execOp a.eval x.2.1).run P w2)) ∧ RT P ops C Q d val l (a.put x.2.1.dst v) w)
theorem RT.later {ops : Array Oper} {C : World → Prop} {Q : Act → World → Prop} {d : Nat → Bool} {val : Nat → Value} : ∀ (l : DL) (a : Act) (w w' : World), RT P ops C Q d val l a w → Below w.heap.size w w' → RT P ops C Q d val l a w'
 | [], _, _, _, h, hb => fun w2 h2 => h w2 (below_on hb (Nat.le_refl _) h2)
 | x :: l, a, w, w', h, hb => by
  unfold RT at h ⊢
  by_cases e : d x.1 = true
  ·rw [if_pos e] at h ⊢
   exact RT.later l _ w w' h hb
  ·rw [if_neg e] at h ⊢
   refine h.imp (fun ⟨h1, h2⟩ => ⟨h1, RT.later l _ w w' h2 hb⟩) fun ⟨h1, h2⟩ => ⟨h1, ?_⟩
   by_cases f : x.2.2 = true
   ·rw [if_pos f] at h2 ⊢
    exact fun w2 hb2 => h2 w2 (below_on hb (Nat.le_refl _) hb2)
   ·rw [if_neg f] at h2 ⊢
    obtain ⟨v, h3, h4⟩ := h2
    exact ⟨v, h3, RT.later l _ w w' h4 hb⟩
theorem RT.congr {ops : Array Oper} {C : World → Prop} {Q : Act → World → Prop} {d d' : Nat → Bool} {val val' : Nat → Value} : ∀ (l : DL) (a : Act) (w : World), (∀ x ∈ l, d x.1 = d' x.1 ∧ val x.1 = val' x.1) → RT P ops C Q d val l a w → RT P ops C Q d' val' l a w
 | [], _, _, _, h => h
 | x :: l, a, w, hx, h => by
  have h0 := hx x (List.mem_cons_self ..)
  have hl : ∀ y ∈ l, d y.1 = d' y.1 ∧ val y.1 = val' y.1 := fun y hy => hx y (List.mem_cons_of_mem _ hy)
  unfold RT at h ⊢
  by_cases e : d x.1 = true
  ·rw [if_pos e] at h
   rw [if_pos (h0.1 ▸ e), ← h0.2]
   exact RT.congr l _ w hl h
  ·rw [if_neg e] at h
   rw [if_neg (h0.1 ▸ e)]
   refine h.imp (fun ⟨h1, h2⟩ => ⟨h1, RT.congr l _ w hl h2⟩) fun ⟨h1, h2⟩ => ⟨h1, ?_⟩
   by_cases f : x.2.2 = true
   ·rw [if_pos f] at h2 ⊢
    exact fun w2 hb2 => effUpon_mono (h2 w2 hb2) fun v w3 ⟨h3, h4⟩ => ⟨h3, RT.congr l _ w3 hl h4⟩
   ·rw [if_neg f] at h2 ⊢
    obtain ⟨v, h3, h4⟩ := h2
    exact ⟨v, h3, RT.congr l _ w hl h4⟩
theorem RT.done {ops : Array Oper} {C : World → Prop} {Q : Act → World → Prop} {d : Nat → Bool} {val : Nat → Value} : ∀ (l : DL) (a : Act) (w : World), (∀ x ∈ l, d x.1 = true) → RT P ops C Q d val l a w → Q (actV val d l a) w
 | [], _, w, _, h => h w (Below.refl _ _)
 | x :: l, a, w, hx, h => by
  have h0 := hx x (List.mem_cons_self ..)
  unfold RT at h
  unfold actV
  rw [if_pos h0] at h ⊢
  exact RT.done l _ w (fun y hy => hx y (List.mem_cons_of_mem _ hy)) h
theorem actV_put {val : Nat → Value} {d : Nat → Bool} {dst : Option Tmp} {v : Value} : ∀ (l : DL) (a : Act), (∀ x ∈ l, ∀ s, dst = some s → x.2.1.dst ≠ some s) → actV val d l (a.put dst v) = (actV val d l a).put dst v
 | [], _, _ => rfl
 | x :: l, a, h => by
  unfold actV
  rw [← actV_put l _ fun y hy => h y (List.mem_cons_of_mem _ hy)]
  congr 1
  by_cases e : d x.1 = true
  ·rw [if_pos e, if_pos e]
   exact Act.put_comm a v _ fun s hs => h x (List.mem_cons_self ..) s hs
  ·rw [if_neg e, if_neg e]
theorem actV_congr {val val' : Nat → Value} {d d' : Nat → Bool} : ∀ (l : DL) (a : Act), (∀ x ∈ l, d x.1 = d' x.1 ∧ val x.1 = val' x.1) → actV val d l a = actV val' d' l a
 | [], _, _ => rfl
 | x :: l, a, h => by
  have h0 := h x (List.mem_cons_self ..)
  unfold actV
  rw [← h0.1, ← h0.2]
  exact actV_congr l _ fun y hy => h y (List.mem_cons_of_mem _ hy)
theorem actV_keep {val : Nat → Value} {d : Nat → Bool} {t : Tmp} : ∀ (l : DL) (b : Act), (∀ x ∈ l, x.2.1.dst = some t → d x.1 = false) → (actV val d l b).eval (.tmp t) = b.eval (.tmp t)
 | [], _, _ => rfl
 | x :: l, b, h => by
  unfold actV
  rw [actV_keep l _ fun y hy => h y (List.mem_cons_of_mem _ hy)]
  by_cases e : d x.1 = true
  ·rw [if_pos e]
   cases hx : x.2.1.dst with
   | none => rfl
   | some s =>
    have hne : s ≠ t := fun hst => by
     have := h x (List.mem_cons_self ..) (by rw [hx, hst])
     rw [e] at this; cases this
    rw [put_eval, if_neg (fun k => hne k.1)]
  ·rw [if_neg e]
theorem actV_size {val : Nat → Value} {d : Nat → Bool} : ∀ (l : DL) (b : Act), (actV val d l b).tmps.size = b.tmps.size
 | [], _ => rfl
 | x :: l, b => by
  unfold actV
  rw [actV_size l]
  split
  ·exact put_size _ _ _
  ·rfl
/-- Operation i may come up: what it looks at is there. -/
def Rdy (ops : Array Oper) (d : Nat → Bool) (i : Nat) (o : Oper) (hard : Bool) : DL → Prop
 | [] => False
 | y :: l => (y.1 ≠ i ∧ (∀ s, o.dst = some s → y.2.1.dst ≠ some s) ∧ (∀ s, y.2.1.dst = some s → s ∈ o.looksAt ops → d y.1 = true) ∧ (y.2.2 = true → d y.1 = true) ∧ Rdy ops d i o hard l) ∨
   (y = (i, o, hard) ∧ ∀ z ∈ l, z.1 ≠ i ∧ (∀ s, o.dst = some s → z.2.1.dst ≠ some s) ∧ ∀ s, z.2.1.dst = some s → s ∈ o.looksAt ops → d z.1 = false)
theorem actV_add {ops : Array Oper} {val : Nat → Value} {d : Nat → Bool} {i : Nat} {o : Oper} {hard : Bool} (hd : d i = false) (v : Value) : ∀ (l : DL) (a : Act), Rdy ops d i o hard l → actV (updV val i v) (fun j => j == i || d j) l a = (actV val d l a).put o.dst v
 | [], _, h => h.elim
 | y :: l, a, h => by
  rcases h with ⟨hne, hds, _, _, hr⟩ | ⟨rfl, hz⟩
  ·unfold actV
   rw [updV_other val v hne, show ((y.1 == i) || d y.1) = d y.1 by rw [show (y.1 == i) = false by simpa using hne, Bool.false_or]]
   exact actV_add hd v l _ hr
  ·unfold actV
   rw [if_pos (by simp), updV_same, if_neg (by rw [hd]; decide), actV_congr (val' := val) (d' := d) l _ (fun z hz' => ⟨by rw [show (z.1 == i) = false by simpa using (hz z hz').1, Bool.false_or], updV_other val v (hz z hz').1⟩)]
   exact actV_put l a fun z hz' s hs => (hz z hz').2.1 s hs
theorem rt_step {ops : Array Oper} {C : World → Prop} {Q : Act → World → Prop} {d : Nat → Bool} {val : Nat → Value} {i : Nat} {o : Oper} {hard : Bool} (hd : d i = false) (hC : ∀ w w2, C w → Below w.heap.size w w2 → C w2) (hsel : ∀ cs b, o.op ≠ .select cs b) :
  ∀ (l : DL) (a b : Act) (w : World), C w → RT P ops C Q d val l a w → Rdy ops d i o hard l → a.tmps.size = b.tmps.size → (∀ t, t ∈ o.looksAt ops → a.eval (.tmp t) = b.eval (.tmp t)) →
   (Region.wanted o (yielded ops (actV val d l b).tmps) = false ∧ RT P ops C Q (fun j => j == i || d j) (updV val i undef) l a w) ∨
   (Region.wanted o (yielded ops (actV val d l b).tmps) = true ∧ effUpon P (fun v w2 => C w2 ∧ RT P ops C Q (fun j => j == i || d j) (updV val i v) l a w2) w ((execOp (actV val d l b).eval o).run P w))
 | [], _, _, _, _, _, h, _, _ => h.elim
 | y :: l, a, b, w, hw, h, hr, hz, he => by
  rcases hr with ⟨hne, _, hlk, hhd, hr⟩ | ⟨rfl, hlater⟩
  ·have hdi : ((y.1 == i) || d y.1) = d y.1 := by rw [show (y.1 == i) = false by simpa using hne, Bool.false_or]
   unfold RT at h
   unfold actV
   by_cases e : d y.1 = true
   ·rw [if_pos e] at h
    rw [if_pos e]
    have := rt_step hd hC hsel l (a.put y.2.1.dst (val y.1)) (b.put y.2.1.dst (val y.1)) w hw h hr (by rw [put_size, put_size, hz]) (fun t ht => by
     cases hx : y.2.1.dst with
     | none => exact he t ht
     | some s => rw [put_eval, put_eval, hz, he t ht])
    have lift : ∀ v w2, RT P ops C Q (fun j => j == i || d j) (updV val i v) l (a.put y.2.1.dst (val y.1)) w2 → RT P ops C Q (fun j => j == i || d j) (updV val i v) (y :: l) a w2 := fun v w2 h2 => by
     unfold RT
     rw [if_pos (by rw [hdi]; exact e), updV_other val v hne]
     exact h2
    exact this.imp (fun ⟨h1, h2⟩ => ⟨h1, lift _ _ h2⟩) fun ⟨h1, h2⟩ => ⟨h1, effUpon_mono h2 fun v w2 ⟨h3, h4⟩ => ⟨h3, lift v w2 h4⟩⟩
   ·rw [if_neg e] at h
    rw [if_neg e]
    have hev : ∀ x, ∀ t, t ∈ o.looksAt ops → (a.put y.2.1.dst x).eval (.tmp t) = b.eval (.tmp t) := fun x t ht => by
     cases hx : y.2.1.dst with
     | none => exact he t ht
     | some s =>
      rw [put_eval, if_neg (fun k => e (hlk s hx (by rw [k.1]; exact ht)))]
      exact he t ht
    rcases h with ⟨h1, h2⟩ | ⟨h1, h2⟩
    ·have := rt_step hd hC hsel l (a.put y.2.1.dst undef) b w hw h2 hr (by rw [put_size, hz]) (hev undef)
     have lift : ∀ v w2, RT P ops C Q (fun j => j == i || d j) (updV val i v) l (a.put y.2.1.dst undef) w2 → RT P ops C Q (fun j => j == i || d j) (updV val i v) (y :: l) a w2 := fun v w2 h2 => by
      unfold RT
      rw [if_neg (by rw [hdi]; exact e)]
      exact .inl ⟨h1, h2⟩
     exact this.imp (fun ⟨h1, h2⟩ => ⟨h1, lift _ _ h2⟩) fun ⟨h1, h2⟩ => ⟨h1, effUpon_mono h2 fun v w2 ⟨h3, h4⟩ => ⟨h3, lift v w2 h4⟩⟩
    ·by_cases f : y.2.2 = true
     ·exact absurd (hhd f) e
     ·rw [if_neg f] at h2
      obtain ⟨x, h3, h4⟩ := h2
      have := rt_step hd hC hsel l (a.put y.2.1.dst x) b w hw h4 hr (by rw [put_size, hz]) (hev x)
      have lift : ∀ v w2, RT P ops C Q (fun j => j == i || d j) (updV val i v) l (a.put y.2.1.dst x) w2 → RT P ops C Q (fun j => j == i || d j) (updV val i v) (y :: l) a w2 := fun v w2 h2 => by
       unfold RT
       rw [if_neg (by rw [hdi]; exact e)]
       refine .inr ⟨h1, ?_⟩
       rw [if_neg f]
       exact ⟨x, h3, h2⟩
      exact this.imp (fun ⟨h1, h2⟩ => ⟨h1, lift _ _ h2⟩) fun ⟨h1, h2⟩ => ⟨h1, effUpon_mono h2 fun v w2 ⟨h3, h4⟩ => ⟨h3, lift v w2 h4⟩⟩
  ·have EV : ∀ t, t ∈ o.looksAt ops → (actV val d ((i, o, hard) :: l) b).eval (.tmp t) = a.eval (.tmp t) := fun t ht => by
    unfold actV
    rw [if_neg (by rw [hd]; decide), actV_keep l b (fun z hz' hdst => (hlater z hz').2.2 t hdst ht)]
    exact (he t ht).symm
   have E : execOp (actV val d ((i, o, hard) :: l) b).eval o = execOp a.eval o := by
    refine execOp_congr o hsel fun y hy => ?_
    cases y with
    | tmp t => exact EV t (List.mem_append_left _ (List.mem_filterMap.2 ⟨.tmp t, by simpa using hy, rfl⟩))
    | _ => rfl
   have WW : Region.wanted o (yielded ops (actV val d ((i, o, hard) :: l) b).tmps) = Region.wanted o (yielded ops a.tmps) := by
    refine wanted_same o (by rw [actV_size, hz]) fun g want hg t ht => EV t ?_
    unfold Oper.looksAt
    rw [hg]
    refine List.mem_append_right _ ?_
    show t ∈ ((ops[g]?).bind (·.dst)).toList
    rw [ht]
    exact List.mem_singleton.2 rfl
   rw [E, WW]
   have lift : ∀ v w2, RT P ops C Q d val l (a.put o.dst v) w2 → RT P ops C Q (fun j => j == i || d j) (updV val i v) ((i, o, hard) :: l) a w2 := fun v w2 h2 => by
    unfold RT
    rw [if_pos (by simp), updV_same]
    exact RT.congr l _ w2 (fun z hz' => ⟨by rw [show (z.1 == i) = false by simpa using (hlater z hz').1, Bool.false_or], (updV_other val v (hlater z hz').1).symm⟩) h2
   unfold RT at h
   rw [if_neg (by rw [hd]; decide)] at h
   rcases h with ⟨h1, h2⟩ | ⟨h1, h2⟩
   ·exact .inl ⟨h1, lift _ _ h2⟩
   ·refine .inr ⟨h1, ?_⟩
    by_cases f : hard = true
    ·rw [if_pos f] at h2
     exact effUpon_mono (h2 w (Below.refl _ _)) fun v w2 ⟨h3, h4⟩ => ⟨h3, lift v w2 h4⟩
    ·rw [if_neg f] at h2
     obtain ⟨v, h3, h4⟩ := h2
     exact effUpon_mono (h3 w hw) fun u w2 ⟨h5, h6⟩ => by
      subst h5
      exact ⟨hC _ _ hw h6, lift u w2 (RT.later l _ w w2 h4 h6)⟩
/-- Operations and which of them are hard, with their places. -/
def mkD : Nat → List Oper → List Bool → DL
 | n, o :: l, f :: fs => (n, o, f) :: mkD (n + 1) l fs
 | _, _, _ => []
theorem mkD_mem : ∀ (n : Nat) (l : List Oper) (fs : List Bool) (x : Nat × Oper × Bool), x ∈ mkD n l fs → n ≤ x.1 ∧ l[x.1 - n]? = some x.2.1 ∧ fs[x.1 - n]? = some x.2.2
 | n, o :: l, f :: fs, x, h => by
  rcases List.mem_cons.1 h with rfl | h
  ·simp
  ·obtain ⟨h1, h2, h3⟩ := mkD_mem (n + 1) l fs x h
   have e : x.1 - n = (x.1 - (n + 1)) + 1 := by omega
   exact ⟨by omega, by rw [e]; simpa using h2, by rw [e]; simpa using h3⟩
 | _, [], _, _, h => by simp [mkD] at h
 | _, _ :: _, [], _, h => by simp [mkD] at h
theorem rdy_mkD {ops : Array Oper} {d : Nat → Bool} {i : Nat} {o : Oper} {hard : Bool} : ∀ (n : Nat) (l : List Oper) (fs : List Bool), n ≤ i → l[i - n]? = some o → fs[i - n]? = some hard →
  (∀ j y f, n ≤ j → l[j - n]? = some y → fs[j - n]? = some f → j ≠ i → (∀ s, o.dst = some s → y.dst ≠ some s) ∧ (∀ s, y.dst = some s → s ∈ o.looksAt ops → (j < i → d j = true) ∧ (i < j → d j = false)) ∧ (f = true → j < i → d j = true)) →
  Rdy ops d i o hard (mkD n l fs)
 | n, x :: l, f :: fs, hn, ho, hf, hc => by
  unfold mkD
  by_cases e : n = i
  ·subst e
   obtain rfl : x = o := by simpa using ho
   obtain rfl : f = hard := by simpa using hf
   refine .inr ⟨rfl, fun z hz => ?_⟩
   obtain ⟨h1, h2, h3⟩ := mkD_mem (n + 1) l fs z hz
   have e : z.1 - n = (z.1 - (n + 1)) + 1 := by omega
   have := hc z.1 z.2.1 z.2.2 (by omega) (by rw [e]; simpa using h2) (by rw [e]; simpa using h3) (by omega)
   exact ⟨by omega, this.1, fun s hs hl => (this.2.1 s hs hl).2 (by omega)⟩
  ·have h0 := hc n x f (Nat.le_refl _) (by simp) (by simp) e
   refine .inl ⟨e, h0.1, fun s hs hl => (h0.2.1 s hs hl).1 (by omega), fun hh => h0.2.2 hh (by omega), ?_⟩
   have ei : i - n = (i - (n + 1)) + 1 := by omega
   refine rdy_mkD (n + 1) l fs (by omega) (by rw [ei] at ho; simpa using ho) (by rw [ei] at hf; simpa using hf) fun j y f' hj hy hf' hne => ?_
   have ej : j - n = (j - (n + 1)) + 1 := by omega
   exact hc j y f' (by omega) (by rw [ej]; simpa using hy) (by rw [ej]; simpa using hf') hne
 | _, [], _, _, ho, _, _ => by simp at ho
 | _, _ :: _, [], _, _, hf, _ => by simp at hf
def opsS (l : List Oper) : List (Oper × Sp) := l.map fun o => (o, skipS)
def chkPairD (ops : Array Oper) (z : List (Oper × Sp)) (x : Oper) (i : Nat) (y : Oper) (f : Bool) (j : Nat) : Bool :=
 j == i || ((match y.dst with
  | none => true
  | some s => x.dst != some s && (!(x.looksAt ops).contains s || ((decide (j < i) && reach z z.length i j) || (decide (i < j) && reach z z.length j i)))) &&
 (!f || !decide (j < i) || reach z z.length i j))
def chkD (l : List Oper) (fs : List Bool) : Bool :=
 l.length == fs.length && l.zipIdx.all fun (x : Oper × Nat) => (match x.1.op with | .select _ _ => false | _ => true) && (x.1.after.all fun e => !Region.binds .any e || decide (e.on < x.2)) &&
  (l.zip fs).zipIdx.all fun (u : (Oper × Bool) × Nat) => chkPairD l.toArray (opsS l) x.1 x.2 u.1.1 u.1.2 u.2
structure DW (P : Program) (ops : Array Oper) (C : World → Prop) (Q : Act → World → Prop) (n : Nat) (l : List Oper) (fs : List Bool) (a : Act) (w : World) : Prop where
 out : RT P ops C Q (fun _ => false) (fun _ => undef) (mkD n l fs) a w
theorem wp_region_dw {id : Nat} {l : List Oper} {a : Act} {W : World} {Q : Exit → Act → World → Prop} (hm : P.follows .mixedOrders = true) (C : World → Prop) (hC : ∀ w w2, C w → Below w.heap.size w w2 → C w2) (h0 : C W) (fs : List Bool)
  (h : DW P l.toArray C (Q .normal) 0 l fs a W) (hchk : chkD l fs = true) : (Code.region id l.toArray true).wp P Q a W := by
 unfold chkD at hchk
 rw [Bool.and_eq_true] at hchk
 obtain ⟨hlen, hall⟩ := hchk
 have hlen : l.length = fs.length := by simpa using hlen
 have hA : ∀ i o, l[i]? = some o → (∀ cs b, o.op ≠ .select cs b) ∧ (∀ e ∈ o.after, Region.binds .any e = true → e.on < i) ∧ ∀ j y f, l[j]? = some y → fs[j]? = some f → chkPairD l.toArray (opsS l) o i y f j = true := by
  intro i o ho
  have h1 : (o, i) ∈ l.zipIdx := by rw [List.mem_zipIdx_iff_getElem?]; exact ho
  have h2 := List.all_eq_true.1 hall _ h1
  simp only [Bool.and_eq_true] at h2
  obtain ⟨⟨a1, a2⟩, a3⟩ := h2
  refine ⟨fun cs b e => (by rw [e] at a1; cases a1), fun e he hb => ?_, fun j y f hy hf => ?_⟩
  ·have := Array.all_eq_true_iff_forall_mem.1 a2 e he
   rw [hb] at this
   simpa using this
  ·have h3 : ((y, f), j) ∈ (l.zip fs).zipIdx := by
    rw [List.mem_zipIdx_iff_getElem?, List.getElem?_zip_eq_some]
    exact ⟨hy, hf⟩
   exact List.all_eq_true.1 a3 _ h3
 have hS : ∀ i o, l[i]? = some o → (opsS l)[i]? = some (o, skipS) := fun i o ho => by
  unfold opsS
  rw [List.getElem?_map, ho]; rfl
 refine wp_region_inv hm (fun d a' w' => C w' ∧ ∃ val, a' = actV val d (mkD 0 l fs) a ∧ RT P l.toArray C (Q .normal) d val (mkD 0 l fs) a w' ∧
  (∀ i (x : Oper × Sp), (opsS l)[i]? = some x → d i = true → ∀ e ∈ x.1.after, Region.binds .any e = true → d e.on = true)) ?lex ?start ?step ?fin
 case lex =>
  rw [List.all_eq_true]
  intro x hx
  obtain ⟨_, h3, _⟩ := hA x.2 x.1 (List.mem_zipIdx_iff_getElem?.1 hx)
  rw [Array.all_eq_true_iff_forall_mem]
  intro e he
  cases hb : Region.binds .any e
  ·rfl
  ·simpa using h3 e he hb
 case start =>
  have hb : Below W.heap.size W W.drew := (Below.refl _ _).drew
  refine ⟨hC _ _ h0 hb, fun _ => undef, ?_, RT.later _ _ _ _ h.out hb, fun i x _ hd => by cases hd⟩
  have : ∀ (L : DL) (b : Act), actV (fun _ => undef) (fun _ => false) L b = b := fun L => by
   induction L with
   | nil => intro b; rfl
   | cons x L ih =>
    intro b
    unfold actV
    rw [if_neg (by decide)]
    exact ih b
  exact (this _ _).symm
 case fin =>
  rintro d a' w' ⟨_, val, rfl, hr, _⟩ hd
  refine RT.done _ _ _ (fun x hx => ?_) hr
  obtain ⟨_, h2, _⟩ := mkD_mem 0 l fs x hx
  rw [Nat.sub_zero] at h2
  exact hd x.1 (List.getElem?_eq_some_iff.1 h2).1
 case step =>
  rintro i o ho d a' w' ⟨hw, val, rfl, hr, hcl⟩ hd hpre
  obtain ⟨hsel, _, hpair⟩ := hA i o ho
  have hi : i < l.length := (List.getElem?_eq_some_iff.1 ho).1
  obtain ⟨hard, hhard⟩ : ∃ f, fs[i]? = some f := ⟨fs[i]'(by omega), List.getElem?_eq_getElem (by omega)⟩
  have hwait : ∀ j, reach (opsS l) (opsS l).length i j = true → d j = true := fun j hj => reach_pre hcl _ i j _ (hS i o ho) hpre hj
  have hlater : ∀ j y, l[j]? = some y → reach (opsS l) (opsS l).length j i = true → d j = false := fun j y hy hj => by
   cases hdj : d j
   ·rfl
   ·rw [reach_pre hcl _ j i _ (hS j y hy) (hcl j _ (hS j y hy) hdj) hj] at hd; cases hd
  have hrdy : Rdy l.toArray d i o hard (mkD 0 l fs) := by
   refine rdy_mkD 0 l fs (Nat.zero_le _) (by simpa using ho) (by simpa using hhard) fun j y f _ hy hf hne => ?_
   rw [Nat.sub_zero] at hy hf
   have hc := hpair j y f hy hf
   unfold chkPairD at hc
   rw [show (j == i) = false by simpa using hne, Bool.false_or, Bool.and_eq_true] at hc
   refine ⟨fun s hs e => ?_, fun s hs hl => ?_, fun hf' hj => ?_⟩
   ·have h2 := hc.1
    rw [e] at h2
    simp only [Bool.and_eq_true, bne_iff_ne, ne_eq] at h2
    exact h2.1 hs
   ·have h2 := hc.1
    rw [hs] at h2
    simp only [Bool.and_eq_true, Bool.or_eq_true, Bool.not_eq_true', decide_eq_true_eq] at h2
    rcases h2.2 with h3 | ⟨h3, h4⟩ | ⟨h3, h4⟩
    ·rw [List.contains_iff_mem.2 hl] at h3; cases h3
    ·exact ⟨fun _ => hwait j h4, fun h5 => by omega⟩
    ·exact ⟨fun h5 => by omega, fun _ => hlater j y hy h4⟩
   ·have h2 := hc.2
    rw [hf'] at h2
    simp only [Bool.not_true, Bool.false_or, Bool.or_eq_true, Bool.not_eq_true', decide_eq_false_iff_not] at h2
    exact hwait j (h2.resolve_left (fun h3 => h3 hj))
  have hcl' : ∀ i' (x' : Oper × Sp), (opsS l)[i']? = some x' → (i' == i || d i') = true → ∀ e ∈ x'.1.after, Region.binds .any e = true → (e.on == i || d e.on) = true := fun i' x' hx' hd' e he hb => by
   by_cases hii : i' = i
   ·subst hii
    rw [hS _ _ ho] at hx'
    obtain rfl : (o, skipS) = x' := by simpa using hx'
    rw [hpre e he hb, Bool.or_true]
   ·rw [show (i' == i) = false by simpa using hii, Bool.false_or] at hd'
    rw [hcl i' x' hx' hd' e he hb, Bool.or_true]
  rcases rt_step hd hC hsel (mkD 0 l fs) a a w' hw hr hrdy rfl (fun _ _ => rfl) with ⟨h1, h2⟩ | ⟨h1, h2⟩
  ·rw [if_neg (by rw [h1]; decide)]
   exact ⟨hw, updV val i undef, (actV_add hd undef _ _ hrdy).symm, h2, hcl'⟩
  ·rw [if_pos h1]
   exact opw_eff h2 fun v w2 ⟨h3, h4⟩ => ⟨h3, updV val i v, (actV_add hd v _ _ hrdy).symm, h4, hcl'⟩
theorem below_self {B : Nat} {w z : World} (_ : Below B w z) : Below z.heap.size z z := Below.refl _ _
theorem wp_region_dwb {id : Nat} {l : List Oper} {a : Act} {W : World} {Q : Exit → Act → World → Prop} (hm : P.follows .mixedOrders = true) (fs : List Bool) (h : DW P l.toArray (fun x => Below W.heap.size W x) (Q .normal) 0 l fs a W) (hchk : chkD l fs = true) :
  (Code.region id l.toArray true).wp P Q a W :=
 wp_region_dw hm (fun x => Below W.heap.size W x) (fun _ _ h1 h2 => below_on h1 (Nat.le_refl _) h2) (Below.refl _ _) fs h hchk
section
variable {ops : Array Oper} {C : World → Prop} {Q : Act → World → Prop} {n : Nat} {l : List Oper} {fs : List Bool} {a : Act} {w : World} {o : Oper}
theorem run_enter {fn : Func} (f : FuncId) (args : Array Operand) (ts : Array TypeId) (ho : o.op = .call { callee := .value (.func f), args := args, argTypes := ts }) (hf : P.funcs[f]? = some fn) (hb : (fn.name == "runtime.NumGoroutine" || fn.body.isNone) = false)
  (vs : Array Value) (hv' : args.toList.map a.eval = vs.toList) (w : World) : (execOp a.eval o).run P w = .ok (.enter f vs) w := by
 have hv : args.map a.eval = vs := by apply Array.toList_inj.1; rw [Array.toList_map]; exact hv'
 have hr := run_callFunc_body (P := P) hf hb vs w
 unfold execOp
 simp only [ho, resolve, hv, Act.eval]
 simp [Deferred.ofValue, invoke, hr]
theorem dw_nil (h : ∀ w2, Below w.heap.size w w2 → Q a w2) : DW P ops C Q n [] [] a w := ⟨h⟩
theorem dw_skip {f : Bool} (hw : Region.wanted o (yielded ops a.tmps) = false) (h : DW P ops C Q (n + 1) l fs (a.put o.dst undef) w) : DW P ops C Q n (o :: l) (f :: fs) a w :=
 ⟨.inl ⟨hw, h.out⟩⟩
theorem dw_quiet (hw : Region.wanted o (yielded ops a.tmps) = true) (v : Value) (hr : ∀ w2, C w2 → effUpon P (fun u w3 => u = v ∧ Below w2.heap.size w2 w3) w2 ((execOp a.eval o).run P w2)) (h : DW P ops C Q (n + 1) l fs (a.put o.dst v) w) : DW P ops C Q n (o :: l) (false :: fs) a w :=
 ⟨.inr ⟨hw, v, hr, h.out⟩⟩
theorem dw_hard (hw : Region.wanted o (yielded ops a.tmps) = true) (h : ∀ w2, Below w.heap.size w w2 → effUpon P (fun v w3 => C w3 ∧ DW P ops C Q (n + 1) l fs (a.put o.dst v) w3) w2 ((execOp a.eval o).run P w2)) : DW P ops C Q n (o :: l) (true :: fs) a w :=
 ⟨.inr ⟨hw, fun w2 hb => effUpon_mono (h w2 hb) fun _ _ ⟨h1, h2⟩ => ⟨h1, h2.out⟩⟩⟩
theorem dw_value (hw : Region.wanted o (yielded ops a.tmps) = true) (v : Value) (hr : ∀ w, (execOp a.eval o).run P w = .ok (.value v) w) (h : DW P ops C Q (n + 1) l fs (a.put o.dst v) w) : DW P ops C Q n (o :: l) (false :: fs) a w :=
 dw_quiet hw v (fun w2 _ => by rw [hr]; exact ⟨rfl, Below.refl _ _⟩) h
theorem dw_valK (hw : Region.wanted o (yielded ops a.tmps) = true) (v : Value) (hr : ∀ w, C w → (execOp a.eval o).run P w = .ok (.value v) w) (h : DW P ops C Q (n + 1) l fs (a.put o.dst v) w) : DW P ops C Q n (o :: l) (false :: fs) a w :=
 dw_quiet hw v (fun w2 hc => by rw [hr w2 hc]; exact ⟨rfl, Below.refl _ _⟩) h
theorem dw_mv {t : Tmp} {v : Value} (hw : Region.wanted o (yielded ops a.tmps) = true) (ho : o.op = .move (.tmp t)) (hx : a.tmps.toList[t]? = some v) (h : DW P ops C Q (n + 1) l fs (a.put o.dst v) w) : DW P ops C Q n (o :: l) (false :: fs) a w :=
 dw_value hw v (fun w => by unfold execOp; rw [ho]; simp only [eval_at hx]; rfl) h
theorem dw_as {t : Tmp} {v : Value} (hw : Region.wanted o (yielded ops a.tmps) = true) (ho : o.op = .assign (.tmp t)) (hx : a.tmps.toList[t]? = some v) (h : DW P ops C Q (n + 1) l fs (a.put o.dst v) w) : DW P ops C Q n (o :: l) (false :: fs) a w :=
 dw_value hw v (fun w => by unfold execOp; rw [ho]; simp only [eval_at hx]; rfl) h
theorem dw_ext {x : Operand} {i : Nat} {vs : Array Value} {v : Value} (hw : Region.wanted o (yielded ops a.tmps) = true) (ho : o.op = .extract x i) (hx : a.eval x = .tuple vs) (hv : vs.toList[i]? = some v) (h : DW P ops C Q (n + 1) l fs (a.put o.dst v) w) : DW P ops C Q n (o :: l) (false :: fs) a w := by
 have hv' : vs[i]? = some v := by rw [← Array.getElem?_toList]; exact hv
 refine dw_value hw v (fun w => ?_) h
 unfold execOp
 rw [ho]
 simp only [hx, Instr.extract]
 simp [hv']
theorem dw_pick (hw : Region.wanted o (yielded ops a.tmps) = true) {c x y : Operand} (b : Bool) {v : Value} (ho : o.op = .pick c x y) (hc : a.eval c = .bool b) (hv : a.eval (if b then x else y) = v) (h : DW P ops C Q (n + 1) l fs (a.put o.dst v) w) : DW P ops C Q n (o :: l) (false :: fs) a w := by
 refine dw_value hw v (fun w => ?_) h
 subst hv
 unfold execOp
 rw [ho]
 simp only [hc]
 cases b <;> rfl
/-- A quiet call: one value in every world of the class. -/
theorem dw_call {fn : Func} (hw : Region.wanted o (yielded ops a.tmps) = true) (f : FuncId) (args : Array Operand) (ts : Array TypeId)
  (ho : o.op = .call { callee := .value (.func f), args := args, argTypes := ts }) (hf : P.funcs[f]? = some fn) (hb : (fn.name == "runtime.NumGoroutine" || fn.body.isNone) = false)
  (vs : Array Value) (hv' : args.toList.map a.eval = vs.toList) (v : Value) (hc : ∀ w, C w → Calls P f vs w fun e w' => e = .returned v ∧ Below w.heap.size w w')
  (h : DW P ops C Q (n + 1) l fs (a.put o.dst v) w) : DW P ops C Q n (o :: l) (false :: fs) a w :=
 dw_quiet hw v (fun w2 hcw => by
  rw [run_enter f args ts ho hf hb vs hv' w2]
  exact ⟨rfl, (hc w2 hcw).mono fun e w' ⟨h1, h2⟩ => ⟨v, h1, rfl, h2⟩⟩) h
/-- A call whose outcome is told as it comes. -/
theorem dw_callE {fn : Func} (hw : Region.wanted o (yielded ops a.tmps) = true) (f : FuncId) (args : Array Operand) (ts : Array TypeId)
  (ho : o.op = .call { callee := .value (.func f), args := args, argTypes := ts }) (hf : P.funcs[f]? = some fn) (hb : (fn.name == "runtime.NumGoroutine" || fn.body.isNone) = false)
  (vs : Array Value) (hv' : args.toList.map a.eval = vs.toList)
  (h : ∀ w2, Below w.heap.size w w2 → Calls P f vs w2 fun e w' => ∃ v, e = .returned v ∧ C w' ∧ DW P ops C Q (n + 1) l fs (a.put o.dst v) w') : DW P ops C Q n (o :: l) (true :: fs) a w :=
 dw_hard hw fun w2 hb2 => by
  rw [run_enter f args ts ho hf hb vs hv' w2]
  exact ⟨rfl, (h w2 hb2).mono fun e w' ⟨v, h1, h2, h3⟩ => ⟨v, h1, h2, h3⟩⟩
/-- A load out of a row that every world of the class holds. -/
theorem dw_loadm (hw : Region.wanted o (yielded ops a.tmps) = true) (ty : TypeId) (x : Operand) (ho : o.op = .load ty x) (g off : Nat) (hx : a.eval x = .pointer (some ⟨g, off, none⟩)) {t : TypeId} {cs : Array Value} (hg : ∀ w, C w → RowR w g cs t)
  (sub : Array Value) (hs : ∀ j v, sub.toList[j]? = some v → cs[off + j]? = some v) (d : TypeDesc) (hu : P.underlying ty = some d) (hd : d.isRow = true) (hi : (P.info? ty).map (·.size) = some sub.size)
  (h : DW P ops C Q (n + 1) l fs (a.put o.dst (.agg sub)) w) : DW P ops C Q n (o :: l) (false :: fs) a w :=
 dw_valK hw _ (fun w2 hc => run_load_mid ty x ho g off hx (hg w2 hc) sub hs d hu hd hi) h
theorem dw_loadk (hw : Region.wanted o (yielded ops a.tmps) = true) (ty : TypeId) (x : Operand) (ho : o.op = .load ty x) (g i : Nat) (hx : a.eval x = .pointer (some ⟨g, i, none⟩)) {t : TypeId} {cs : Array Value} (hg : ∀ w, C w → RowR w g cs t) (v : Value) (hc : cs[i]? = some v)
  (ha : ∀ w, (isAgg ty).run P w = .ok false w) (h : DW P ops C Q (n + 1) l fs (a.put o.dst v) w) : DW P ops C Q n (o :: l) (false :: fs) a w := by
 refine dw_valK hw v (fun w2 hc2 => ?_) h
 unfold execOp
 simp only [ho, hx, Instr.loadAt, Instr.sureAddr, Sem.run_bind, Sem.run_pure, Result.andThen_ok, run_load_cell w2 g i ty v ha (((hg w2 hc2).cell i).trans hc)]
end
end
end Go.Proofs.Ytdgbjmolinoplaa
/- A region that draws its order, walked in an order of one's own: quiet operations, hard ones whose outcome is told as it comes, and last ones that wait for all quiet ones (stores). -/
namespace Go.Proofs.Ytdgbjmolinoplaa
open Go.RowKit
section
variable {P : Program}
/-- What is still owed, where some operations are done already. -/
def RE (P : Program) (ops : Array Oper) (C : World → Prop) (Q : Act → World → Prop) (fn : Nat → Bool) (d : Nat → Bool) (val : Nat → Value) : DL → Act → World → Prop
 | [], a, w => ∀ w2, Below w.heap.size w w2 → Q a w2
 | x :: l, a, w =>
  if d x.1 = true then RE P ops C Q fn d val l (a.put x.2.1.dst (val x.1)) w
  else (Region.wanted x.2.1 (yielded ops a.tmps) = false ∧ RE P ops C Q fn d val l (a.put x.2.1.dst undef) w) ∨
   (Region.wanted x.2.1 (yielded ops a.tmps) = true ∧
    if x.2.2 = true then ∀ w2, Below w.heap.size w w2 → effUpon P (fun v w3 => (fn x.1 = false → C w3) ∧ RE P ops C Q fn d val l (a.put x.2.1.dst v) w3) w2 ((execOp a.eval x.2.1).run P w2)
    else ∃ v, (∀ w2, C w2 → effUpon P (fun u w3 => u = v ∧ Below w2.heap.size w2 w3) w2 ((execOp a.eval x.2.1).run P w2)) ∧ RE P ops C Q fn d val l (a.put x.2.1.dst v) w)
theorem RE.later {ops : Array Oper} {C : World → Prop} {Q : Act → World → Prop} {fn : Nat → Bool} {d : Nat → Bool} {val : Nat → Value} : ∀ (l : DL) (a : Act) (w w' : World), RE P ops C Q fn d val l a w → Below w.heap.size w w' → RE P ops C Q fn d val l a w'
 | [], _, _, _, h, hb => fun w2 h2 => h w2 (below_on hb (Nat.le_refl _) h2)
 | x :: l, a, w, w', h, hb => by
  unfold RE at h ⊢
  by_cases e : d x.1 = true
  ·rw [if_pos e] at h ⊢
   exact RE.later l _ w w' h hb
  ·rw [if_neg e] at h ⊢
   refine h.imp (fun ⟨h1, h2⟩ => ⟨h1, RE.later l _ w w' h2 hb⟩) fun ⟨h1, h2⟩ => ⟨h1, ?_⟩
   by_cases f : x.2.2 = true
   ·rw [if_pos f] at h2 ⊢
    exact fun w2 hb2 => h2 w2 (below_on hb (Nat.le_refl _) hb2)
   ·rw [if_neg f] at h2 ⊢
    obtain ⟨v, h3, h4⟩ := h2
    exact ⟨v, h3, RE.later l _ w w' h4 hb⟩
theorem RE.congr {ops : Array Oper} {C : World → Prop} {Q : Act → World → Prop} {fn : Nat → Bool} {d d' : Nat → Bool} {val val' : Nat → Value} : ∀ (l : DL) (a : Act) (w : World), (∀ x ∈ l, d x.1 = d' x.1 ∧ val x.1 = val' x.1) → RE P ops C Q fn d val l a w → RE P ops C Q fn d' val' l a w
 | [], _, _, _, h => h
 | x :: l, a, w, hx, h => by
  have h0 := hx x (List.mem_cons_self ..)
  have hl : ∀ y ∈ l, d y.1 = d' y.1 ∧ val y.1 = val' y.1 := fun y hy => hx y (List.mem_cons_of_mem _ hy)
  unfold RE at h ⊢
  by_cases e : d x.1 = true
  ·rw [if_pos e] at h
   rw [if_pos (h0.1 ▸ e), ← h0.2]
   exact RE.congr l _ w hl h
  ·rw [if_neg e] at h
   rw [if_neg (h0.1 ▸ e)]
   refine h.imp (fun ⟨h1, h2⟩ => ⟨h1, RE.congr l _ w hl h2⟩) fun ⟨h1, h2⟩ => ⟨h1, ?_⟩
   by_cases f : x.2.2 = true
   ·rw [if_pos f] at h2 ⊢
    exact fun w2 hb2 => effUpon_mono (h2 w2 hb2) fun v w3 ⟨h3, h4⟩ => ⟨h3, RE.congr l _ w3 hl h4⟩
   ·rw [if_neg f] at h2 ⊢
    obtain ⟨v, h3, h4⟩ := h2
    exact ⟨v, h3, RE.congr l _ w hl h4⟩
theorem RE.done {ops : Array Oper} {C : World → Prop} {Q : Act → World → Prop} {fn : Nat → Bool} {d : Nat → Bool} {val : Nat → Value} : ∀ (l : DL) (a : Act) (w : World), (∀ x ∈ l, d x.1 = true) → RE P ops C Q fn d val l a w → Q (actV val d l a) w
 | [], _, w, _, h => h w (Below.refl _ _)
 | x :: l, a, w, hx, h => by
  have h0 := hx x (List.mem_cons_self ..)
  unfold RE at h
  unfold actV
  rw [if_pos h0] at h ⊢
  exact RE.done l _ w (fun y hy => hx y (List.mem_cons_of_mem _ hy)) h
theorem re_step {ops : Array Oper} {C : World → Prop} {Q : Act → World → Prop} {fn : Nat → Bool} {d : Nat → Bool} {val : Nat → Value} {i : Nat} {o : Oper} {hard : Bool} (hd : d i = false) (hC : ∀ w w2, C w → Below w.heap.size w w2 → C w2) (hsel : ∀ cs b, o.op ≠ .select cs b) :
  ∀ (l : DL) (a b : Act) (w : World), (hard = false → C w) → RE P ops C Q fn d val l a w → Rdy ops d i o hard l → a.tmps.size = b.tmps.size → (∀ t, t ∈ o.looksAt ops → a.eval (.tmp t) = b.eval (.tmp t)) →
   (Region.wanted o (yielded ops (actV val d l b).tmps) = false ∧ RE P ops C Q fn (fun j => j == i || d j) (updV val i undef) l a w) ∨
   (Region.wanted o (yielded ops (actV val d l b).tmps) = true ∧ effUpon P (fun v w2 => (fn i = false → C w2) ∧ RE P ops C Q fn (fun j => j == i || d j) (updV val i v) l a w2) w ((execOp (actV val d l b).eval o).run P w))
 | [], _, _, _, _, _, h, _, _ => h.elim
 | y :: l, a, b, w, hw, h, hr, hz, he => by
  rcases hr with ⟨hne, _, hlk, hhd, hr⟩ | ⟨rfl, hlater⟩
  ·have hdi : ((y.1 == i) || d y.1) = d y.1 := by rw [show (y.1 == i) = false by simpa using hne, Bool.false_or]
   unfold RE at h
   unfold actV
   by_cases e : d y.1 = true
   ·rw [if_pos e] at h
    rw [if_pos e]
    have := re_step hd hC hsel l (a.put y.2.1.dst (val y.1)) (b.put y.2.1.dst (val y.1)) w hw h hr (by rw [put_size, put_size, hz]) (fun t ht => by
     cases hx : y.2.1.dst with
     | none => exact he t ht
     | some s => rw [put_eval, put_eval, hz, he t ht])
    have lift : ∀ v w2, RE P ops C Q fn (fun j => j == i || d j) (updV val i v) l (a.put y.2.1.dst (val y.1)) w2 → RE P ops C Q fn (fun j => j == i || d j) (updV val i v) (y :: l) a w2 := fun v w2 h2 => by
     unfold RE
     rw [if_pos (by rw [hdi]; exact e), updV_other val v hne]
     exact h2
    exact this.imp (fun ⟨h1, h2⟩ => ⟨h1, lift _ _ h2⟩) fun ⟨h1, h2⟩ => ⟨h1, effUpon_mono h2 fun v w2 ⟨h3, h4⟩ => ⟨h3, lift v w2 h4⟩⟩
   ·rw [if_neg e] at h
    rw [if_neg e]
    have hev : ∀ x, ∀ t, t ∈ o.looksAt ops → (a.put y.2.1.dst x).eval (.tmp t) = b.eval (.tmp t) := fun x t ht => by
     cases hx : y.2.1.dst with
     | none => exact he t ht
     | some s =>
      rw [put_eval, if_neg (fun k => e (hlk s hx (by rw [k.1]; exact ht)))]
      exact he t ht
    rcases h with ⟨h1, h2⟩ | ⟨h1, h2⟩
    ·have := re_step hd hC hsel l (a.put y.2.1.dst undef) b w hw h2 hr (by rw [put_size, hz]) (hev undef)
     have lift : ∀ v w2, RE P ops C Q fn (fun j => j == i || d j) (updV val i v) l (a.put y.2.1.dst undef) w2 → RE P ops C Q fn (fun j => j == i || d j) (updV val i v) (y :: l) a w2 := fun v w2 h2 => by
      unfold RE
      rw [if_neg (by rw [hdi]; exact e)]
      exact .inl ⟨h1, h2⟩
     exact this.imp (fun ⟨h1, h2⟩ => ⟨h1, lift _ _ h2⟩) fun ⟨h1, h2⟩ => ⟨h1, effUpon_mono h2 fun v w2 ⟨h3, h4⟩ => ⟨h3, lift v w2 h4⟩⟩
    ·by_cases f : y.2.2 = true
     ·exact absurd (hhd f) e
     ·rw [if_neg f] at h2
      obtain ⟨x, h3, h4⟩ := h2
      have := re_step hd hC hsel l (a.put y.2.1.dst x) b w hw h4 hr (by rw [put_size, hz]) (hev x)
      have lift : ∀ v w2, RE P ops C Q fn (fun j => j == i || d j) (updV val i v) l (a.put y.2.1.dst x) w2 → RE P ops C Q fn (fun j => j == i || d j) (updV val i v) (y :: l) a w2 := fun v w2 h2 => by
       unfold RE
       rw [if_neg (by rw [hdi]; exact e)]
       refine .inr ⟨h1, ?_⟩
       rw [if_neg f]
       exact ⟨x, h3, h2⟩
      exact this.imp (fun ⟨h1, h2⟩ => ⟨h1, lift _ _ h2⟩) fun ⟨h1, h2⟩ => ⟨h1, effUpon_mono h2 fun v w2 ⟨h3, h4⟩ => ⟨h3, lift v w2 h4⟩⟩
  ·have EV : ∀ t, t ∈ o.looksAt ops → (actV val d ((i, o, hard) :: l) b).eval (.tmp t) = a.eval (.tmp t) := fun t ht => by
    unfold actV
    rw [if_neg (by rw [hd]; decide), actV_keep l b (fun z hz' hdst => (hlater z hz').2.2 t hdst ht)]
    exact (he t ht).symm
   have E : execOp (actV val d ((i, o, hard) :: l) b).eval o = execOp a.eval o := by
    refine execOp_congr o hsel fun y hy => ?_
    cases y with
    | tmp t => exact EV t (List.mem_append_left _ (List.mem_filterMap.2 ⟨.tmp t, by simpa using hy, rfl⟩))
    | _ => rfl
   have WW : Region.wanted o (yielded ops (actV val d ((i, o, hard) :: l) b).tmps) = Region.wanted o (yielded ops a.tmps) := by
    refine wanted_same o (by rw [actV_size, hz]) fun g want hg t ht => EV t ?_
    unfold Oper.looksAt
    rw [hg]
    refine List.mem_append_right _ ?_
    show t ∈ ((ops[g]?).bind (·.dst)).toList
    rw [ht]
    exact List.mem_singleton.2 rfl
   rw [E, WW]
   have lift : ∀ v w2, RE P ops C Q fn d val l (a.put o.dst v) w2 → RE P ops C Q fn (fun j => j == i || d j) (updV val i v) ((i, o, hard) :: l) a w2 := fun v w2 h2 => by
    unfold RE
    rw [if_pos (by simp), updV_same]
    exact RE.congr l _ w2 (fun z hz' => ⟨by rw [show (z.1 == i) = false by simpa using (hlater z hz').1, Bool.false_or], (updV_other val v (hlater z hz').1).symm⟩) h2
   unfold RE at h
   rw [if_neg (by rw [hd]; decide)] at h
   rcases h with ⟨h1, h2⟩ | ⟨h1, h2⟩
   ·exact .inl ⟨h1, lift _ _ h2⟩
   ·refine .inr ⟨h1, ?_⟩
    by_cases f : hard = true
    ·rw [if_pos f] at h2
     exact effUpon_mono (h2 w (Below.refl _ _)) fun v w2 ⟨h3, h4⟩ => ⟨h3, lift v w2 h4⟩
    ·rw [if_neg f] at h2
     obtain ⟨v, h3, h4⟩ := h2
     exact effUpon_mono (h3 w (hw (Bool.eq_false_iff.2 f))) fun u w2 ⟨h5, h6⟩ => by
      subst h5
      exact ⟨fun _ => hC _ _ (hw (Bool.eq_false_iff.2 f)) h6, lift u w2 (RE.later l _ w w2 h4 h6)⟩
/-- The operations in the order that they are walked in, by their places. -/
def mkL (l : List Oper) : List (Nat × Bool) → DL
 | [] => []
 | (i, f) :: r => match l[i]? with
  | some o => (i, o, f) :: mkL l r
  | none => mkL l r
theorem mkL_mem {l : List Oper} : ∀ (r : List (Nat × Bool)) (x : Nat × Oper × Bool), x ∈ mkL l r → l[x.1]? = some x.2.1 ∧ (x.1, x.2.2) ∈ r
 | [], x, h => by simp [mkL] at h
 | (i, f) :: r, x, h => by
  unfold mkL at h
  split at h
  ·next o ho =>
   rcases List.mem_cons.1 h with rfl | h
   ·exact ⟨ho, List.mem_cons_self ..⟩
   ·exact ⟨(mkL_mem r x h).1, List.mem_cons_of_mem _ (mkL_mem r x h).2⟩
  ·exact ⟨(mkL_mem r x h).1, List.mem_cons_of_mem _ (mkL_mem r x h).2⟩
def waitsFor (z : List (Oper × Sp)) (i j : Nat) : Bool := reach z z.length i j
def chkR (ops : Array Oper) (z : List (Oper × Sp)) (i : Nat) (o : Oper) : DL → Bool
 | [] => false
 | y :: l =>
  if y.1 == i then l.all fun u => u.1 != i && (match u.2.1.dst with | none => true | some s => o.dst != some s && (!(o.looksAt ops).contains s || waitsFor z u.1 i))
  else (match y.2.1.dst with | none => true | some s => o.dst != some s && (!(o.looksAt ops).contains s || waitsFor z i y.1)) && (!y.2.2 || waitsFor z i y.1) && chkR ops z i o l
def chkE (l : List Oper) (fs : List Nat) (r : List (Nat × Bool)) : Bool :=
 l.zipIdx.all fun (x : Oper × Nat) => (match x.1.op with | .select _ _ => false | _ => true) && (x.1.after.all fun e => !Region.binds .any e || decide (e.on < x.2)) && chkR l.toArray (opsS l) x.2 x.1 (mkL l r) &&
  (!fs.contains x.2 || r.all fun u => u.2 || waitsFor (opsS l) x.2 u.1)
theorem rdy_chkR {l : List Oper} {d : Nat → Bool} {i : Nat} {o : Oper} {z : List (Oper × Sp)} (ho : l[i]? = some o) (hwait : ∀ j, waitsFor z i j = true → d j = true) (hlater : ∀ j y, l[j]? = some y → waitsFor z j i = true → d j = false) :
  ∀ L : DL, (∀ x ∈ L, l[x.1]? = some x.2.1) → chkR l.toArray z i o L = true → ∃ hard, Rdy l.toArray d i o hard L ∧ (i, o, hard) ∈ L
 | [], _, h => by simp [chkR] at h
 | y :: L, hL, h => by
  unfold chkR at h
  by_cases e : y.1 = i
  ·rw [if_pos (by simpa using e)] at h
   have hy := hL y (List.mem_cons_self ..)
   rw [e, ho] at hy
   obtain ⟨j, p, f⟩ := y
   obtain rfl : j = i := e
   obtain rfl : o = p := by simpa using hy
   refine ⟨f, .inr ⟨rfl, fun u hu => ?_⟩, List.mem_cons_self ..⟩
   have h1 := List.all_eq_true.1 h u hu
   rw [Bool.and_eq_true] at h1
   refine ⟨by simpa using h1.1, fun s hs e => ?_, fun s hs hl => ?_⟩
   ·have h2 := h1.2
    rw [e] at h2
    simp only [Bool.and_eq_true, bne_iff_ne, ne_eq] at h2
    exact h2.1 hs
   ·have h2 := h1.2
    rw [hs] at h2
    simp only [Bool.and_eq_true, Bool.or_eq_true, Bool.not_eq_true'] at h2
    rcases h2.2 with h3 | h3
    ·rw [List.contains_iff_mem.2 hl] at h3; cases h3
    ·exact hlater u.1 u.2.1 (hL u (List.mem_cons_of_mem _ hu)) h3
  ·rw [if_neg (by simpa using e)] at h
   simp only [Bool.and_eq_true] at h
   obtain ⟨⟨h1, h2⟩, h3⟩ := h
   obtain ⟨hard, hr, hm⟩ := rdy_chkR ho hwait hlater L (fun x hx => hL x (List.mem_cons_of_mem _ hx)) h3
   refine ⟨hard, .inl ⟨e, fun s hs e' => ?_, fun s hs hl => ?_, fun hh => ?_, hr⟩, List.mem_cons_of_mem _ hm⟩
   ·rw [e'] at h1
    simp only [Bool.and_eq_true, bne_iff_ne, ne_eq] at h1
    exact h1.1 hs
   ·rw [hs] at h1
    simp only [Bool.and_eq_true, Bool.or_eq_true, Bool.not_eq_true'] at h1
    rcases h1.2 with h4 | h4
    ·rw [List.contains_iff_mem.2 hl] at h4; cases h4
    ·exact hwait y.1 h4
   ·rw [hh] at h2
    exact hwait y.1 (by simpa using h2)
structure EW (P : Program) (ops : Array Oper) (C : World → Prop) (Q : Act → World → Prop) (fn : Nat → Bool) (L : DL) (a : Act) (w : World) : Prop where
 out : RE P ops C Q fn (fun _ => false) (fun _ => undef) L a w
theorem wp_region_ew {id : Nat} {l : List Oper} {a : Act} {W : World} {Q : Exit → Act → World → Prop} (hm : P.follows .mixedOrders = true) (C : World → Prop) (hC : ∀ w w2, C w → Below w.heap.size w w2 → C w2) (h0 : C W) (fs : List Nat) (r : List (Nat × Bool))
  (h : EW P l.toArray C (Q .normal) (fun i => fs.contains i) (mkL l r) a W) (hchk : chkE l fs r = true) : (Code.region id l.toArray true).wp P Q a W := by
 unfold chkE at hchk
 have hA : ∀ i o, l[i]? = some o → (∀ cs b, o.op ≠ .select cs b) ∧ (∀ e ∈ o.after, Region.binds .any e = true → e.on < i) ∧ chkR l.toArray (opsS l) i o (mkL l r) = true ∧ (fs.contains i = true → ∀ u ∈ r, u.2 = true ∨ waitsFor (opsS l) i u.1 = true) := by
  intro i o ho
  have h1 : (o, i) ∈ l.zipIdx := by rw [List.mem_zipIdx_iff_getElem?]; exact ho
  have h2 := List.all_eq_true.1 hchk _ h1
  simp only [Bool.and_eq_true] at h2
  obtain ⟨⟨⟨a1, a2⟩, a3⟩, a4⟩ := h2
  refine ⟨fun cs b e => (by rw [e] at a1; cases a1), fun e he hb => ?_, a3, fun hf u hu => ?_⟩
  ·have := Array.all_eq_true_iff_forall_mem.1 a2 e he
   rw [hb] at this
   simpa using this
  ·rw [hf] at a4
   simp only [Bool.not_true, Bool.false_or] at a4
   have := List.all_eq_true.1 a4 u hu
   simpa using this
 have hS : ∀ i o, l[i]? = some o → (opsS l)[i]? = some (o, skipS) := fun i o ho => by
  unfold opsS
  rw [List.getElem?_map, ho]; rfl
 refine wp_region_inv hm (fun d a' w' => (∀ x ∈ mkL l r, x.2.2 = false → d x.1 = false → C w') ∧ ∃ val, a' = actV val d (mkL l r) a ∧ RE P l.toArray C (Q .normal) (fun i => fs.contains i) d val (mkL l r) a w' ∧
  (∀ i (x : Oper × Sp), (opsS l)[i]? = some x → d i = true → ∀ e ∈ x.1.after, Region.binds .any e = true → d e.on = true)) ?lex ?start ?step ?fin
 case lex =>
  rw [List.all_eq_true]
  intro x hx
  obtain ⟨_, h3, _⟩ := hA x.2 x.1 (List.mem_zipIdx_iff_getElem?.1 hx)
  rw [Array.all_eq_true_iff_forall_mem]
  intro e he
  cases hb : Region.binds .any e
  ·rfl
  ·simpa using h3 e he hb
 case start =>
  have hb : Below W.heap.size W W.drew := (Below.refl _ _).drew
  refine ⟨fun _ _ _ _ => hC _ _ h0 hb, fun _ => undef, ?_, RE.later _ _ _ _ h.out hb, fun i x _ hd => by cases hd⟩
  have : ∀ (L : DL) (b : Act), actV (fun _ => undef) (fun _ => false) L b = b := fun L => by
   induction L with
   | nil => intro b; rfl
   | cons x L ih =>
    intro b
    unfold actV
    rw [if_neg (by decide)]
    exact ih b
  exact (this _ _).symm
 case fin =>
  rintro d a' w' ⟨_, val, rfl, hr, _⟩ hd
  refine RE.done _ _ _ (fun x hx => ?_) hr
  exact hd x.1 (List.getElem?_eq_some_iff.1 (mkL_mem r x hx).1).1
 case step =>
  rintro i o ho d a' w' ⟨hw, val, rfl, hr, hcl⟩ hd hpre
  obtain ⟨hsel, _, hchk, hfin⟩ := hA i o ho
  have hwait : ∀ j, waitsFor (opsS l) i j = true → d j = true := fun j hj => reach_pre hcl _ i j _ (hS i o ho) hpre hj
  have hlater : ∀ j y, l[j]? = some y → waitsFor (opsS l) j i = true → d j = false := fun j y hy hj => by
   cases hdj : d j
   ·rfl
   ·rw [reach_pre hcl _ j i _ (hS j y hy) (hcl j _ (hS j y hy) hdj) hj] at hd; cases hd
  obtain ⟨hard, hrdy, hmem⟩ := rdy_chkR ho hwait hlater (mkL l r) (fun x hx => (mkL_mem r x hx).1) hchk
  have hcl' : ∀ i' (x' : Oper × Sp), (opsS l)[i']? = some x' → (i' == i || d i') = true → ∀ e ∈ x'.1.after, Region.binds .any e = true → (e.on == i || d e.on) = true := fun i' x' hx' hd' e he hb => by
   by_cases hii : i' = i
   ·subst hii
    rw [hS _ _ ho] at hx'
    obtain rfl : (o, skipS) = x' := by simpa using hx'
    rw [hpre e he hb, Bool.or_true]
   ·rw [show (i' == i) = false by simpa using hii, Bool.false_or] at hd'
    rw [hcl i' x' hx' hd' e he hb, Bool.or_true]
  have hof : ∀ j, (j == i || d j) = false → d j = false := fun j hj => by
   rw [Bool.or_eq_false_iff] at hj
   exact hj.2
  rcases re_step hd hC hsel (mkL l r) a a w' (fun hh => hw _ hmem hh hd) hr hrdy rfl (fun _ _ => rfl) with ⟨h1, h2⟩ | ⟨h1, h2⟩
  ·rw [if_neg (by rw [h1]; decide)]
   exact ⟨fun x hx hq hdx => hw x hx hq (hof _ hdx), updV val i undef, (actV_add hd undef _ _ hrdy).symm, h2, hcl'⟩
  ·rw [if_pos h1]
   refine opw_eff h2 fun v w2 ⟨h3, h4⟩ => ⟨fun x hx hq hdx => ?_, updV val i v, (actV_add hd v _ _ hrdy).symm, h4, hcl'⟩
   cases hf : fs.contains i with
   | false => exact h3 hf
   | true =>
    rcases hfin hf (x.1, x.2.2) (mkL_mem r x hx).2 with h5 | h5
    ·rw [hq] at h5; cases h5
    ·have h6 := hof _ hdx
     rw [hwait x.1 h5] at h6
     cases h6
section
variable {ops : Array Oper} {C : World → Prop} {Q : Act → World → Prop} {fn : Nat → Bool} {i : Nat} {L : DL} {a : Act} {w : World} {o : Oper}
theorem ew_nil (h : ∀ w2, Below w.heap.size w w2 → Q a w2) : EW P ops C Q fn [] a w := ⟨h⟩
theorem ew_skip {f : Bool} (hw : Region.wanted o (yielded ops a.tmps) = false) (h : EW P ops C Q fn L (a.put o.dst undef) w) : EW P ops C Q fn ((i, o, f) :: L) a w :=
 ⟨.inl ⟨hw, h.out⟩⟩
theorem ew_quiet (hw : Region.wanted o (yielded ops a.tmps) = true) (v : Value) (hr : ∀ w2, C w2 → effUpon P (fun u w3 => u = v ∧ Below w2.heap.size w2 w3) w2 ((execOp a.eval o).run P w2)) (h : EW P ops C Q fn L (a.put o.dst v) w) : EW P ops C Q fn ((i, o, false) :: L) a w :=
 ⟨.inr ⟨hw, v, hr, h.out⟩⟩
theorem ew_hard (hw : Region.wanted o (yielded ops a.tmps) = true) (h : ∀ w2, Below w.heap.size w w2 → effUpon P (fun v w3 => (fn i = false → C w3) ∧ EW P ops C Q fn L (a.put o.dst v) w3) w2 ((execOp a.eval o).run P w2)) : EW P ops C Q fn ((i, o, true) :: L) a w :=
 ⟨.inr ⟨hw, fun w2 hb => effUpon_mono (h w2 hb) fun _ _ ⟨h1, h2⟩ => ⟨h1, h2.out⟩⟩⟩
theorem ew_value (hw : Region.wanted o (yielded ops a.tmps) = true) (v : Value) (hr : ∀ w, (execOp a.eval o).run P w = .ok (.value v) w) (h : EW P ops C Q fn L (a.put o.dst v) w) : EW P ops C Q fn ((i, o, false) :: L) a w :=
 ew_quiet hw v (fun w2 _ => by rw [hr]; exact ⟨rfl, Below.refl _ _⟩) h
theorem ew_valK (hw : Region.wanted o (yielded ops a.tmps) = true) (v : Value) (hr : ∀ w, C w → (execOp a.eval o).run P w = .ok (.value v) w) (h : EW P ops C Q fn L (a.put o.dst v) w) : EW P ops C Q fn ((i, o, false) :: L) a w :=
 ew_quiet hw v (fun w2 hc => by rw [hr w2 hc]; exact ⟨rfl, Below.refl _ _⟩) h
theorem ew_mv {t : Tmp} {v : Value} (hw : Region.wanted o (yielded ops a.tmps) = true) (ho : o.op = .move (.tmp t)) (hx : a.tmps.toList[t]? = some v) (h : EW P ops C Q fn L (a.put o.dst v) w) : EW P ops C Q fn ((i, o, false) :: L) a w :=
 ew_value hw v (fun w => by unfold execOp; rw [ho]; simp only [eval_at hx]; rfl) h
theorem ew_as {t : Tmp} {v : Value} (hw : Region.wanted o (yielded ops a.tmps) = true) (ho : o.op = .assign (.tmp t)) (hx : a.tmps.toList[t]? = some v) (h : EW P ops C Q fn L (a.put o.dst v) w) : EW P ops C Q fn ((i, o, false) :: L) a w :=
 ew_value hw v (fun w => by unfold execOp; rw [ho]; simp only [eval_at hx]; rfl) h
theorem ew_ext {x : Operand} {k : Nat} {vs : Array Value} {v : Value} (hw : Region.wanted o (yielded ops a.tmps) = true) (ho : o.op = .extract x k) (hx : a.eval x = .tuple vs) (hv : vs.toList[k]? = some v) (h : EW P ops C Q fn L (a.put o.dst v) w) : EW P ops C Q fn ((i, o, false) :: L) a w := by
 have hv' : vs[k]? = some v := by rw [← Array.getElem?_toList]; exact hv
 refine ew_value hw v (fun w => ?_) h
 unfold execOp
 rw [ho]
 simp only [hx, Instr.extract]
 simp [hv']
theorem ew_pick (hw : Region.wanted o (yielded ops a.tmps) = true) {c x y : Operand} (b : Bool) {v : Value} (ho : o.op = .pick c x y) (hc : a.eval c = .bool b) (hv : a.eval (if b then x else y) = v) (h : EW P ops C Q fn L (a.put o.dst v) w) : EW P ops C Q fn ((i, o, false) :: L) a w := by
 refine ew_value hw v (fun w => ?_) h
 subst hv
 unfold execOp
 rw [ho]
 simp only [hc]
 cases b <;> rfl
/-- A quiet call: one value in every world of the class. -/
theorem ew_call {fnc : Func} (hw : Region.wanted o (yielded ops a.tmps) = true) (f : FuncId) (args : Array Operand) (ts : Array TypeId)
  (ho : o.op = .call { callee := .value (.func f), args := args, argTypes := ts }) (hf : P.funcs[f]? = some fnc) (hb : (fnc.name == "runtime.NumGoroutine" || fnc.body.isNone) = false)
  (vs : Array Value) (hv' : args.toList.map a.eval = vs.toList) (v : Value) (hc : ∀ w, C w → Calls P f vs w fun e w' => e = .returned v ∧ Below w.heap.size w w')
  (h : EW P ops C Q fn L (a.put o.dst v) w) : EW P ops C Q fn ((i, o, false) :: L) a w :=
 ew_quiet hw v (fun w2 hcw => by
  rw [run_enter f args ts ho hf hb vs hv' w2]
  exact ⟨rfl, (hc w2 hcw).mono fun e w' ⟨h1, h2⟩ => ⟨v, h1, rfl, h2⟩⟩) h
/-- A call whose outcome is told as it comes. -/
theorem ew_callE {fnc : Func} (hw : Region.wanted o (yielded ops a.tmps) = true) (f : FuncId) (args : Array Operand) (ts : Array TypeId)
  (ho : o.op = .call { callee := .value (.func f), args := args, argTypes := ts }) (hf : P.funcs[f]? = some fnc) (hb : (fnc.name == "runtime.NumGoroutine" || fnc.body.isNone) = false)
  (vs : Array Value) (hv' : args.toList.map a.eval = vs.toList)
  (h : ∀ w2, Below w.heap.size w w2 → Calls P f vs w2 fun e w' => ∃ v, e = .returned v ∧ (fn i = false → C w') ∧ EW P ops C Q fn L (a.put o.dst v) w') : EW P ops C Q fn ((i, o, true) :: L) a w :=
 ew_hard hw fun w2 hb2 => by
  rw [run_enter f args ts ho hf hb vs hv' w2]
  exact ⟨rfl, (h w2 hb2).mono fun e w' ⟨v, h1, h2, h3⟩ => ⟨v, h1, h2, h3⟩⟩
/-- A load out of a row that every world of the class holds. -/
theorem ew_loadm (hw : Region.wanted o (yielded ops a.tmps) = true) (ty : TypeId) (x : Operand) (ho : o.op = .load ty x) (g off : Nat) (hx : a.eval x = .pointer (some ⟨g, off, none⟩)) {t : TypeId} {cs : Array Value} (hg : ∀ w, C w → RowR w g cs t)
  (sub : Array Value) (hs : ∀ j v, sub.toList[j]? = some v → cs[off + j]? = some v) (d : TypeDesc) (hu : P.underlying ty = some d) (hd : d.isRow = true) (hi : (P.info? ty).map (·.size) = some sub.size)
  (h : EW P ops C Q fn L (a.put o.dst (.agg sub)) w) : EW P ops C Q fn ((i, o, false) :: L) a w :=
 ew_valK hw _ (fun w2 hc => run_load_mid ty x ho g off hx (hg w2 hc) sub hs d hu hd hi) h
theorem ew_loadk (hw : Region.wanted o (yielded ops a.tmps) = true) (ty : TypeId) (x : Operand) (ho : o.op = .load ty x) (g k : Nat) (hx : a.eval x = .pointer (some ⟨g, k, none⟩)) {t : TypeId} {cs : Array Value} (hg : ∀ w, C w → RowR w g cs t) (v : Value) (hc : cs[k]? = some v)
  (ha : ∀ w, (isAgg ty).run P w = .ok false w) (h : EW P ops C Q fn L (a.put o.dst v) w) : EW P ops C Q fn ((i, o, false) :: L) a w := by
 refine ew_valK hw v (fun w2 hc2 => ?_) h
 unfold execOp
 simp only [ho, hx, Instr.loadAt, Instr.sureAddr, Sem.run_bind, Sem.run_pure, Result.andThen_ok, run_load_cell w2 g k ty v ha (((hg w2 hc2).cell k).trans hc)]
/-- A slice made of a literal. -/
theorem ew_litr (hw : Region.wanted o (yielded ops a.tmps) = true) (t e : TypeId) (len : Nat) (parts : Array (Nat × Operand)) (ho : o.op = .buildSlice t len parts) (cells : Array Value) (ie : TypeInfo) (z : Value)
  (hu : P.underlying t = some (.slice e)) (hie : P.info? e = some ie) (hz : ie.zero = some z) (hsmall : ¬ len * ie.size > 2 ^ 24) (hpos : ¬ len * ie.size = 0)
  (vals : List (Nat × Value)) (hv : parts.toList.map (fun x => (x.1, a.eval x.2)) = vals)
  (hf : Instr.fill (fun i => some (i * ie.size, ie.size)) ((Array.range (len * ie.size)).map (z.cells[· % z.cells.size]!)) vals = some cells)
  (h : ∀ w2, Below w.heap.size w w2 → ∀ g w3, w2.heap.size ≤ g → Row w3 g cells e → Below w2.heap.size w2 w3 → (fn i = false → C w3) ∧ EW P ops C Q fn L (a.put o.dst (.slice (some ⟨g, 0, none⟩) len len)) w3) : EW P ops C Q fn ((i, o, true) :: L) a w := by
 have hf' : Instr.fill (fun i => some (i * ie.size, ie.size)) ((Array.range (len * ie.size)).map (z.cells[· % z.cells.size]!)) (parts.map fun (i, x) => (i, a.eval x)).toList = some cells := by
  rw [Array.toList_map]; rw [← hv] at hf; exact hf
 refine ew_hard hw fun w2 hb => ?_
 have hr : (execOp a.eval o).run P w2 = .ok (.value (.slice (some ⟨w2.heap.size, 0, none⟩) len len)) (w2.alloc (.cells cells e)) := by
  unfold execOp
  simp only [ho, Sem.run_bind, run_buildSlice w2 t e len _ cells ie z hu hie hz hsmall hpos hf', Result.andThen_ok]
  rfl
 rw [hr]
 exact h w2 hb w2.heap.size _ (Nat.le_refl _) (Row.new _ _ _) (below_alloc _)
/-- A store of a value of one cell: a last one. -/
theorem ew_putv (hw : Region.wanted o (yielded ops a.tmps) = true) (ty : TypeId) (x y : Operand) (ho : o.op = .store ty x y) (g k : Nat) (hx : a.eval x = .pointer (some ⟨g, k, none⟩)) {t : TypeId} {old : Array Value} (hg : Row w g old t) (v : Value) (hy : a.eval y = v)
  (hv : v.cells = #[v]) (h1 : v.oneCell' = true) (hz : (P.info? ty).map (·.size) = some 1) (hi : k < old.size) (c : Array Value) (hc : old.setIfInBounds k v = c)
  (h : ∀ w2, Below w.heap.size w w2 → ∀ w3, Row w3 g c t → Kept [g] w2 w3 → (fn i = false → C w3) ∧ EW P ops C Q fn L (a.put o.dst undef) w3) : EW P ops C Q fn ((i, o, true) :: L) a w := by
 subst hc
 refine ew_hard hw fun w2 hb => ?_
 have hg2 := hg.belowAll hb
 have hcell : w2.cell? ⟨g, k, none⟩ = some old[k] := (hg2.cell k).trans (by simp [hi])
 have hr : (execOp a.eval o).run P w2 = .ok .skip (w2.setCell ⟨g, k, none⟩ v) := by
  unfold execOp
  simp only [ho, hx, hy, Instr.storeAt, Instr.sureAddr, Sem.run_bind, Sem.run_pure, Result.andThen_ok, run_store_val w2 _ k ty v _ hv h1 hz hcell (hg2.frozen k)]
 rw [hr]
 exact h w2 hb _ (hg2.setCell _ _) (kept_only (only_setCell _ _ _ _))
end
end
section
variable {P : Program} {ops : Array Oper} {Q : Exit → Act → World → Prop} {rest : List Oper} {o : Oper} {a : Act} {w : World}
theorem pw_box1 (hw : Region.wanted o (yielded ops a.tmps) = true) (t : TypeId) (x : Operand) (ho : o.op = .box t x) (v : Value) (hx : a.eval x = v) (hv : v.cells = #[v])
  (h : ∀ g w', w.heap.size ≤ g → Row w' g #[v] t → Kept [] w w' → PW P ops Q rest (a.put o.dst (.pointer (some ⟨g, 0, none⟩))) w') : PW P ops Q (o :: rest) a w :=
 pw_made hw (fun g => .pointer (some ⟨g, 0, none⟩)) t #[v] (by unfold execOp; simp only [ho, hx, Instr.box, Sem.run_bind, newVar, newRow, hv]; rfl) h
/-- A call of a closure that only makes memory. -/
theorem pw_callC {fn : Func} (hw : Region.wanted o (yielded ops a.tmps) = true) (f : FuncId) (t : Tmp) (args : Array Operand) (ts : Array TypeId)
  (ho : o.op = .call { callee := .value (.tmp t), args := args, argTypes := ts }) (caps : Array Value) (hcl : a.eval (.tmp t) = .func (.func f) #[] caps) (hf : P.funcs[f]? = some fn) (hb : (fn.name == "runtime.NumGoroutine" || fn.body.isNone) = false)
  (vs : Array Value) (hv' : args.toList.map a.eval = vs.toList) (v : Value) (hc : Calls P f (vs ++ caps) w fun e w' => e = .returned v ∧ Below w.heap.size w w')
  (h : ∀ w', Kept [] w w' → PW P ops Q rest (a.put o.dst v) w') : PW P ops Q (o :: rest) a w := by
 refine ⟨?_⟩
 unfold wpList
 rw [if_pos hw]
 left
 have hv : args.map a.eval = vs := by apply Array.toList_inj.1; rw [Array.toList_map]; exact hv'
 have hr := run_callFunc_body (P := P) hf hb (vs ++ caps) w
 have hd : (execOp a.eval o).run P w = .ok (.enter f (vs ++ caps)) w := by
  unfold execOp
  simp only [ho, resolve, hv, hcl]
  simp [Deferred.ofValue, invoke, hr]
 unfold Oper.wp
 rw [hd, Oper.upon_enter]
 exact hc.mono fun e w' ⟨he, hb'⟩ => by
  subst he
  exact (h w' (Kept.ofBelow hb')).out
end
section
variable {P : Program} {ops : Array Oper} {C : World → Prop} {Q : Act → World → Prop} {fn : Nat → Bool} {i : Nat} {L : DL} {a : Act} {w : World} {o : Oper}
theorem e_m {t : Tmp} {v : Value} (h : EW P ops C Q fn L (a.put o.dst v) w) (hw : Region.wanted o (yielded ops a.tmps) = true := by rfl) (ho : o.op = .move (.tmp t) := by exact rfl) (hx : a.tmps.toList[t]? = some v := by exact rfl) : EW P ops C Q fn ((i, o, false) :: L) a w := ew_mv hw ho hx h
theorem e_v (v : Value) (hr : ∀ w, (execOp a.eval o).run P w = .ok (.value v) w) (h : EW P ops C Q fn L (a.put o.dst v) w) (hw : Region.wanted o (yielded ops a.tmps) = true := by rfl) : EW P ops C Q fn ((i, o, false) :: L) a w := ew_value hw v hr h
end
end Go.Proofs.Ytdgbjmolinoplaa
/- A region that draws its order, two of whose hard operations do not wait for one another: walked in both orders. -/
namespace Go.Proofs.Ytdgbjmolinoplaa
open Go.RowKit
section
variable {P : Program}
/-- An operation that calls nothing. -/
def plainO (o : Oper) : Bool := match o.op with
 | .move _ | .assign _ | .load _ _ | .binOp _ _ _ _ _ | .unOp _ _ _ | .slice _ _ _ _ _ | .fieldAddr _ _ _ | .indexAddr _ _ _ | .extract _ _ | .makeFunc _ _ _ | .build _ _ => true
 | _ => false
theorem run_noenter (s : Sem Value) (w : World) (f : FuncId) (args : Array Value) (w' : World) : ((do pure (Next.value (← s))) : Sem Next).run P w ≠ .ok (.enter f args) w' := by
 intro h
 simp only [Sem.run_bind] at h
 cases hs : s.run P w with
 | ok v w2 => rw [hs] at h; simp [Result.andThen_ok] at h
 | halt x w2 => rw [hs] at h; cases h
theorem plain_noenter {o : Oper} (h : plainO o = true) (ρ : Operand → Value) (w : World) (f : FuncId) (args : Array Value) (w' : World) : (execOp ρ o).run P w ≠ .ok (.enter f args) w' := by
 unfold execOp
 unfold plainO at h
 generalize o.op = q at h ⊢
 cases q <;> first | (exact absurd (show false = true from h) (by decide)) | (exact run_noenter _ _ _ _ _) | (intro h2; cases h2)
theorem effUpon_and {E E' : Value → World → Prop} {w : World} {r : Result Next} (hn : ∀ f args w', r ≠ .ok (.enter f args) w') (h : effUpon P E w r) (h' : effUpon P E' w r) : effUpon P (fun v w2 => E v w2 ∧ E' v w2) w r := by
 cases r with
 | ok n w' =>
  cases n <;> simp only [effUpon] at h h' ⊢
  case value u => exact ⟨h, h'⟩
  case skip => exact ⟨h, h'⟩
  case enter f args => exact absurd rfl (hn f args w')
 | halt x w' => simp only [effUpon] at h
def chkRW (ops : Array Oper) (wf : Nat → Nat → Bool) (i : Nat) (o : Oper) : DL → Bool
 | [] => false
 | y :: l =>
  if y.1 == i then l.all fun u => u.1 != i && (match u.2.1.dst with | none => true | some s => o.dst != some s && (!(o.looksAt ops).contains s || wf u.1 i))
  else (match y.2.1.dst with | none => true | some s => o.dst != some s && (!(o.looksAt ops).contains s || wf i y.1)) && (!y.2.2 || wf i y.1) && chkRW ops wf i o l
theorem rdy_chkRW {l : List Oper} {d : Nat → Bool} {i : Nat} {o : Oper} {wf : Nat → Nat → Bool} (ho : l[i]? = some o) (hwait : ∀ j, wf i j = true → d j = true) (hlater : ∀ j y, l[j]? = some y → wf j i = true → d j = false) :
  ∀ L : DL, (∀ x ∈ L, l[x.1]? = some x.2.1) → chkRW l.toArray wf i o L = true → ∃ hard, Rdy l.toArray d i o hard L ∧ (i, o, hard) ∈ L
 | [], _, h => by simp [chkRW] at h
 | y :: L, hL, h => by
  unfold chkRW at h
  by_cases e : y.1 = i
  ·rw [if_pos (by simpa using e)] at h
   have hy := hL y (List.mem_cons_self ..)
   rw [e, ho] at hy
   obtain ⟨j, p, f⟩ := y
   obtain rfl : j = i := e
   obtain rfl : o = p := by simpa using hy
   refine ⟨f, .inr ⟨rfl, fun u hu => ?_⟩, List.mem_cons_self ..⟩
   have h1 := List.all_eq_true.1 h u hu
   rw [Bool.and_eq_true] at h1
   refine ⟨by simpa using h1.1, fun s hs e => ?_, fun s hs hl => ?_⟩
   ·have h2 := h1.2
    rw [e] at h2
    simp only [Bool.and_eq_true, bne_iff_ne, ne_eq] at h2
    exact h2.1 hs
   ·have h2 := h1.2
    rw [hs] at h2
    simp only [Bool.and_eq_true, Bool.or_eq_true, Bool.not_eq_true'] at h2
    rcases h2.2 with h3 | h3
    ·rw [List.contains_iff_mem.2 hl] at h3; cases h3
    ·exact hlater u.1 u.2.1 (hL u (List.mem_cons_of_mem _ hu)) h3
  ·rw [if_neg (by simpa using e)] at h
   simp only [Bool.and_eq_true] at h
   obtain ⟨⟨h1, h2⟩, h3⟩ := h
   obtain ⟨hard, hr, hm⟩ := rdy_chkRW ho hwait hlater L (fun x hx => hL x (List.mem_cons_of_mem _ hx)) h3
   refine ⟨hard, .inl ⟨e, fun s hs e' => ?_, fun s hs hl => ?_, fun hh => ?_, hr⟩, List.mem_cons_of_mem _ hm⟩
   ·rw [e'] at h1
    simp only [Bool.and_eq_true, bne_iff_ne, ne_eq] at h1
    exact h1.1 hs
   ·rw [hs] at h1
    simp only [Bool.and_eq_true, Bool.or_eq_true, Bool.not_eq_true'] at h1
    rcases h1.2 with h4 | h4
    ·rw [List.contains_iff_mem.2 hl] at h4; cases h4
    ·exact hwait y.1 h4
   ·rw [hh] at h2
    exact hwait y.1 (by simpa using h2)
/-- One waits for another: by itself, or as it is the x-th that comes behind the y-th. -/
def wfP (l : List Oper) (x y i j : Nat) : Bool := waitsFor (opsS l) i j || (i == x && j == y)
def chkE2 (l : List Oper) (fs : List Nat) (x y : Nat) (r : List (Nat × Bool)) : Bool :=
 l.zipIdx.all fun (u : Oper × Nat) => (match u.1.op with | .select _ _ => false | _ => true) && (u.1.after.all fun e => !Region.binds .any e || decide (e.on < u.2)) && chkRW l.toArray (wfP l x y) u.2 u.1 (mkL l r) &&
  (!fs.contains u.2 || r.all fun v => v.2 || waitsFor (opsS l) u.2 v.1)
/-- Where one is, on an order's way. -/
structure ST (P : Program) (l : List Oper) (C : World → Prop) (Q : Act → World → Prop) (fs : List Nat) (r : List (Nat × Bool)) (a : Act) (d : Nat → Bool) (val : Nat → Value) (a' : Act) (w' : World) : Prop where
 c : ∀ x ∈ mkL l r, x.2.2 = false → d x.1 = false → C w'
 e : a' = actV val d (mkL l r) a
 o : RE P l.toArray C Q (fun i => fs.contains i) d val (mkL l r) a w'
def CLd (l : List Oper) (d : Nat → Bool) : Prop := ∀ i (x : Oper × Sp), (opsS l)[i]? = some x → d i = true → ∀ e ∈ x.1.after, Region.binds .any e = true → d e.on = true
theorem opsS_at {l : List Oper} {i : Nat} {o : Oper} (ho : l[i]? = some o) : (opsS l)[i]? = some (o, skipS) := by
 unfold opsS
 rw [List.getElem?_map, ho]; rfl
theorem CLd.up {l : List Oper} {d : Nat → Bool} (h : CLd l d) {i : Nat} {o : Oper} (ho : l[i]? = some o) (hpre : ∀ e ∈ o.after, Region.binds .any e = true → d e.on = true) : CLd l (fun j => j == i || d j) := fun i' x' hx' hd' e he hb => by
 show (e.on == i || d e.on) = true
 by_cases hii : i' = i
 ·subst hii
  rw [opsS_at ho] at hx'
  obtain rfl : (o, skipS) = x' := by simpa using hx'
  rw [hpre e he hb, Bool.or_true]
 ·have hd2 : (i' == i || d i') = true := hd'
  rw [show (i' == i) = false by simpa using hii, Bool.false_or] at hd2
  rw [h i' x' hx' hd2 e he hb, Bool.or_true]
theorem so_step {l : List Oper} {C : World → Prop} (hC : ∀ w w2, C w → Below w.heap.size w w2 → C w2) {Q : Act → World → Prop} {fs : List Nat} {r : List (Nat × Bool)} {x y : Nat} (hchk : chkE2 l fs x y r = true) {a : Act} {d : Nat → Bool} {val : Nat → Value} {a' : Act} {w' : World}
  (hst : ST P l C Q fs r a d val a' w') (hcl : CLd l d) {i : Nat} {o : Oper} (ho : l[i]? = some o) (hd : d i = false) (hpre : ∀ e ∈ o.after, Region.binds .any e = true → d e.on = true) (hx1 : i = x → d y = true) (hx2 : i = y → d x = false) :
  (Region.wanted o (yielded l.toArray a'.tmps) = false ∧ ST P l C Q fs r a (fun j => j == i || d j) (updV val i undef) (a'.put o.dst undef) w') ∨
  (Region.wanted o (yielded l.toArray a'.tmps) = true ∧ effUpon P (fun v w2 => ST P l C Q fs r a (fun j => j == i || d j) (updV val i v) (a'.put o.dst v) w2) w' ((execOp a'.eval o).run P w')) := by
 obtain ⟨hw, rfl, hr⟩ := hst
 unfold chkE2 at hchk
 have h1 : (o, i) ∈ l.zipIdx := by rw [List.mem_zipIdx_iff_getElem?]; exact ho
 have h2 := List.all_eq_true.1 hchk _ h1
 simp only [Bool.and_eq_true] at h2
 obtain ⟨⟨⟨a1, a2⟩, a3⟩, a4⟩ := h2
 have hsel : ∀ cs b, o.op ≠ .select cs b := fun cs b e => (by rw [e] at a1; cases a1)
 have hW : ∀ j, waitsFor (opsS l) i j = true → d j = true := fun j hj => reach_pre hcl _ i j _ (opsS_at ho) hpre hj
 have hwait : ∀ j, wfP l x y i j = true → d j = true := fun j hj => by
  unfold wfP at hj
  rw [Bool.or_eq_true] at hj
  rcases hj with hj | hj
  ·exact hW j hj
  ·rw [Bool.and_eq_true] at hj
   have e1 : i = x := by simpa using hj.1
   have e2 : j = y := by simpa using hj.2
   rw [e2]; exact hx1 e1
 have hlater : ∀ j u, l[j]? = some u → wfP l x y j i = true → d j = false := fun j u hu hj => by
  unfold wfP at hj
  rw [Bool.or_eq_true] at hj
  rcases hj with hj | hj
  ·cases hdj : d j
   ·rfl
   ·rw [reach_pre hcl _ j i _ (opsS_at hu) (hcl j _ (opsS_at hu) hdj) hj] at hd; cases hd
  ·rw [Bool.and_eq_true] at hj
   have e1 : j = x := by simpa using hj.1
   have e2 : i = y := by simpa using hj.2
   rw [e1]; exact hx2 e2
 obtain ⟨hard, hrdy, hmem⟩ := rdy_chkRW ho hwait hlater (mkL l r) (fun x hx => (mkL_mem r x hx).1) a3
 have hof : ∀ j, (j == i || d j) = false → d j = false := fun j hj => by
  rw [Bool.or_eq_false_iff] at hj
  exact hj.2
 rcases re_step hd hC hsel (mkL l r) a a w' (fun hh => hw _ hmem hh hd) hr hrdy rfl (fun _ _ => rfl) with ⟨h1, h2⟩ | ⟨h1, h2⟩
 ·exact .inl ⟨h1, fun x hx hq hdx => hw x hx hq (hof _ hdx), (actV_add hd undef _ _ hrdy).symm, h2⟩
 ·refine .inr ⟨h1, effUpon_mono h2 fun v w2 ⟨h3, h4⟩ => ⟨fun x hx hq hdx => ?_, (actV_add hd v _ _ hrdy).symm, h4⟩⟩
  cases hf : fs.contains i with
  | false => exact h3 hf
  | true =>
   rw [hf] at a4
   simp only [Bool.not_true, Bool.false_or] at a4
   have h5 := List.all_eq_true.1 a4 (x.1, x.2.2) (mkL_mem r x hx).2
   rw [Bool.or_eq_true] at h5
   rcases h5 with h5 | h5
   ·rw [hq] at h5; cases h5
   ·have h6 := hof _ hdx
    rw [hW x.1 h5] at h6
    cases h6
theorem so_start {l : List Oper} {C : World → Prop} (hC : ∀ w w2, C w → Below w.heap.size w w2 → C w2) {Q : Act → World → Prop} {fs : List Nat} {r : List (Nat × Bool)} {a : Act} {W : World} (h0 : C W) (h : EW P l.toArray C Q (fun i => fs.contains i) (mkL l r) a W) :
  ST P l C Q fs r a (fun _ => false) (fun _ => undef) a W.drew := by
 have hb : Below W.heap.size W W.drew := (Below.refl _ _).drew
 refine ⟨fun _ _ _ _ => hC _ _ h0 hb, ?_, RE.later _ _ _ _ h.out hb⟩
 have : ∀ (L : DL) (b : Act), actV (fun _ => undef) (fun _ => false) L b = b := fun L => by
  induction L with
  | nil => intro b; rfl
  | cons x L ih =>
   intro b
   unfold actV
   rw [if_neg (by decide)]
   exact ih b
 exact (this _ _).symm
theorem so_done {l : List Oper} {C : World → Prop} {Q : Act → World → Prop} {fs : List Nat} {r : List (Nat × Bool)} {a : Act} {d : Nat → Bool} {val : Nat → Value} {a' : Act} {w' : World} (h : ST P l C Q fs r a d val a' w') (hd : ∀ j, j < l.length → d j = true) : Q a' w' := by
 obtain ⟨_, rfl, hr⟩ := h
 exact RE.done _ _ _ (fun x hx => hd x.1 (List.getElem?_eq_some_iff.1 (mkL_mem r x hx).1).1) hr
theorem wp_region_ew2 {id : Nat} {l : List Oper} {a : Act} {W : World} {Q : Exit → Act → World → Prop} (hm : P.follows .mixedOrders = true) (C : World → Prop) (hC : ∀ w w2, C w → Below w.heap.size w w2 → C w2) (h0 : C W) (fs : List Nat) (A B : Nat) (hAB : A ≠ B) (r1 r2 : List (Nat × Bool))
  (c1 : chkE2 l fs B A r1 = true) (c2 : chkE2 l fs A B r2 = true) (hp : (l.zipIdx.all fun (x : Oper × Nat) => x.2 == A || x.2 == B || plainO x.1 || waitsFor (opsS l) x.2 A || waitsFor (opsS l) x.2 B) = true)
  (h1 : EW P l.toArray C (Q .normal) (fun i => fs.contains i) (mkL l r1) a W) (h2 : EW P l.toArray C (Q .normal) (fun i => fs.contains i) (mkL l r2) a W) : (Code.region id l.toArray true).wp P Q a W := by
 refine wp_region_inv hm (fun d a' w' => CLd l d ∧ ((d A = false ∧ d B = false ∧ ∃ val, ST P l C (Q .normal) fs r1 a d val a' w' ∧ ST P l C (Q .normal) fs r2 a d val a' w') ∨ (d A = true ∧ ∃ val, ST P l C (Q .normal) fs r1 a d val a' w') ∨ (d B = true ∧ ∃ val, ST P l C (Q .normal) fs r2 a d val a' w'))) ?lex ?start ?step ?fin
 case lex =>
  rw [List.all_eq_true]
  intro x hx
  unfold chkE2 at c1
  have h2 := List.all_eq_true.1 c1 _ hx
  simp only [Bool.and_eq_true] at h2
  exact h2.1.1.2
 case start => exact ⟨fun i x _ hd => (by cases hd), .inl ⟨rfl, rfl, _, so_start hC h0 h1, so_start hC h0 h2⟩⟩
 case fin =>
  rintro d a' w' ⟨_, ⟨_, _, val, h, _⟩ | ⟨_, val, h⟩ | ⟨_, val, h⟩⟩ hd <;> exact so_done h hd
 case step =>
  rintro i o ho d a' w' ⟨hcl, hdis⟩ hd hpre
  have hup := hcl.up ho hpre
  have onA : d A = true → ((fun j => j == i || d j) A) = true := fun h => by show (A == i || d A) = true; rw [h, Bool.or_true]
  have onB : d B = true → ((fun j => j == i || d j) B) = true := fun h => by show (B == i || d B) = true; rw [h, Bool.or_true]
  rcases hdis with ⟨hA, hB, val, s1, s2⟩ | ⟨hA, val, s1⟩ | ⟨hB, val, s2⟩
  ·by_cases eA : i = A
   ·subst eA
    rcases so_step hC c1 s1 hcl ho hd hpre (fun h => absurd h hAB) (fun _ => hB) with ⟨h3, h4⟩ | ⟨h3, h4⟩
    ·rw [if_neg (by rw [h3]; decide)]
     exact ⟨hup, .inr (.inl ⟨by simp, _, h4⟩)⟩
    ·rw [if_pos h3]
     exact opw_eff h4 fun v w2 h5 => ⟨hup, .inr (.inl ⟨by simp, _, h5⟩)⟩
   ·by_cases eB : i = B
    ·subst eB
     rcases so_step hC c2 s2 hcl ho hd hpre (fun h => absurd h eA) (fun _ => hA) with ⟨h3, h4⟩ | ⟨h3, h4⟩
     ·rw [if_neg (by rw [h3]; decide)]
      exact ⟨hup, .inr (.inr ⟨by simp, _, h4⟩)⟩
     ·rw [if_pos h3]
      exact opw_eff h4 fun v w2 h5 => ⟨hup, .inr (.inr ⟨by simp, _, h5⟩)⟩
    ·have hA' : ((fun j => j == i || d j) A) = false := by
      show (A == i || d A) = false
      rw [hA, Bool.or_false]; simpa using fun h => eA h.symm
     have hB' : ((fun j => j == i || d j) B) = false := by
      show (B == i || d B) = false
      rw [hB, Bool.or_false]; simpa using fun h => eB h.symm
     have hW : ∀ j, waitsFor (opsS l) i j = true → d j = true := fun j hj => reach_pre hcl _ i j _ (opsS_at ho) hpre hj
     have hpl : plainO o = true := by
      have h3 := List.all_eq_true.1 hp (o, i) (by rw [List.mem_zipIdx_iff_getElem?]; exact ho)
      simp only [Bool.or_eq_true] at h3
      rcases h3 with (((h3 | h3) | h3) | h3) | h3
      ·exact absurd (by simpa using h3) eA
      ·exact absurd (by simpa using h3) eB
      ·exact h3
      ·rw [hW A h3] at hA; cases hA
      ·rw [hW B h3] at hB; cases hB
     rcases so_step hC c1 s1 hcl ho hd hpre (fun h => absurd h eB) (fun h => absurd h eA) with ⟨h3, h4⟩ | ⟨h3, h4⟩
     ·rcases so_step hC c2 s2 hcl ho hd hpre (fun h => absurd h eA) (fun h => absurd h eB) with ⟨h5, h6⟩ | ⟨h5, h6⟩
      ·rw [if_neg (by rw [h3]; decide)]
       exact ⟨hup, .inl ⟨hA', hB', _, h4, h6⟩⟩
      ·rw [h3] at h5; cases h5
     ·rcases so_step hC c2 s2 hcl ho hd hpre (fun h => absurd h eA) (fun h => absurd h eB) with ⟨h5, h6⟩ | ⟨h5, h6⟩
      ·rw [h3] at h5; cases h5
      ·rw [if_pos h3]
       exact opw_eff (effUpon_and (plain_noenter hpl _ _) h4 h6) fun v w2 h7 => ⟨hup, .inl ⟨hA', hB', _, h7.1, h7.2⟩⟩
  ·have hne : i ≠ A := fun e => by rw [e, hA] at hd; cases hd
   rcases so_step hC c1 s1 hcl ho hd hpre (fun _ => hA) (fun h => absurd h hne) with ⟨h3, h4⟩ | ⟨h3, h4⟩
   ·rw [if_neg (by rw [h3]; decide)]
    exact ⟨hup, .inr (.inl ⟨onA hA, _, h4⟩)⟩
   ·rw [if_pos h3]
    exact opw_eff h4 fun v w2 h5 => ⟨hup, .inr (.inl ⟨onA hA, _, h5⟩)⟩
  ·have hne : i ≠ B := fun e => by rw [e, hB] at hd; cases hd
   rcases so_step hC c2 s2 hcl ho hd hpre (fun _ => hB) (fun h => absurd h hne) with ⟨h3, h4⟩ | ⟨h3, h4⟩
   ·rw [if_neg (by rw [h3]; decide)]
    exact ⟨hup, .inr (.inr ⟨onB hB, _, h4⟩)⟩
   ·rw [if_pos h3]
    exact opw_eff h4 fun v w2 h5 => ⟨hup, .inr (.inr ⟨onB hB, _, h5⟩)⟩
section
variable {ops : Array Oper} {C : World → Prop} {Q : Act → World → Prop} {fn : Nat → Bool} {i : Nat} {L : DL} {a : Act} {w : World} {o : Oper}
/-- A variable of one cell. -/
theorem ew_newv (hw : Region.wanted o (yielded ops a.tmps) = true) (t : TypeId) (ho : o.op = .alloc t) (v : Value) (hz : ∀ w, (zeroValue t).run P w = .ok v w) (hv : v.cells = #[v])
  (h : ∀ w2, Below w.heap.size w w2 → ∀ g w3, w2.heap.size ≤ g → Row w3 g #[v] t → Below w2.heap.size w2 w3 → (fn i = false → C w3) ∧ EW P ops C Q fn L (a.put o.dst (.pointer (some ⟨g, 0, none⟩))) w3) : EW P ops C Q fn ((i, o, true) :: L) a w := by
 refine ew_hard hw fun w2 hb => ?_
 have hr : (execOp a.eval o).run P w2 = .ok (.value (.pointer (some ⟨w2.heap.size, 0, none⟩))) (w2.alloc (.cells #[v] t)) := by
  unfold execOp
  simp only [ho, Instr.alloc, Sem.run_bind, hz, Result.andThen_ok, newVar, hv, newRow]
  rfl
 rw [hr]
 exact h w2 hb w2.heap.size _ (Nat.le_refl _) (Row.new _ _ _) (below_alloc _)
end
end
section
variable {P : Program} {olds : Olds} {p : Nat → Nat} {W : World} {F : Act → (Nat → Option (TypeId × Array Value)) → Prop} {n : Nat} {l : List Oper} {pl : List Sp} {a : Act} {ct : Nat → Option (TypeId × Array Value)} {o : Oper}
/-- A cell of a row that is only read. -/
theorem mx_loadkR (ty : TypeId) (x : Operand) (ho : o.op = .load ty x) (g i : Nat) (hx : a.eval x = .pointer (some ⟨g, i, none⟩)) {t : TypeId} {cs : Array Value} (hg : RowR W g cs t) (hS : g ∉ olds.map (·.1)) (v : Value) (hc : cs[i]? = some v)
  (ha : ∀ w, (isAgg ty).run P w = .ok false w)
  (h : MX P olds p W F (n + 1) l pl (a.put o.dst v) ct) : MX P olds p W F n (o :: l) ((fun _ => v, [], none, []) :: pl) a ct := by
 refine mx_value v [] (fun w hk _ => ?_) h
 unfold execOp
 simp only [ho, hx, Instr.loadAt, Instr.sureAddr, Sem.run_bind, Sem.run_pure, Result.andThen_ok, run_load_cell w g i ty v ha ((hk.rowR hg hS).cell i |>.trans hc)]
end
end Go.Proofs.Ytdgbjmolinoplaa
/- A region that draws its order, whose hard operations wait for one another but for some: walked in each order of these, as a tree tells them. -/
namespace Go.Proofs.Ytdgbjmolinoplaa
open Go.RowKit
section
variable {P : Program}
/-- An operation that calls nothing. -/
def plainO3 (o : Oper) : Bool := plainO o || (match o.op with
 | .buildSlice _ _ _ => true
 | .makeSlice _ _ _ => true
 | _ => false)
theorem plain_noenter3 {o : Oper} (h : plainO3 o = true) (ρ : Operand → Value) (w : World) (f : FuncId) (args : Array Value) (w' : World) : (execOp ρ o).run P w ≠ .ok (.enter f args) w' := by
 unfold plainO3 at h
 rw [Bool.or_eq_true] at h
 rcases h with h | h
 ·exact plain_noenter h _ _ _ _ _
 ·unfold execOp
  generalize o.op = q at h ⊢
  cases q <;> first | (exact absurd (show false = true from h) (by decide)) | (exact run_noenter _ _ _ _ _)
/-- One waits for another: by itself, or by pairs, the first of which comes behind the second. -/
def wfL (l : List Oper) (ps : List (Nat × Nat)) (i j : Nat) : Bool := waitsFor (opsS l) i j || ps.any fun p => (i == p.1 || waitsFor (opsS l) i p.1) && j == p.2
def chkE3 (l : List Oper) (fs : List Nat) (ps : List (Nat × Nat)) (r : List (Nat × Bool)) : Bool :=
 l.zipIdx.all fun (u : Oper × Nat) => (match u.1.op with | .select _ _ => false | _ => true) && (u.1.after.all fun e => !Region.binds .any e || decide (e.on < u.2)) && chkRW l.toArray (wfL l ps) u.2 u.1 (mkL l r) &&
  (!fs.contains u.2 || r.all fun v => v.2 || waitsFor (opsS l) u.2 v.1)
theorem so_step3 {l : List Oper} {C : World → Prop} (hC : ∀ w w2, C w → Below w.heap.size w w2 → C w2) {Q : Act → World → Prop} {fs : List Nat} {r : List (Nat × Bool)} {ps : List (Nat × Nat)} (hchk : chkE3 l fs ps r = true) {a : Act} {d : Nat → Bool} {val : Nat → Value} {a' : Act} {w' : World}
  (hst : ST P l C Q fs r a d val a' w') (hcl : CLd l d) {i : Nat} {o : Oper} (ho : l[i]? = some o) (hd : d i = false) (hpre : ∀ e ∈ o.after, Region.binds .any e = true → d e.on = true) (hok : ∀ p ∈ ps, d p.1 = true → d p.2 = true) (hnx : ∀ p ∈ ps, i = p.1 → d p.2 = true) :
  (Region.wanted o (yielded l.toArray a'.tmps) = false ∧ ST P l C Q fs r a (fun j => j == i || d j) (updV val i undef) (a'.put o.dst undef) w') ∨
  (Region.wanted o (yielded l.toArray a'.tmps) = true ∧ effUpon P (fun v w2 => ST P l C Q fs r a (fun j => j == i || d j) (updV val i v) (a'.put o.dst v) w2) w' ((execOp a'.eval o).run P w')) := by
 obtain ⟨hw, rfl, hr⟩ := hst
 unfold chkE3 at hchk
 have h1 : (o, i) ∈ l.zipIdx := by rw [List.mem_zipIdx_iff_getElem?]; exact ho
 have h2 := List.all_eq_true.1 hchk _ h1
 simp only [Bool.and_eq_true] at h2
 obtain ⟨⟨⟨a1, a2⟩, a3⟩, a4⟩ := h2
 have hsel : ∀ cs b, o.op ≠ .select cs b := fun cs b e => (by rw [e] at a1; cases a1)
 have hW : ∀ j, waitsFor (opsS l) i j = true → d j = true := fun j hj => reach_pre hcl _ i j _ (opsS_at ho) hpre hj
 have hwait : ∀ j, wfL l ps i j = true → d j = true := fun j hj => by
  unfold wfL at hj
  rw [Bool.or_eq_true] at hj
  rcases hj with hj | hj
  ·exact hW j hj
  ·obtain ⟨p, hp, hq⟩ := List.any_eq_true.1 hj
   rw [Bool.and_eq_true, Bool.or_eq_true] at hq
   have e2 : j = p.2 := by simpa using hq.2
   rw [e2]
   rcases hq.1 with h | h
   ·exact hnx p hp (by simpa using h)
   ·exact hok p hp (hW _ h)
 have hlater : ∀ j u, l[j]? = some u → wfL l ps j i = true → d j = false := fun j u hu hj => by
  cases hdj : d j
  ·rfl
  ·have hR : ∀ k, waitsFor (opsS l) j k = true → d k = true := fun k hk => reach_pre hcl _ j k _ (opsS_at hu) (hcl j _ (opsS_at hu) hdj) hk
   exfalso
   have : d i = true := by
    unfold wfL at hj
    rw [Bool.or_eq_true] at hj
    rcases hj with hj | hj
    ·exact hR i hj
    ·obtain ⟨p, hp, hq⟩ := List.any_eq_true.1 hj
     rw [Bool.and_eq_true, Bool.or_eq_true] at hq
     have e2 : i = p.2 := by simpa using hq.2
     rw [e2]
     rcases hq.1 with h | h
     ·exact hok p hp (by rw [← (by simpa using h : j = p.1)]; exact hdj)
     ·exact hok p hp (hR _ h)
   rw [hd] at this
   cases this
 obtain ⟨hard, hrdy, hmem⟩ := rdy_chkRW ho hwait hlater (mkL l r) (fun x hx => (mkL_mem r x hx).1) a3
 have hof : ∀ j, (j == i || d j) = false → d j = false := fun j hj => by
  rw [Bool.or_eq_false_iff] at hj
  exact hj.2
 rcases re_step hd hC hsel (mkL l r) a a w' (fun hh => hw _ hmem hh hd) hr hrdy rfl (fun _ _ => rfl) with ⟨h1, h2⟩ | ⟨h1, h2⟩
 ·exact .inl ⟨h1, fun x hx hq hdx => hw x hx hq (hof _ hdx), (actV_add hd undef _ _ hrdy).symm, h2⟩
 ·refine .inr ⟨h1, effUpon_mono h2 fun v w2 ⟨h3, h4⟩ => ⟨fun x hx hq hdx => ?_, (actV_add hd v _ _ hrdy).symm, h4⟩⟩
  cases hf : fs.contains i with
  | false => exact h3 hf
  | true =>
   rw [hf] at a4
   simp only [Bool.not_true, Bool.false_or] at a4
   have h5 := List.all_eq_true.1 a4 (x.1, x.2.2) (mkL_mem r x hx).2
   rw [Bool.or_eq_true] at h5
   rcases h5 with h5 | h5
   ·rw [hq] at h5; cases h5
   ·have h6 := hof _ hdx
    rw [hW x.1 h5] at h6
    cases h6
/-- A tree of orders: at a node one of two comes first. -/
inductive OT where
 | leaf (r : List (Nat × Bool))
 | node (A B : Nat) (s t : OT)
def OT.chk (l : List Oper) (fs : List Nat) : List (Nat × Nat) → OT → Bool
 | ps, .leaf r => chkE3 l fs ps r
 | ps, .node A B s t => A != B && (l.zipIdx.all fun (x : Oper × Nat) => x.2 == A || x.2 == B || plainO3 x.1 || waitsFor (opsS l) x.2 A || waitsFor (opsS l) x.2 B) && OT.chk l fs ((B, A) :: ps) s && OT.chk l fs ((A, B) :: ps) t
def OT.inv (P : Program) (l : List Oper) (C : World → Prop) (Q : Act → World → Prop) (fs : List Nat) (a : Act) (d : Nat → Bool) (val : Nat → Value) (a' : Act) (w' : World) : OT → Prop
 | .leaf r => ST P l C Q fs r a d val a' w'
 | .node A B s t => (d A = false ∧ d B = false ∧ OT.inv P l C Q fs a d val a' w' s ∧ OT.inv P l C Q fs a d val a' w' t) ∨ (d A = true ∧ OT.inv P l C Q fs a d val a' w' s) ∨ (d B = true ∧ OT.inv P l C Q fs a d val a' w' t)
def OT.all (P : Program) (l : List Oper) (C : World → Prop) (Q : Act → World → Prop) (fs : List Nat) (a : Act) (W : World) : OT → Prop
 | .leaf r => EW P l.toArray C Q (fun i => fs.contains i) (mkL l r) a W
 | .node _ _ s t => OT.all P l C Q fs a W s ∧ OT.all P l C Q fs a W t
theorem OT.start {l : List Oper} {C : World → Prop} (hC : ∀ w w2, C w → Below w.heap.size w w2 → C w2) {Q : Act → World → Prop} {fs : List Nat} {a : Act} {W : World} (h0 : C W) : ∀ T : OT, T.all P l C Q fs a W → T.inv P l C Q fs a (fun _ => false) (fun _ => undef) a W.drew
 | .leaf _, h => so_start hC h0 h
 | .node _ _ s t, h => .inl ⟨rfl, rfl, OT.start hC h0 s h.1, OT.start hC h0 t h.2⟩
theorem OT.fin {l : List Oper} {C : World → Prop} {Q : Act → World → Prop} {fs : List Nat} {a : Act} {d : Nat → Bool} {val : Nat → Value} {a' : Act} {w' : World} (hd : ∀ j, j < l.length → d j = true) : ∀ T : OT, T.inv P l C Q fs a d val a' w' → Q a' w'
 | .leaf _, h => so_done h hd
 | .node _ _ s t, h => by
  rcases h with ⟨_, _, h, _⟩ | ⟨_, h⟩ | ⟨_, h⟩
  ·exact OT.fin hd s h
  ·exact OT.fin hd s h
  ·exact OT.fin hd t h
theorem OT.lex {l : List Oper} {fs : List Nat} : ∀ (T : OT) (ps : List (Nat × Nat)), T.chk l fs ps = true → (l.zipIdx.all fun (u : Oper × Nat) => u.1.after.all fun e => !Region.binds .any e || decide (e.on < u.2)) = true
 | .leaf r, ps, h => by
  rw [List.all_eq_true]
  intro x hx
  have h2 := List.all_eq_true.1 (show chkE3 l fs ps r = true from h) _ hx
  simp only [Bool.and_eq_true] at h2
  exact h2.1.1.2
 | .node A B s t, ps, h => by
  unfold OT.chk at h
  simp only [Bool.and_eq_true] at h
  exact OT.lex s _ h.1.2
theorem OT.step {l : List Oper} {C : World → Prop} (hC : ∀ w w2, C w → Below w.heap.size w w2 → C w2) {Q : Act → World → Prop} {fs : List Nat} {a : Act} {d : Nat → Bool} {val : Nat → Value} {a' : Act} {w' : World} (hcl : CLd l d) {i : Nat} {o : Oper} (ho : l[i]? = some o) (hd : d i = false) (hpre : ∀ e ∈ o.after, Region.binds .any e = true → d e.on = true) :
  ∀ (T : OT) (ps : List (Nat × Nat)), T.chk l fs ps = true → (∀ p ∈ ps, d p.1 = true → d p.2 = true) → (∀ p ∈ ps, i = p.1 → d p.2 = true) → T.inv P l C Q fs a d val a' w' →
  (Region.wanted o (yielded l.toArray a'.tmps) = false ∧ T.inv P l C Q fs a (fun j => j == i || d j) (updV val i undef) (a'.put o.dst undef) w') ∨
  (Region.wanted o (yielded l.toArray a'.tmps) = true ∧ effUpon P (fun v w2 => T.inv P l C Q fs a (fun j => j == i || d j) (updV val i v) (a'.put o.dst v) w2) w' ((execOp a'.eval o).run P w'))
 | .leaf _, _, hc, hok, hnx, h => so_step3 hC hc h hcl ho hd hpre hok hnx
 | .node A B s t, ps, hc, hok, hnx, h => by
  unfold OT.chk at hc
  simp only [Bool.and_eq_true] at hc
  obtain ⟨⟨⟨hne, hp⟩, hcs⟩, hct⟩ := hc
  have hAB : A ≠ B := by simpa using hne
  have up : ∀ {X : Nat}, d X = true → (X == i || d X) = true := fun h => by rw [h, Bool.or_true]
  have S : (d B = true → d A = true) → (i = B → d A = true) → s.inv P l C Q fs a d val a' w' → _ := fun h1 h2 hi => OT.step hC hcl ho hd hpre s ((B, A) :: ps) hcs (fun p hp' => by
   rcases List.mem_cons.1 hp' with rfl | hp'
   ·exact h1
   ·exact hok p hp') (fun p hp' => by
   rcases List.mem_cons.1 hp' with rfl | hp'
   ·exact h2
   ·exact hnx p hp') hi
  have T : (d A = true → d B = true) → (i = A → d B = true) → t.inv P l C Q fs a d val a' w' → _ := fun h1 h2 hi => OT.step hC hcl ho hd hpre t ((A, B) :: ps) hct (fun p hp' => by
   rcases List.mem_cons.1 hp' with rfl | hp'
   ·exact h1
   ·exact hok p hp') (fun p hp' => by
   rcases List.mem_cons.1 hp' with rfl | hp'
   ·exact h2
   ·exact hnx p hp') hi
  rcases h with ⟨hA, hB, hs, ht⟩ | ⟨hA, hs⟩ | ⟨hB, ht⟩
  ·by_cases eA : i = A
   ·rcases S (fun h => by rw [hB] at h; cases h) (fun h => absurd (eA.symm.trans h) hAB) hs with ⟨h3, h4⟩ | ⟨h3, h4⟩
    ·exact .inl ⟨h3, .inr (.inl ⟨by simp [eA], h4⟩)⟩
    ·exact .inr ⟨h3, effUpon_mono h4 fun v w2 h5 => .inr (.inl ⟨by simp [eA], h5⟩)⟩
   ·by_cases eB : i = B
    ·rcases T (fun h => by rw [hA] at h; cases h) (fun h => absurd h eA) ht with ⟨h3, h4⟩ | ⟨h3, h4⟩
     ·exact .inl ⟨h3, .inr (.inr ⟨by simp [eB], h4⟩)⟩
     ·exact .inr ⟨h3, effUpon_mono h4 fun v w2 h5 => .inr (.inr ⟨by simp [eB], h5⟩)⟩
    ·have hA' : (A == i || d A) = false := by rw [hA, Bool.or_false]; simpa using fun h => eA h.symm
     have hB' : (B == i || d B) = false := by rw [hB, Bool.or_false]; simpa using fun h => eB h.symm
     have hW : ∀ j, waitsFor (opsS l) i j = true → d j = true := fun j hj => reach_pre hcl _ i j _ (opsS_at ho) hpre hj
     have hpl : plainO3 o = true := by
      have h3 := List.all_eq_true.1 hp (o, i) (by rw [List.mem_zipIdx_iff_getElem?]; exact ho)
      simp only [Bool.or_eq_true] at h3
      rcases h3 with (((h3 | h3) | h3) | h3) | h3
      ·exact absurd (by simpa using h3) eA
      ·exact absurd (by simpa using h3) eB
      ·exact h3
      ·rw [hW A h3] at hA; cases hA
      ·rw [hW B h3] at hB; cases hB
     rcases S (fun h => by rw [hB] at h; cases h) (fun h => absurd h eB) hs with ⟨h3, h4⟩ | ⟨h3, h4⟩
     ·rcases T (fun h => by rw [hA] at h; cases h) (fun h => absurd h eA) ht with ⟨h5, h6⟩ | ⟨h5, h6⟩
      ·exact .inl ⟨h3, .inl ⟨hA', hB', h4, h6⟩⟩
      ·rw [h3] at h5; cases h5
     ·rcases T (fun h => by rw [hA] at h; cases h) (fun h => absurd h eA) ht with ⟨h5, h6⟩ | ⟨h5, h6⟩
      ·rw [h3] at h5; cases h5
      ·exact .inr ⟨h3, effUpon_mono (effUpon_and (plain_noenter3 hpl _ _) h4 h6) fun v w2 h7 => .inl ⟨hA', hB', h7.1, h7.2⟩⟩
  ·rcases S (fun _ => hA) (fun _ => hA) hs with ⟨h3, h4⟩ | ⟨h3, h4⟩
   ·exact .inl ⟨h3, .inr (.inl ⟨up hA, h4⟩)⟩
   ·exact .inr ⟨h3, effUpon_mono h4 fun v w2 h5 => .inr (.inl ⟨up hA, h5⟩)⟩
  ·rcases T (fun _ => hB) (fun _ => hB) ht with ⟨h3, h4⟩ | ⟨h3, h4⟩
   ·exact .inl ⟨h3, .inr (.inr ⟨up hB, h4⟩)⟩
   ·exact .inr ⟨h3, effUpon_mono h4 fun v w2 h5 => .inr (.inr ⟨up hB, h5⟩)⟩
/-- In each order of a tree. -/
theorem wp_region_ot {id : Nat} {l : List Oper} {a : Act} {W : World} {Q : Exit → Act → World → Prop} (hm : P.follows .mixedOrders = true) (C : World → Prop) (hC : ∀ w w2, C w → Below w.heap.size w w2 → C w2) (h0 : C W) (fs : List Nat) (T : OT)
  (h : T.all P l C (Q .normal) fs a W) (hc : T.chk l fs [] = true) : (Code.region id l.toArray true).wp P Q a W := by
 refine wp_region_inv hm (fun d a' w' => CLd l d ∧ ∃ val, T.inv P l C (Q .normal) fs a d val a' w') ?lex ?start ?step ?fin
 case lex => exact T.lex [] hc
 case start => exact ⟨fun i x _ hd => (by cases hd), _, OT.start hC h0 T h⟩
 case fin =>
  rintro d a' w' ⟨_, val, h⟩ hd
  exact OT.fin hd T h
 case step =>
  rintro i o ho d a' w' ⟨hcl, val, hi⟩ hd hpre
  have hup := hcl.up ho hpre
  rcases OT.step hC hcl ho hd hpre T [] hc (fun p hp => by cases hp) (fun p hp => by cases hp) hi with ⟨h3, h4⟩ | ⟨h3, h4⟩
  ·rw [if_neg (by rw [h3]; decide)]
   exact ⟨hup, _, h4⟩
  ·rw [if_pos h3]
   exact opw_eff h4 fun v w2 h5 => ⟨hup, _, h5⟩
theorem wp_region_otb {id : Nat} {l : List Oper} {a : Act} {W : World} {Q : Exit → Act → World → Prop} (hm : P.follows .mixedOrders = true) (fs : List Nat) (T : OT)
  (h : T.all P l (fun x => Below W.heap.size W x) (Q .normal) fs a W) (hc : T.chk l fs [] = true) : (Code.region id l.toArray true).wp P Q a W :=
 wp_region_ot hm (fun x => Below W.heap.size W x) (fun _ _ h1 h2 => below_on h1 (Nat.le_refl _) h2) (Below.refl _ _) fs T h hc
theorem wp_region_ewb {id : Nat} {l : List Oper} {a : Act} {W : World} {Q : Exit → Act → World → Prop} (hm : P.follows .mixedOrders = true) (fs : List Nat) (r : List (Nat × Bool))
  (h : EW P l.toArray (fun x => Below W.heap.size W x) (Q .normal) (fun i => fs.contains i) (mkL l r) a W) (hchk : chkE3 l fs [] r = true) : (Code.region id l.toArray true).wp P Q a W := wp_region_otb hm fs (.leaf r) h hchk
theorem wp_region_ewb2 {id : Nat} {l : List Oper} {a : Act} {W : World} {Q : Exit → Act → World → Prop} (hm : P.follows .mixedOrders = true) (fs : List Nat) (A B : Nat) (hAB : A ≠ B) (r1 r2 : List (Nat × Bool))
  (c1 : chkE3 l fs [(B, A)] r1 = true) (c2 : chkE3 l fs [(A, B)] r2 = true) (hp : (l.zipIdx.all fun (x : Oper × Nat) => x.2 == A || x.2 == B || plainO3 x.1 || waitsFor (opsS l) x.2 A || waitsFor (opsS l) x.2 B) = true)
  (h1 : EW P l.toArray (fun x => Below W.heap.size W x) (Q .normal) (fun i => fs.contains i) (mkL l r1) a W) (h2 : EW P l.toArray (fun x => Below W.heap.size W x) (Q .normal) (fun i => fs.contains i) (mkL l r2) a W) : (Code.region id l.toArray true).wp P Q a W :=
 wp_region_otb hm fs (.node A B (.leaf r1) (.leaf r2)) ⟨h1, h2⟩ (by unfold OT.chk OT.chk; rw [c1, c2, hp, bne_iff_ne.2 hAB]; rfl)
end
end Go.Proofs.Ytdgbjmolinoplaa
