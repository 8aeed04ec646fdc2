/- A region that draws its order, walked in the text's order: quiet operations, whose value is the same in every world of a class, and hard ones, whose outcome is told as it comes; guards let. -/
import Derived.Test.YthnpeebnmommbaaGreatGJ
namespace Go.Proofs.YthnpeebnmommbaaGreat
open Go.RowKit
section
variable {P : Program}
abbrev DL := List (Nat × Oper × Bool)
/-- The slots behind those operations that are done. -/
def actV (val : Nat → Value) (d : Nat → Bool) : DL → Act → Act
 | [], a => a
 | x :: l, a => actV val d l (if d x.1 = true then a.put x.2.1.dst (val x.1) else a)
def updV (val : Nat → Value) (n : Nat) (v : Value) : Nat → Value := fun j => if j = n then v else val j
theorem updV_same (val : Nat → Value) (n : Nat) (v : Value) : updV val n v n = v := if_pos rfl
theorem updV_other (val : Nat → Value) {n j : Nat} (v : Value) (h : j ≠ n) : updV val n v j = val j := if_neg h
theorem effUpon_mono {E E' : Value → World → Prop} {w : World} {r : Result Next} (h : effUpon P E w r) (hE : ∀ v w2, E v w2 → E' v w2) : effUpon P E' w r := by
 cases r with
 | ok n w' =>
  cases n <;> simp only [effUpon] at h ⊢
  case value u => exact hE _ _ h
  case skip => exact hE _ _ h
  case enter f args => exact ⟨h.1, h.2.mono fun e w'' ⟨v, he, hv⟩ => ⟨v, he, hE _ _ hv⟩⟩
 | halt x w' => simp only [effUpon] at h
/-- What is still owed, where some operations are done already. -/
def RT (P : Program) (ops : Array Oper) (C : World → Prop) (Q : Act → World → Prop) (d : Nat → Bool) (val : Nat → Value) : DL → Act → World → Prop
 | [], a, w => ∀ w2, Below w.heap.size w w2 → Q a w2
 | x :: l, a, w =>
  if d x.1 = true then RT P ops C Q d val l (a.put x.2.1.dst (val x.1)) w
  else (Region.wanted x.2.1 (yielded ops a.tmps) = false ∧ RT P ops C Q d val l (a.put x.2.1.dst undef) w) ∨
   (Region.wanted x.2.1 (yielded ops a.tmps) = true ∧
    if x.2.2 = true then ∀ w2, Below w.heap.size w w2 → effUpon P (fun v w3 => C w3 ∧ RT P ops C Q d val l (a.put x.2.1.dst v) w3) w2 ((execOp a.eval x.2.1).run P w2)
    else ∃ v, (∀ w2, C w2 → effUpon P (fun u w3 => u = v ∧ Below w2.heap.size w2 w3) w2 ((execOp a.eval x.2.1).run P w2)) ∧ RT P ops C Q d val l (a.put x.2.1.dst v) w)
theorem RT.later {ops : Array Oper} {C : World → Prop} {Q : Act → World → Prop} {d : Nat → Bool} {val : Nat → Value} : ∀ (l : DL) (a : Act) (w w' : World), RT P ops C Q d val l a w → Below w.heap.size w w' → RT P ops C Q d val l a w'
 | [], _, _, _, h, hb => fun w2 h2 => h w2 (below_on hb (Nat.le_refl _) h2)
 | x :: l, a, w, w', h, hb => by
  unfold RT at h ⊢
  by_cases e : d x.1 = true
  ·rw [if_pos e] at h ⊢
   exact RT.later l _ w w' h hb
  ·rw [if_neg e] at h ⊢
   refine h.imp (fun ⟨h1, h2⟩ => ⟨h1, RT.later l _ w w' h2 hb⟩) fun ⟨h1, h2⟩ => ⟨h1, ?_⟩
   by_cases f : x.2.2 = true
   ·rw [if_pos f] at h2 ⊢
    exact fun w2 hb2 => h2 w2 (below_on hb (Nat.le_refl _) hb2)
   ·rw [if_neg f] at h2 ⊢
    obtain ⟨v, h3, h4⟩ := h2
    exact ⟨v, h3, RT.later l _ w w' h4 hb⟩
theorem RT.congr {ops : Array Oper} {C : World → Prop} {Q : Act → World → Prop} {d d' : Nat → Bool} {val val' : Nat → Value} : ∀ (l : DL) (a : Act) (w : World), (∀ x ∈ l, d x.1 = d' x.1 ∧ val x.1 = val' x.1) → RT P ops C Q d val l a w → RT P ops C Q d' val' l a w
 | [], _, _, _, h => h
 | x :: l, a, w, hx, h => by
  have h0 := hx x (List.mem_cons_self ..)
  have hl : ∀ y ∈ l, d y.1 = d' y.1 ∧ val y.1 = val' y.1 := fun y hy => hx y (List.mem_cons_of_mem _ hy)
  unfold RT at h ⊢
  by_cases e : d x.1 = true
  ·rw [if_pos e] at h
   rw [if_pos (h0.1 ▸ e), ← h0.2]
   exact RT.congr l _ w hl h
  ·rw [if_neg e] at h
   rw [if_neg (h0.1 ▸ e)]
   refine h.imp (fun ⟨h1, h2⟩ => ⟨h1, RT.congr l _ w hl h2⟩) fun ⟨h1, h2⟩ => ⟨h1, ?_⟩
   by_cases f : x.2.2 = true
   ·rw [if_pos f] at h2 ⊢
    exact fun w2 hb2 => effUpon_mono (h2 w2 hb2) fun v w3 ⟨h3, h4⟩ => ⟨h3, RT.congr l _ w3 hl h4⟩
   ·rw [if_neg f] at h2 ⊢
    obtain ⟨v, h3, h4⟩ := h2
    exact ⟨v, h3, RT.congr l _ w hl h4⟩
theorem RT.done {ops : Array Oper} {C : World → Prop} {Q : Act → World → Prop} {d : Nat → Bool} {val : Nat → Value} : ∀ (l : DL) (a : Act) (w : World), (∀ x ∈ l, d x.1 = true) → RT P ops C Q d val l a w → Q (actV val d l a) w
 | [], _, w, _, h => h w (Below.refl _ _)
 | x :: l, a, w, hx, h => by
  have h0 := hx x (List.mem_cons_self ..)
  unfold RT at h
  unfold actV
  rw [if_pos h0] at h ⊢
  exact RT.done l _ w (fun y hy => hx y (List.mem_cons_of_mem _ hy)) h
theorem actV_put {val : Nat → Value} {d : Nat → Bool} {dst : Option Tmp} {v : Value} : ∀ (l : DL) (a : Act), (∀ x ∈ l, ∀ s, dst = some s → x.2.1.dst ≠ some s) → actV val d l (a.put dst v) = (actV val d l a).put dst v
 | [], _, _ => rfl
 | x :: l, a, h => by
  unfold actV
  rw [← actV_put l _ fun y hy => h y (List.mem_cons_of_mem _ hy)]
  congr 1
  by_cases e : d x.1 = true
  ·rw [if_pos e, if_pos e]
   exact Act.put_comm a v _ fun s hs => h x (List.mem_cons_self ..) s hs
  ·rw [if_neg e, if_neg e]
theorem actV_congr {val val' : Nat → Value} {d d' : Nat → Bool} : ∀ (l : DL) (a : Act), (∀ x ∈ l, d x.1 = d' x.1 ∧ val x.1 = val' x.1) → actV val d l a = actV val' d' l a
 | [], _, _ => rfl
 | x :: l, a, h => by
  have h0 := h x (List.mem_cons_self ..)
  unfold actV
  rw [← h0.1, ← h0.2]
  exact actV_congr l _ fun y hy => h y (List.mem_cons_of_mem _ hy)
theorem actV_keep {val : Nat → Value} {d : Nat → Bool} {t : Tmp} : ∀ (l : DL) (b : Act), (∀ x ∈ l, x.2.1.dst = some t → d x.1 = false) → (actV val d l b).eval (.tmp t) = b.eval (.tmp t)
 | [], _, _ => rfl
 | x :: l, b, h => by
  unfold actV
  rw [actV_keep l _ fun y hy => h y (List.mem_cons_of_mem _ hy)]
  by_cases e : d x.1 = true
  ·rw [if_pos e]
   cases hx : x.2.1.dst with
   | none => rfl
   | some s =>
    have hne : s ≠ t := fun hst => by
     have := h x (List.mem_cons_self ..) (by rw [hx, hst])
     rw [e] at this; cases this
    rw [put_eval, if_neg (fun k => hne k.1)]
  ·rw [if_neg e]
theorem actV_size {val : Nat → Value} {d : Nat → Bool} : ∀ (l : DL) (b : Act), (actV val d l b).tmps.size = b.tmps.size
 | [], _ => rfl
 | x :: l, b => by
  unfold actV
  rw [actV_size l]
  split
  ·exact put_size _ _ _
  ·rfl
/-- Operation i may come up: what it looks at is there. -/
def Rdy (ops : Array Oper) (d : Nat → Bool) (i : Nat) (o : Oper) (hard : Bool) : DL → Prop
 | [] => False
 | y :: l => (y.1 ≠ i ∧ (∀ s, o.dst = some s → y.2.1.dst ≠ some s) ∧ (∀ s, y.2.1.dst = some s → s ∈ o.looksAt ops → d y.1 = true) ∧ (y.2.2 = true → d y.1 = true) ∧ Rdy ops d i o hard l) ∨
   (y = (i, o, hard) ∧ ∀ z ∈ l, z.1 ≠ i ∧ (∀ s, o.dst = some s → z.2.1.dst ≠ some s) ∧ ∀ s, z.2.1.dst = some s → s ∈ o.looksAt ops → d z.1 = false)
theorem actV_add {ops : Array Oper} {val : Nat → Value} {d : Nat → Bool} {i : Nat} {o : Oper} {hard : Bool} (hd : d i = false) (v : Value) : ∀ (l : DL) (a : Act), Rdy ops d i o hard l → actV (updV val i v) (fun j => j == i || d j) l a = (actV val d l a).put o.dst v
 | [], _, h => h.elim
 | y :: l, a, h => by
  rcases h with ⟨hne, hds, _, _, hr⟩ | ⟨rfl, hz⟩
  ·unfold actV
   rw [updV_other val v hne, show ((y.1 == i) || d y.1) = d y.1 by rw [show (y.1 == i) = false by simpa using hne, Bool.false_or]]
   exact actV_add hd v l _ hr
  ·unfold actV
   rw [if_pos (by simp), updV_same, if_neg (by rw [hd]; decide), actV_congr (val' := val) (d' := d) l _ (fun z hz' => ⟨by rw [show (z.1 == i) = false by simpa using (hz z hz').1, Bool.false_or], updV_other val v (hz z hz').1⟩)]
   exact actV_put l a fun z hz' s hs => (hz z hz').2.1 s hs
/-- Operations and which of them are hard, with their places. -/
def mkD : Nat → List Oper → List Bool → DL
 | n, o :: l, f :: fs => (n, o, f) :: mkD (n + 1) l fs
 | _, _, _ => []
def opsS (l : List Oper) : List (Oper × Sp) := l.map fun o => (o, skipS)
def chkPairD (ops : Array Oper) (z : List (Oper × Sp)) (x : Oper) (i : Nat) (y : Oper) (f : Bool) (j : Nat) : Bool :=
 j == i || ((match y.dst with
  | none => true
  | some s => x.dst != some s && (!(x.looksAt ops).contains s || ((decide (j < i) && reach z z.length i j) || (decide (i < j) && reach z z.length j i)))) &&
 (!f || !decide (j < i) || reach z z.length i j))
def chkD (l : List Oper) (fs : List Bool) : Bool :=
 l.length == fs.length && l.zipIdx.all fun (x : Oper × Nat) => (match x.1.op with | .select _ _ => false | _ => true) && (x.1.after.all fun e => !Region.binds .any e || decide (e.on < x.2)) &&
  (l.zip fs).zipIdx.all fun (u : (Oper × Bool) × Nat) => chkPairD l.toArray (opsS l) x.1 x.2 u.1.1 u.1.2 u.2
structure DW (P : Program) (ops : Array Oper) (C : World → Prop) (Q : Act → World → Prop) (n : Nat) (l : List Oper) (fs : List Bool) (a : Act) (w : World) : Prop where
 out : RT P ops C Q (fun _ => false) (fun _ => undef) (mkD n l fs) a w
theorem below_self {B : Nat} {w z : World} (_ : Below B w z) : Below z.heap.size z z := Below.refl _ _
section
variable {ops : Array Oper} {C : World → Prop} {Q : Act → World → Prop} {n : Nat} {l : List Oper} {fs : List Bool} {a : Act} {w : World} {o : Oper}
theorem run_enter {fn : Func} (f : FuncId) (args : Array Operand) (ts : Array TypeId) (ho : o.op = .call { callee := .value (.func f), args := args, argTypes := ts }) (hf : P.funcs[f]? = some fn) (hb : (fn.name == "runtime.NumGoroutine" || fn.body.isNone) = false)
  (vs : Array Value) (hv' : args.toList.map a.eval = vs.toList) (w : World) : (execOp a.eval o).run P w = .ok (.enter f vs) w := by
 have hv : args.map a.eval = vs := by apply Array.toList_inj.1; rw [Array.toList_map]; exact hv'
 have hr := run_callFunc_body (P := P) hf hb vs w
 unfold execOp
 simp only [ho, resolve, hv, Act.eval]
 simp [Deferred.ofValue, invoke, hr]
end
end
end Go.Proofs.YthnpeebnmommbaaGreat
