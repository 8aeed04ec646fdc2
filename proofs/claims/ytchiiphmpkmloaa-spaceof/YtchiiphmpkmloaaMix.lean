/- A region that draws its order and whose operations reckon, load, store whole rows or cells, make rows and call what makes memory or fills rows that are named: walked once, in the text's order. -/
import Derived.Test.YtchiiphmpkmloaaQuiet
namespace Go.Proofs.Ytchiiphmpkmloaa
open Go.RowKit
section
variable {P : Program}
/-- What one operation does: it yields a value (of the place of the row that it makes, if it makes one), having looked at the listed rows; it makes a row, or none; it fills the listed rows.
A row's key: 2 * i + 1, if operation i makes it; 2 * n, if it is the n-th of those that stood before. -/
abbrev Sp := ((Nat → Nat) → Value) × List Nat × Option (TypeId × Array Value) × List (Nat × Array Value)
def spV (p : Nat → Nat) (s : Sp) : Value := s.1 p
/-- What the value of operation n may hang on: nothing; the place of the row that it makes; the place of a row that it has looked at. -/
def Loc (n : Nat) (s : Sp) : Prop := (∃ v, s.1 = fun _ => v) ∨ (∃ f : Nat → Value, s.1 = fun q => f (q n)) ∨ (∃ (j : Nat) (f : Nat → Value), j < n ∧ (2 * j + 1) ∈ s.2.1 ∧ s.1 = fun q => f (q j))
theorem Loc.same {n : Nat} {s : Sp} (h : Loc n s) {q q' : Nat → Nat} (h1 : q n = q' n) (h2 : ∀ j, j < n → (2 * j + 1) ∈ s.2.1 → q j = q' j) : s.1 q = s.1 q' := by
 rcases h with ⟨v, e⟩ | ⟨f, e⟩ | ⟨j, f, hj, hm, e⟩ <;> rw [e]
 ·show f (q n) = f (q' n)
  rw [h1]
 ·show f (q j) = f (q' j)
  rw [h2 j hj hm]
/-- Places, one turned. -/
def upd (p : Nat → Nat) (n g : Nat) : Nat → Nat := fun j => if j = n then g else p j
theorem upd_same (p : Nat → Nat) (n g : Nat) : upd p n g n = g := if_pos rfl
theorem upd_other (p : Nat → Nat) {n j : Nat} (g : Nat) (h : j ≠ n) : upd p n g j = p j := if_neg h
abbrev Ct := Nat → Option (TypeId × Array Value)
def ctSet (ct : Ct) (k : Nat) (x : TypeId × Array Value) : Ct := fun j => if j = k then some x else ct j
def fills (l : List (Nat × Array Value)) (k : Nat) : Option (Array Value) := (l.find? fun x => x.1 == k).map (·.2)
def spC (i : Nat) (s : Sp) (ct : Ct) : Ct := fun k =>
 match s.2.2.1, decide (k = 2 * i + 1) with
 | some m, true => some m
 | _, _ => match fills s.2.2.2 k with
  | some c => (ct k).map fun y => (y.1, c)
  | none => ct k
def hits (i : Nat) (s : Sp) : List Nat := (match s.2.2.1 with | none => [] | some _ => [2 * i + 1]) ++ s.2.2.2.map (·.1)
def keysOf (s : Sp) : List Nat := s.2.1 ++ s.2.2.2.map (·.1)
def actD (p : Nat → Nat) (d : Nat → Bool) : Nat → List (Oper × Sp) → Act → Act
 | _, [], a => a
 | n, x :: l, a => actD p d (n + 1) l (if d n = true then a.put x.1.dst (spV p x.2) else a)
def ctD (d : Nat → Bool) : Nat → List (Oper × Sp) → Ct → Ct
 | _, [], ct => ct
 | n, x :: l, ct => ctD d (n + 1) l (if d n = true then spC n x.2 ct else ct)
theorem fills_none {l : List (Nat × Array Value)} {k : Nat} (h : k ∉ l.map (·.1)) : fills l k = none := by
 unfold fills
 rw [List.find?_eq_none.2 fun x hx e => h (List.mem_map.2 ⟨x, hx, by simpa using e⟩)]
 rfl
theorem fills_some {l : List (Nat × Array Value)} {k : Nat} (h : k ∈ l.map (·.1)) : ∃ c, fills l k = some c ∧ (k, c) ∈ l := by
 unfold fills
 cases hf : l.find? fun x => x.1 == k with
 | none =>
  obtain ⟨x, hx, e⟩ := List.mem_map.1 h
  have := List.find?_eq_none.1 hf x hx
  simp [e] at this
 | some x =>
  have h1 := List.find?_some hf
  have h2 := List.mem_of_find?_eq_some hf
  have h3 : x.1 = k := by simpa using h1
  exact ⟨x.2, rfl, by rw [← h3]; exact h2⟩
theorem spC_other {i k : Nat} {s : Sp} (ct : Ct) (h : k ∉ hits i s) : spC i s ct k = ct k := by
 unfold hits at h
 rw [List.mem_append] at h
 have h2 := fills_none fun hm => h (.inr hm)
 unfold spC
 rw [h2]
 cases hm : s.2.2.1 with
 | none => rfl
 | some m =>
  have : k ≠ 2 * i + 1 := fun e => h (.inl (by rw [hm, e]; exact List.mem_singleton.2 rfl))
  simp [this]
theorem spC_same {i k : Nat} (s : Sp) {ct ct' : Ct} (h : ct k = ct' k) : spC i s ct k = spC i s ct' k := by
 unfold spC
 rw [h]
theorem spC_made {i : Nat} {s : Sp} {m : TypeId × Array Value} (hm : s.2.2.1 = some m) (ct : Ct) : spC i s ct (2 * i + 1) = some m := by
 unfold spC
 rw [hm, decide_eq_true rfl]
theorem spC_fill {i k : Nat} {s : Sp} (hk : k ∈ s.2.2.2.map (·.1)) (hne : s.2.2.1 = none ∨ k ≠ 2 * i + 1) (ct : Ct) : ∃ c, (k, c) ∈ s.2.2.2 ∧ spC i s ct k = (ct k).map fun y => (y.1, c) := by
 obtain ⟨c, hf, hm⟩ := fills_some hk
 refine ⟨c, hm, ?_⟩
 unfold spC
 rw [hf]
 rcases hne with h | h
 ·rw [h]
 ·cases s.2.2.1 with
  | none => rfl
  | some m => simp [h]
theorem ctD_agree {d d' : Nat → Bool} {k : Nat} : ∀ (l : List (Oper × Sp)) (n : Nat) (ct ct' : Ct), (∀ j x, l[j]? = some x → k ∈ hits (n + j) x.2 → d (n + j) = d' (n + j)) → ct k = ct' k → ctD d n l ct k = ctD d' n l ct' k
 | [], _, _, _, _, h => h
 | x :: l, n, ct, ct', hd, h => by
  unfold ctD
  refine ctD_agree l (n + 1) _ _ (fun j y hj hh => ?_) ?_
  ·have := hd (j + 1) y (by simpa using hj)
   rw [show n + (j + 1) = n + 1 + j by omega] at this
   exact this hh
  ·by_cases e : k ∈ hits n x.2
   ·have h0 := hd 0 x rfl e
    rw [Nat.add_zero] at h0
    rw [h0]
    split
    ·exact spC_same x.2 h
    ·exact h
   ·have h1 : (if d n = true then spC n x.2 ct else ct) k = ct k := by split; exact spC_other ct e; rfl
    have h2 : (if d' n = true then spC n x.2 ct' else ct') k = ct' k := by split; exact spC_other ct' e; rfl
    rw [h1, h2, h]
theorem actD_congr {p p' : Nat → Nat} {d d' : Nat → Bool} : ∀ (l : List (Oper × Sp)) (n : Nat) (a : Act), (∀ j, n ≤ j → d j = d' j) → (∀ j x, l[j]? = some x → d (n + j) = true → spV p x.2 = spV p' x.2) → actD p d n l a = actD p' d' n l a
 | [], _, _, _, _ => rfl
 | x :: l, n, a, hd, hp => by
  unfold actD
  rw [actD_congr l (n + 1) _ (fun j hj => hd j (by omega)) (fun j y hj hdj => hp (j + 1) y (by simpa using hj) (by rw [show n + (j + 1) = n + 1 + j by omega]; exact hdj)), ← hd n (Nat.le_refl _)]
  by_cases e : d n = true
  ·rw [if_pos e, if_pos e, hp 0 x rfl (by rw [Nat.add_zero]; exact e)]
  ·rw [if_neg e, if_neg e]
theorem actD_none {p : Nat → Nat} {d : Nat → Bool} : ∀ (l : List (Oper × Sp)) (n : Nat) (a : Act), (∀ j, n ≤ j → d j = false) → actD p d n l a = a
 | [], _, _, _ => rfl
 | x :: l, n, a, hd => by
  unfold actD
  rw [if_neg (by rw [hd n (Nat.le_refl _)]; decide)]
  exact actD_none l (n + 1) a fun j hj => hd j (by omega)
theorem ctD_none {d : Nat → Bool} : ∀ (l : List (Oper × Sp)) (n : Nat) (ct : Ct), (∀ j, n ≤ j → d j = false) → ctD d n l ct = ct
 | [], _, _, _ => rfl
 | x :: l, n, ct, hd => by
  unfold ctD
  rw [if_neg (by rw [hd n (Nat.le_refl _)]; decide)]
  exact ctD_none l (n + 1) ct fun j hj => hd j (by omega)
theorem actD_put {p : Nat → Nat} {d : Nat → Bool} {dst : Option Tmp} {v : Value} : ∀ (l : List (Oper × Sp)) (n : Nat) (a : Act), (∀ x ∈ l, ∀ s, dst = some s → x.1.dst ≠ some s) → actD p d n l (a.put dst v) = (actD p d n l a).put dst v
 | [], _, _, _ => rfl
 | x :: l, n, a, h => by
  unfold actD
  rw [← actD_put l (n + 1) _ fun y hy => h y (List.mem_cons_of_mem _ hy)]
  congr 1
  by_cases e : d n = true
  ·rw [if_pos e, if_pos e]
   exact Act.put_comm a v _ fun s hs => h x (List.mem_cons_self ..) s hs
  ·rw [if_neg e, if_neg e]
theorem actD_add {p : Nat → Nat} {d : Nat → Bool} : ∀ (l : List (Oper × Sp)) (n i : Nat) (a : Act) (x : Oper × Sp), l[i]? = some x → d (n + i) = false →
  (∀ j y, l[j]? = some y → j ≠ i → ∀ s, x.1.dst = some s → y.1.dst ≠ some s) → actD p (fun j => j == n + i || d j) n l a = (actD p d n l a).put x.1.dst (spV p x.2)
 | [], _, _, _, _, h, _, _ => by simp at h
 | y :: l, n, 0, a, x, h, hd, hs => by
  obtain rfl : y = x := by simpa using h
  unfold actD
  rw [if_pos (by simp), if_neg (by rw [Nat.add_zero] at hd; rw [hd]; decide)]
  rw [actD_congr (p' := p) (d' := d) l (n + 1) _ (fun j hj => by rw [show (j == n + 0) = false by simp; omega]; rfl) (fun _ _ _ _ => rfl)]
  refine actD_put l (n + 1) a fun z hz s hd' => ?_
  obtain ⟨j, hj⟩ := List.mem_iff_getElem?.1 hz
  exact hs (j + 1) z (by simpa using hj) (by omega) s hd'
 | y :: l, n, i + 1, a, x, h, hd, hs => by
  unfold actD
  rw [show (n == n + (i + 1) || d n) = d n by rw [show (n == n + (i + 1)) = false by simp]; rfl]
  have := actD_add (p := p) (d := d) l (n + 1) i (if d n = true then a.put y.1.dst (spV p y.2) else a) x (by simpa using h) (by rw [show n + 1 + i = n + (i + 1) by omega]; exact hd)
   (fun j z hj hne => hs (j + 1) z (by simpa using hj) (by omega))
  rw [show n + 1 + i = n + (i + 1) by omega] at this
  exact this
theorem put_size (a : Act) (dst : Option Tmp) (v : Value) : (a.put dst v).tmps.size = a.tmps.size := by cases dst <;> simp [Act.put]
theorem put_eval (a : Act) (s : Tmp) (v : Value) (t : Tmp) : (a.put (some s) v).eval (.tmp t) = if s = t ∧ t < a.tmps.size then v else a.eval (.tmp t) := by
 by_cases e : s = t
 ·subst e
  by_cases h : s < a.tmps.size <;> simp [Act.put, Act.eval, h]
 ·rw [if_neg (fun h => e h.1)]
  exact Act.eval_put fun d hd hx => e (by injection hd with hd; injection hx with hx; rw [hd, hx])
theorem actD_eval {p : Nat → Nat} {d d' : Nat → Bool} {s : Tmp} : ∀ (l : List (Oper × Sp)) (n : Nat) (a a' : Act), (∀ j x, l[j]? = some x → x.1.dst = some s → d (n + j) = d' (n + j)) → a.tmps.size = a'.tmps.size → a.eval (.tmp s) = a'.eval (.tmp s) →
  (actD p d n l a).eval (.tmp s) = (actD p d' n l a').eval (.tmp s)
 | [], _, _, _, _, _, h => h
 | x :: l, n, a, a', hd, hz, h => by
  unfold actD
  refine actD_eval l (n + 1) _ _ (fun j y hj hh => ?_) ?_ ?_
  ·have := hd (j + 1) y (by simpa using hj)
   rw [show n + (j + 1) = n + 1 + j by omega] at this
   exact this hh
  ·by_cases e : d n = true <;> by_cases e' : d' n = true <;> simp only [e, e', if_true, if_false, put_size, Bool.false_eq_true, hz]
  ·cases hx : x.1.dst with
   | none =>
    have e1 : (if d n = true then a.put none (spV p x.2) else a) = a := by split <;> rfl
    have e2 : (if d' n = true then a'.put none (spV p x.2) else a') = a' := by split <;> rfl
    rw [e1, e2, h]
   | some r =>
    by_cases e : r = s
    ·subst e
     have h0 := hd 0 x rfl hx
     rw [Nat.add_zero] at h0
     rw [h0]
     split
     ·rw [put_eval, put_eval, hz, h]
     ·exact h
    ·have e1 : (if d n = true then a.put (some r) (spV p x.2) else a).eval (.tmp s) = a.eval (.tmp s) := by
      split
      ·rw [put_eval, if_neg (fun k => e k.1)]
      ·rfl
     have e2 : (if d' n = true then a'.put (some r) (spV p x.2) else a').eval (.tmp s) = a'.eval (.tmp s) := by
      split
      ·rw [put_eval, if_neg (fun k => e k.1)]
      ·rfl
     rw [e1, e2, h]
/-- Does operation i wait for operation j, over others too? -/
def reach (l : List (Oper × Sp)) : Nat → Nat → Nat → Bool
 | 0, _, _ => false
 | f + 1, i, j => match l[i]? with
  | none => false
  | some x => x.1.after.any fun e => Region.binds .any e && (e.on == j || reach l f e.on j)
theorem reach_pre {l : List (Oper × Sp)} {d : Nat → Bool} (hc : ∀ i x, l[i]? = some x → d i = true → ∀ e ∈ x.1.after, Region.binds .any e = true → d e.on = true) : ∀ (f i j : Nat) (x : Oper × Sp), l[i]? = some x →
  (∀ e ∈ x.1.after, Region.binds .any e = true → d e.on = true) → reach l f i j = true → d j = true
 | 0, _, _, _, _, _, h => by simp [reach] at h
 | f + 1, i, j, x, hx, hpre, h => by
  unfold reach at h
  rw [hx] at h
  obtain ⟨e, he, h1⟩ := Array.any_eq_true'.1 h
  rw [Bool.and_eq_true, Bool.or_eq_true] at h1
  have hd := hpre e he h1.1
  rcases h1.2 with h2 | h2
  ·rw [← (by simpa using h2 : e.on = j)]; exact hd
  ·cases hy : l[e.on]? with
   | none => cases f <;> simp [reach, hy] at h2
   | some y => exact reach_pre hc f e.on j y hy (hc e.on y hy hd) h2
def chkPair (l : List (Oper × Sp)) (x : Oper × Sp) (i : Nat) (y : Oper × Sp) (j : Nat) : Bool :=
 j == i || ((match y.1.dst with
  | none => true
  | some s => x.1.dst != some s && (!(x.1.looksAt #[]).contains s || ((decide (j < i) && reach l l.length i j) || (decide (i < j) && reach l l.length j i)))) &&
 (hits j y.2).all fun k => !(keysOf x.2).contains k || (if j < i then reach l l.length i j else reach l l.length j i))
def chk (l : List (Oper × Sp)) : Bool :=
 l.zipIdx.all fun z => (match z.1.1.op with | .select _ _ => false | _ => true) && z.1.1.guard.isNone && (z.1.1.after.all fun e => !Region.binds .any e || decide (e.on < z.2)) && ((keysOf z.1.2).all fun k => k % 2 == 0 || decide (k / 2 < z.2)) &&
  l.zipIdx.all fun u => chkPair l z.1 z.2 u.1 u.2
/-- The world behind some operations: as it was, but for the rows at S and what is new. -/
structure Kept (S : List Nat) (w w' : World) : Prop where
 os : w'.os = w.os
 tape : w'.tape = w.tape
 output : w'.output = w.output
 size : w.heap.size ≤ w'.heap.size
 block : ∀ k, k < w.heap.size → k ∉ S → w'.heap[k]? = w.heap[k]?
theorem Kept.row {S : List Nat} {w w' : World} (h : Kept S w w') {b : Nat} {c : Array Value} {t : TypeId} (r : Row w b c t) (hb : b ∉ S) : Row w' b c t := (h.block b r.lt hb).trans r
theorem Kept.on {S : List Nat} {w w' w2 : World} (h : Kept S w w') (k : Below w'.heap.size w' w2) : Kept S w w2 :=
 ⟨k.os.trans h.os, k.tape.trans h.tape, k.output.trans h.output, Nat.le_trans h.size k.size, fun b hb hs => (k.block b (Nat.lt_of_lt_of_le hb h.size)).trans (h.block b hb hs)⟩
theorem Kept.below {S : List Nat} {w w' : World} (h : Kept S w w') (B : Nat) (hB : B ≤ w.heap.size) (hS : ∀ g ∈ S, B ≤ g) : Below B w w' :=
 ⟨h.os, h.tape, h.output, h.size, fun k hk => h.block k (by omega) fun hm => by have := hS k hm; omega⟩
/-- One block alone has turned. -/
abbrev Olds := List (Nat × TypeId × Array Value)
def addrOf (olds : Olds) (p : Nat → Nat) (k : Nat) : Nat := if k % 2 = 1 then p (k / 2) else ((olds[k / 2]?).map (·.1)).getD 0
def ct0 (olds : Olds) : Ct := fun k => if k % 2 = 1 then none else (olds[k / 2]?).map (·.2)
theorem Kept.ro {S : List Nat} {w w' : World} (h : Kept S w w') {b : Nat} {c : Array Value} {t : TypeId} (r : Row w b c t) (hb : b ∉ S := by simp <;> omega) : Row w' b c t := h.row r hb
theorem kk {S : List Nat} {w w1 w2 : World} (h : Below w.heap.size w w1) (k : Kept S w1 w2) (hS : ∀ g ∈ S, w.heap.size ≤ g := by simp <;> omega) : Below w.heap.size w w2 := h.trans (k.below w.heap.size h.size hS)
theorem k_b {S : List Nat} {w w' : World} (k : Kept S w w') (hS : ∀ g ∈ S, w.heap.size ≤ g := by simp) : Below w.heap.size w w' := k.below w.heap.size (Nat.le_refl _) hS
theorem b_o {w w1 w2 : World} (h : Below w.heap.size w w1) (k : Below w1.heap.size w1 w2) : Below w.heap.size w w2 := below_on h (Nat.le_refl _) k
theorem l_l {a b c : Nat} (h : a < b) (k : b ≤ c) : a < c := Nat.lt_of_lt_of_le h k
def RowsOf (w : World) : Olds → Prop
 | [] => True
 | x :: l => Row w x.1 x.2.2 x.2.1 ∧ RowsOf w l
/-- The world behind one operation. -/
structure Eff (olds : Olds) (p : Nat → Nat) (n : Nat) (ct : Ct) (s : Sp) (w : World) (v : Value) (w2 : World) : Prop where
 os : w2.os = w.os
 tape : w2.tape = w.tape
 output : w2.output = w.output
 size : w.heap.size ≤ w2.heap.size
 block : ∀ b, b < w.heap.size → (∀ x ∈ s.2.2.2, b ≠ addrOf olds p x.1) → w2.heap[b]? = w.heap[b]?
 filled : ∀ x ∈ s.2.2.2, ∀ y, ct x.1 = some y → Row w2 (addrOf olds p x.1) x.2 y.1
 made : (s.2.2.1 = none ∧ v = s.1 p) ∨ ∃ m g, s.2.2.1 = some m ∧ v = s.1 (upd p n g) ∧ w.heap.size ≤ g ∧ Row w2 g m.2 m.1
def effUpon (P : Program) (E : Value → World → Prop) (w : World) : Result Next → Prop
 | .ok (.value u) w' => E u w'
 | .ok .skip w' => E undef w'
 | .ok (.enter f args) w' => w' = w ∧ Calls P f args w fun e w'' => ∃ v, e = .returned v ∧ E v w''
 | _ => False
theorem opw_eff {o : Oper} {a : Act} {w : World} {E : Value → World → Prop} {K : Act → World → Prop} {Q : Exit → Act → World → Prop} (h : effUpon P E w ((execOp a.eval o).run P w)) (hK : ∀ v w2, E v w2 → K (a.put o.dst v) w2) : o.wp P a w K Q := by
 unfold Oper.wp
 generalize (execOp a.eval o).run P w = r at *
 cases r with
 | ok n w' =>
  cases n <;> simp only [effUpon] at h <;> simp only [Oper.upon]
  case value u => exact hK _ _ h
  case skip => exact hK _ _ h
  case enter f args =>
   obtain ⟨e1, hc⟩ := h
   rw [e1]
   exact hc.mono fun e w'' ⟨v, he, hE⟩ => by subst he; exact hK _ _ hE
 | halt x w' => simp only [effUpon] at h
def Ob (P : Program) (olds : Olds) (p : Nat → Nat) (W : World) (n : Nat) (ct : Ct) (o : Oper) (a : Act) (s : Sp) : Prop :=
 Loc n s ∧ (∀ x ∈ s.2.2.2, ∃ y, ct x.1 = some y) ∧ ∀ w, Kept (olds.map (·.1)) W w → (∀ k ∈ keysOf s, ∀ y, ct k = some y → Row w (addrOf olds p k) y.2 y.1) → effUpon P (Eff olds p n ct s w) w ((execOp a.eval o).run P w)
def Obs (P : Program) (olds : Olds) (p : Nat → Nat) (W : World) (F : Act → Ct → Prop) : Nat → List Oper → List Sp → Act → Ct → Prop
 | _, [], [], a, ct => F a ct
 | n, o :: l, s :: pl, a, ct => Ob P olds p W n ct o a s ∧ Obs P olds p W F (n + 1) l pl (a.put o.dst (spV p s)) (spC n s ct)
 | _, _, _, _, _ => False
theorem obs_len {olds : Olds} {p : Nat → Nat} {W : World} {F : Act → Ct → Prop} : ∀ (l : List Oper) (pl : List Sp) (n : Nat) (a : Act) (ct : Ct), Obs P olds p W F n l pl a ct → l.length = pl.length
 | [], [], _, _, _, _ => rfl
 | _ :: l, _ :: pl, _, _, _, h => by simp [obs_len l pl _ _ _ h.2]
 | [], _ :: _, _, _, _, h => h.elim
 | _ :: _, [], _, _, _, h => h.elim
theorem obs_at {olds : Olds} {p : Nat → Nat} {W : World} {F : Act → Ct → Prop} : ∀ (l : List Oper) (pl : List Sp) (n i : Nat) (a : Act) (ct : Ct) (x : Oper × Sp), Obs P olds p W F n l pl a ct → (l.zip pl)[i]? = some x →
  Ob P olds p W (n + i) (ctD (fun j => decide (j < n + i)) n (l.zip pl) ct) x.1 (actD p (fun j => decide (j < n + i)) n (l.zip pl) a) x.2
 | [], [], _, _, _, _, _, _, h => by simp at h
 | o :: l, s :: pl, n, 0, a, ct, x, h, hx => by
  obtain rfl : (o, s) = x := by simpa using hx
  rw [actD_none _ _ _ (fun j hj => by simp; omega), ctD_none _ _ _ (fun j hj => by simp; omega)]
  exact h.1
 | o :: l, s :: pl, n, i + 1, a, ct, x, h, hx => by
  have := obs_at l pl (n + 1) i _ _ x h.2 (by simpa using hx)
  rw [show n + 1 + i = n + (i + 1) by omega] at this
  rw [List.zip_cons_cons]
  unfold ctD actD
  rw [if_pos (by simp), if_pos (by simp)]
  exact this
 | [], _ :: _, _, _, _, _, _, h, _ => h.elim
 | _ :: _, [], _, _, _, _, _, h, _ => h.elim
theorem obs_end {olds : Olds} {p : Nat → Nat} {W : World} {F : Act → Ct → Prop} {d : Nat → Bool} : ∀ (l : List Oper) (pl : List Sp) (n : Nat) (a : Act) (ct : Ct), Obs P olds p W F n l pl a ct → (∀ j, n ≤ j → j < n + l.length → d j = true) →
  F (actD p d n (l.zip pl) a) (ctD d n (l.zip pl) ct)
 | [], [], _, _, _, h, _ => h
 | o :: l, s :: pl, n, a, ct, h, hd => by
  rw [List.zip_cons_cons]
  unfold ctD actD
  have h0 := hd n (Nat.le_refl _) (by simp)
  rw [if_pos h0, if_pos h0]
  exact obs_end l pl (n + 1) _ _ h.2 fun j h1 h2 => hd j (by omega) (by simp; omega)
 | [], _ :: _, _, _, _, h, _ => h.elim
 | _ :: _, [], _, _, _, h, _ => h.elim
theorem ctD_upto : ∀ (l : List (Oper × Sp)) (n i : Nat) (ct : Ct) (x : Oper × Sp), l[i]? = some x → ctD (fun j => decide (j < n + i + 1)) n l ct = spC (n + i) x.2 (ctD (fun j => decide (j < n + i)) n l ct)
 | [], _, _, _, _, h => by simp at h
 | y :: l, n, 0, ct, x, h => by
  obtain rfl : y = x := by simpa using h
  unfold ctD
  rw [if_pos (by simp), if_neg (by simp), ctD_none _ _ _ (fun j hj => by simp; omega), ctD_none _ _ _ (fun j hj => by simp; omega)]
  rfl
 | y :: l, n, i + 1, ct, x, h => by
  have := ctD_upto l (n + 1) i (spC n y.2 ct) x (by simpa using h)
  rw [show n + 1 + i = n + (i + 1) by omega] at this
  unfold ctD
  rw [if_pos (by simp; omega), if_pos (by simp)]
  exact this
theorem rowsOf_get {w : World} : ∀ (olds : Olds) (n : Nat) (x : Nat × TypeId × Array Value), RowsOf w olds → olds[n]? = some x → Row w x.1 x.2.2 x.2.1
 | [], _, _, _, h => by simp at h
 | y :: l, 0, x, h, hx => by
  obtain rfl : y = x := by simpa using hx
  exact h.1
 | y :: l, n + 1, x, h, hx => rowsOf_get l n x h.2 (by simpa using hx)
/-- The walk in the text's order, behind a name that is not opened. -/
structure MX (P : Program) (olds : Olds) (p : Nat → Nat) (W : World) (F : Act → Ct → Prop) (n : Nat) (l : List Oper) (pl : List Sp) (a : Act) (ct : Ct) : Prop where
 out : Obs P olds p W F n l pl a ct
/-- What is owed at its end. -/
def FinF (olds : Olds) (p : Nat → Nat) (W : World) (Q : Exit → Act → World → Prop) : Act → Ct → Prop := fun a ct =>
 ∀ w, Kept (olds.map (·.1)) W w → (∀ k y, ct k = some y → Row w (addrOf olds p k) y.2 y.1) → (∀ i, (ct (2 * i + 1)).isSome = true → W.heap.size ≤ p i) →
  (∀ i j, i ≠ j → (ct (2 * i + 1)).isSome = true → (ct (2 * j + 1)).isSome = true → p i ≠ p j) → Q .normal a w
theorem addr_odd (olds : Olds) (p : Nat → Nat) (i : Nat) : addrOf olds p (2 * i + 1) = p i := by
 unfold addrOf
 rw [if_pos (by omega), show (2 * i + 1) / 2 = i by omega]
/-- The rows that stand: each where its key says. -/
structure St (olds : Olds) (p : Nat → Nat) (W w : World) (ct : Ct) : Prop where
 kept : Kept (olds.map (·.1)) W w
 row : ∀ k y, ct k = some y → Row w (addrOf olds p k) y.2 y.1
 even : ∀ k y, ct k = some y → k % 2 = 0 → ∃ q, olds[k / 2]? = some q
 new : ∀ i, (ct (2 * i + 1)).isSome = true → W.heap.size ≤ p i
 apart : ∀ i j, i ≠ j → (ct (2 * i + 1)).isSome = true → (ct (2 * j + 1)).isSome = true → p i ≠ p j
theorem addr_congr {olds : Olds} {p p' : Nat → Nat} {k : Nat} (h : k % 2 = 1 → p (k / 2) = p' (k / 2)) : addrOf olds p k = addrOf olds p' k := by
 unfold addrOf
 by_cases e : k % 2 = 1
 ·rw [if_pos e, if_pos e, h e]
 ·rw [if_neg e, if_neg e]
theorem St.place {olds : Olds} {p : Nat → Nat} {W w : World} {ct : Ct} (h : St olds p W w ct) (hr : RowsOf W olds) {k : Nat} {y : TypeId × Array Value} (hk : ct k = some y) :
  (k % 2 = 1 ∧ addrOf olds p k = p (k / 2) ∧ W.heap.size ≤ p (k / 2)) ∨ (k % 2 = 0 ∧ ∃ q, olds[k / 2]? = some q ∧ addrOf olds p k = q.1 ∧ q.1 < W.heap.size) := by
 have hc : k % 2 = 0 ∨ k % 2 = 1 := by omega
 rcases hc with hc | hc
 ·obtain ⟨q, hq⟩ := h.even k y hk hc
  refine .inr ⟨hc, q, hq, ?_, (rowsOf_get olds _ q hr hq).lt⟩
  unfold addrOf
  rw [if_neg (by omega), hq]; rfl
 ·refine .inl ⟨hc, by unfold addrOf; rw [if_pos hc], h.new (k / 2) ?_⟩
  rw [show 2 * (k / 2) + 1 = k by omega, hk]; rfl
theorem St.far {olds : Olds} {p : Nat → Nat} {W w : World} {ct : Ct} (h : St olds p W w ct) (hr : RowsOf W olds) (hn : (olds.map (·.1)).Nodup) {k m : Nat} {y u : TypeId × Array Value} (hk : ct k = some y) (hm : ct m = some u) (hne : k ≠ m) :
  addrOf olds p k ≠ addrOf olds p m := by
 rcases h.place hr hk with ⟨h1, e1, l1⟩ | ⟨h1, q, hq, e1, l1⟩ <;> rcases h.place hr hm with ⟨h2, e2, l2⟩ | ⟨h2, q', hq', e2, l2⟩
 ·rw [e1, e2]
  refine h.apart (k / 2) (m / 2) (by omega) ?_ ?_
  ·rw [show 2 * (k / 2) + 1 = k by omega, hk]; rfl
  ·rw [show 2 * (m / 2) + 1 = m by omega, hm]; rfl
 ·rw [e1, e2]; omega
 ·rw [e1, e2]; omega
 ·rw [e1, e2]
  intro e
  have hi1 : (olds.map (·.1))[k / 2]? = some q.1 := by rw [List.getElem?_map, hq]; rfl
  have hi2 : (olds.map (·.1))[m / 2]? = some q.1 := by rw [List.getElem?_map, hq', e]; rfl
  have := (List.getElem?_inj (List.getElem?_eq_some_iff.1 hi1).1 hn).1 (hi1.trans hi2.symm)
  omega
theorem st_first {olds : Olds} {p : Nat → Nat} {W w : World} (hr : RowsOf W olds) (hk : Kept (olds.map (·.1)) W w) (hh : w.heap = W.heap) : St olds p W w (ct0 olds) := by
 refine ⟨hk, fun k y hy => ?_, fun k y hy he => ?_, fun i hi => ?_, fun i j _ hi => ?_⟩
 ·unfold ct0 at hy
  unfold addrOf
  split at hy
  ·cases hy
  ·rename_i hk'
   rw [if_neg hk']
   cases hq : olds[k / 2]? with
   | none => rw [hq] at hy; cases hy
   | some q =>
    rw [hq] at hy
    obtain rfl : q.2 = y := by simpa using hy
    have r := rowsOf_get olds _ q hr hq
    unfold Row at r ⊢
    rw [hh]
    exact r
 ·unfold ct0 at hy
  rw [if_neg (by omega)] at hy
  cases hq : olds[k / 2]? with
  | none => rw [hq] at hy; cases hy
  | some q => exact ⟨q, rfl⟩
 ·unfold ct0 at hi
  rw [if_pos (by omega)] at hi
  cases hi
 ·unfold ct0 at hi
  rw [if_pos (by omega)] at hi
  cases hi
theorem spC_from {i k : Nat} {s : Sp} {ct : Ct} {y : TypeId × Array Value} (h : spC i s ct k = some y) : (s.2.2.1 = some y ∧ k = 2 * i + 1) ∨ (∃ u, ct k = some u) := by
 unfold spC at h
 cases hm : s.2.2.1 with
 | none =>
  rw [hm] at h
  cases hf : fills s.2.2.2 k with
  | none => rw [hf] at h; exact .inr ⟨y, h⟩
  | some c =>
   rw [hf] at h
   cases hc : ct k with
   | none => rw [hc] at h; cases h
   | some u => exact .inr ⟨u, rfl⟩
 | some m =>
  by_cases e : k = 2 * i + 1
  ·rw [hm, decide_eq_true e] at h
   exact .inl ⟨h, e⟩
  ·rw [hm, decide_eq_false e] at h
   cases hf : fills s.2.2.2 k with
   | none => rw [hf] at h; exact .inr ⟨y, h⟩
   | some c =>
    rw [hf] at h
    cases hc : ct k with
    | none => rw [hc] at h; cases h
    | some u => exact .inr ⟨u, rfl⟩
/-- One operation on. -/
theorem st_step {olds : Olds} {p : Nat → Nat} {W w w2 : World} {ct ctO : Ct} {i : Nat} {s : Sp} {v : Value} (hs : St olds p W w ct) (hr : RowsOf W olds) (hn : (olds.map (·.1)).Nodup) (h2 : ct (2 * i + 1) = none) (hag : ∀ k ∈ keysOf s, ct k = ctO k)
  (hfil : ∀ x ∈ s.2.2.2, ∃ y, ctO x.1 = some y) (E : Eff olds p i ctO s w v w2) : ∃ p', (∀ j, j ≠ i → p' j = p j) ∧ (s.2.2.1 = none → p' = p) ∧ v = spV p' s ∧ St olds p' W w2 (spC i s ct) := by
 obtain ⟨g, p', hp', hpn, hv, hm⟩ : ∃ (g : Nat) (p' : Nat → Nat), (∀ j, j ≠ i → p' j = p j) ∧ (s.2.2.1 = none → p' = p) ∧ v = s.1 p' ∧ ∀ m, s.2.2.1 = some m → p' i = g ∧ w.heap.size ≤ g ∧ Row w2 g m.2 m.1 := by
  rcases E.made with ⟨h1, h3⟩ | ⟨m, g, h1, h3, h4, h5⟩
  ·exact ⟨0, p, fun _ _ => rfl, fun _ => rfl, h3, fun m hm => by rw [h1] at hm; cases hm⟩
  ·exact ⟨g, upd p i g, fun j hj => upd_other p g hj, fun hn' => (by rw [h1] at hn'; cases hn'), h3, fun m' hm => by rw [h1] at hm; cases hm; exact ⟨upd_same p i g, h4, h5⟩⟩
 have hfk : ∀ x ∈ s.2.2.2, x.1 ∈ keysOf s := fun x hx => List.mem_append_right _ (List.mem_map.2 ⟨x, hx, rfl⟩)
 have hfc : ∀ x ∈ s.2.2.2, ∃ y, ct x.1 = some y ∧ ctO x.1 = some y := fun x hx => by
  obtain ⟨y, hy⟩ := hfil x hx
  exact ⟨y, (hag _ (hfk x hx)).trans hy, hy⟩
 have hadd : ∀ k y, ct k = some y → addrOf olds p' k = addrOf olds p k := fun k y hy => addr_congr fun ho =>
  hp' _ fun e => by rw [show k = 2 * i + 1 by omega, h2] at hy; cases hy
 refine ⟨p', hp', hpn, hv, ⟨⟨E.os.trans hs.kept.os, E.tape.trans hs.kept.tape, E.output.trans hs.kept.output, Nat.le_trans hs.kept.size E.size, fun b hb hS => ?_⟩, fun k y hy => ?_, fun k y hy he => ?_, fun j hj => ?_, fun j j' hne hj hj' => ?_⟩⟩
 ·refine (E.block b (Nat.lt_of_lt_of_le hb hs.kept.size) fun x hx e => ?_).trans (hs.kept.block b hb hS)
  obtain ⟨y, hy, _⟩ := hfc x hx
  rcases hs.place hr hy with ⟨_, e1, l1⟩ | ⟨_, q, hq, e1, _⟩
  ·omega
  ·exact hS (by rw [e, e1]; exact List.mem_map.2 ⟨q, List.mem_of_getElem? hq, rfl⟩)
 ·rcases spC_from hy with ⟨h1, e⟩ | ⟨u, hu⟩
  ·subst e
   rw [addr_odd, (hm y h1).1]
   exact (hm y h1).2.2
  ·rw [hadd k u hu]
   have hk : k ≠ 2 * i + 1 := fun e => by rw [e, h2] at hu; cases hu
   by_cases hf : k ∈ s.2.2.2.map (·.1)
   ·obtain ⟨c, hc, e⟩ := spC_fill hf (.inr hk) ct
    rw [e, hu] at hy
    obtain rfl : (u.1, c) = y := Option.some.inj hy
    obtain ⟨u', hu', hO⟩ := hfc _ hc
    obtain rfl : u' = u := Option.some.inj (hu'.symm.trans hu)
    exact E.filled (k, c) hc u' hO
   ·rw [spC_other ct (fun hh => by
     rcases List.mem_append.1 hh with h3 | h3
     ·cases hmm : s.2.2.1 with
      | none => rw [hmm] at h3; cases h3
      | some m => rw [hmm] at h3; exact hk (List.mem_singleton.1 h3)
     ·exact hf h3)] at hy
    have r := hs.row k y hy
    refine (E.block _ r.lt fun x hx => ?_).trans r
    obtain ⟨y', hy', _⟩ := hfc x hx
    exact hs.far hr hn hy hy' fun e => hf (List.mem_map.2 ⟨x, hx, e.symm⟩)
 ·rcases spC_from hy with ⟨_, e⟩ | ⟨u, hu⟩
  ·omega
  ·exact hs.even k u hu he
 ·obtain ⟨y, hy⟩ := Option.isSome_iff_exists.1 hj
  rcases spC_from hy with ⟨h1, e⟩ | ⟨u, hu⟩
  ·rw [show j = i by omega, (hm y h1).1]
   exact Nat.le_trans hs.kept.size (hm y h1).2.1
  ·rw [hp' j fun e => by rw [e, h2] at hu; cases hu]
   exact hs.new j (by rw [hu]; rfl)
 ·have hlt : ∀ m, m ≠ i → (spC i s ct (2 * m + 1)).isSome = true → (ct (2 * m + 1)).isSome = true ∧ p m < w.heap.size := fun m hmi hsm => by
   obtain ⟨y, hy⟩ := Option.isSome_iff_exists.1 hsm
   rcases spC_from hy with ⟨_, e⟩ | ⟨u, hu⟩
   ·omega
   ·have := (hs.row _ u hu).lt
    rw [addr_odd] at this
    exact ⟨by rw [hu]; rfl, this⟩
  have hg : ∀ m, m = i → (spC i s ct (2 * m + 1)).isSome = true → w.heap.size ≤ p' m := fun m hmi hsm => by
   subst hmi
   obtain ⟨y, hy⟩ := Option.isSome_iff_exists.1 hsm
   rcases spC_from hy with ⟨h1, _⟩ | ⟨u, hu⟩
   ·rw [(hm y h1).1]; exact (hm y h1).2.1
   ·rw [h2] at hu; cases hu
  by_cases e : j = i
  ·rw [hp' j' (by omega)]
   have := hg j e hj
   have := (hlt j' (by omega) hj').2
   omega
  ·rw [hp' j e]
   by_cases e' : j' = i
   ·have := hg j' e' hj'
    have := (hlt j e hj).2
    omega
   ·rw [hp' j' e']
    exact hs.apart j j' hne (hlt j e hj).1 (hlt j' e' hj').1
theorem ctD_unmade {d : Nat → Bool} {i : Nat} (hd : d i = false) : ∀ (l : List (Oper × Sp)) (n : Nat) (ct : Ct), ct (2 * i + 1) = none → ctD d n l ct (2 * i + 1) = none
 | [], _, _, h => h
 | x :: l, n, ct, h => by
  unfold ctD
  refine ctD_unmade hd l (n + 1) _ ?_
  by_cases e : d n = true
  ·rw [if_pos e]
   cases hc : spC n x.2 ct (2 * i + 1) with
   | none => rfl
   | some y =>
    rcases spC_from hc with ⟨_, e'⟩ | ⟨u, hu⟩
    ·rw [show n = i by omega, hd] at e; cases e
    ·rw [h] at hu; cases hu
  ·rw [if_neg e]; exact h
theorem wp_region_mix {id : Nat} {l : List Oper} {a : Act} {W : World} {Q : Exit → Act → World → Prop} (hm : P.follows .mixedOrders = true) (olds : Olds) (plan : List Sp) (hr : RowsOf W olds) (hn : (olds.map (·.1)).Nodup)
  (h : ∀ p, MX P olds p W (FinF olds p W Q) 0 l plan a (ct0 olds)) (hchk : chk (l.zip plan) = true) : (Code.region id l.toArray true).wp P Q a W := by
 have hlen : l.length = plan.length := obs_len l plan _ _ _ (h fun _ => 0).out
 have hobs : ∀ p i x, (l.zip plan)[i]? = some x → Ob P olds p W i (ctD (fun j => decide (j < i)) 0 (l.zip plan) (ct0 olds)) x.1 (actD p (fun j => decide (j < i)) 0 (l.zip plan) a) x.2 := fun p i x hx => by
  have := obs_at l plan 0 i a (ct0 olds) x (h p).out hx
  rw [Nat.zero_add] at this
  exact this
 have hend : ∀ p (d : Nat → Bool), (∀ j, j < l.length → d j = true) → FinF olds p W Q (actD p d 0 (l.zip plan) a) (ctD d 0 (l.zip plan) (ct0 olds)) := fun p d hd =>
  obs_end l plan 0 a (ct0 olds) (h p).out fun j _ hj => hd j (by omega)
 have hzip : ∀ i o, l[i]? = some o → ∃ s, (l.zip plan)[i]? = some (o, s) := fun i o ho => by
  have hi : i < l.length := (List.getElem?_eq_some_iff.1 ho).1
  refine ⟨plan[i]'(by omega), ?_⟩
  rw [List.getElem?_zip_eq_some]
  exact ⟨ho, by simp⟩
 generalize l.zip plan = z at *
 clear h
 have hC : ∀ i x, z[i]? = some x → (∀ cs b, x.1.op ≠ .select cs b) ∧ x.1.guard.isNone = true ∧ (∀ e ∈ x.1.after, Region.binds .any e = true → e.on < i) ∧ (∀ k ∈ keysOf x.2, k % 2 = 0 ∨ k / 2 < i) ∧ ∀ j y, z[j]? = some y → chkPair z x i y j = true := by
  intro i x hx
  have h1 : (x, i) ∈ z.zipIdx := by rw [List.mem_zipIdx_iff_getElem?]; exact hx
  have h2 := List.all_eq_true.1 hchk _ h1
  simp only [Bool.and_eq_true] at h2
  obtain ⟨⟨⟨⟨a1, a2⟩, a3⟩, a4⟩, a5⟩ := h2
  refine ⟨fun cs b e => (by rw [e] at a1; cases a1), a2, fun e he hb => ?_, fun k hk => ?_, fun j y hy => ?_⟩
  ·have := Array.all_eq_true_iff_forall_mem.1 a3 e he
   rw [hb] at this
   simpa using this
  ·have := List.all_eq_true.1 a4 k hk
   simpa using this
  ·have h3 : (y, j) ∈ z.zipIdx := by rw [List.mem_zipIdx_iff_getElem?]; exact hy
   exact List.all_eq_true.1 a5 _ h3
 have hP : ∀ i x, z[i]? = some x → ∀ j y, z[j]? = some y → j ≠ i →
   (∀ s, y.1.dst = some s → x.1.dst ≠ some s ∧ (s ∈ x.1.looksAt #[] → (j < i ∧ reach z z.length i j = true) ∨ (i < j ∧ reach z z.length j i = true))) ∧
   (∀ k, k ∈ hits j y.2 → k ∈ keysOf x.2 → (j < i → reach z z.length i j = true) ∧ (i < j → reach z z.length j i = true)) := by
  intro i x hx j y hy hne
  have h1 := (hC i x hx).2.2.2.2 j y hy
  unfold chkPair at h1
  rw [show (j == i) = false by simpa using hne, Bool.false_or, Bool.and_eq_true] at h1
  refine ⟨fun s hs => ?_, fun k hk hmem => ?_⟩
  ·have h2 := h1.1
   rw [hs] at h2
   simp only [Bool.and_eq_true, Bool.or_eq_true, bne_iff_ne, ne_eq, Bool.not_eq_true', decide_eq_true_eq] at h2
   refine ⟨h2.1, fun hl => ?_⟩
   rcases h2.2 with h3 | h3
   ·rw [List.contains_iff_mem.2 hl] at h3; cases h3
   ·exact h3
  ·have h2 := List.all_eq_true.1 h1.2 k hk
   simp only [Bool.or_eq_true, Bool.not_eq_true'] at h2
   rcases h2 with h3 | h3
   ·rw [List.contains_iff_mem.2 hmem] at h3; cases h3
   ·refine ⟨fun hj => ?_, fun hj => ?_⟩
    ·rw [if_pos hj] at h3; exact h3
    ·rw [if_neg (by omega)] at h3; exact h3
 refine wp_region_inv0 hm (fun d a' w' => ∃ p, a' = actD p d 0 z a ∧ St olds p W w' (ctD d 0 z (ct0 olds)) ∧
  (∀ i x, z[i]? = some x → d i = true → ∀ e ∈ x.1.after, Region.binds .any e = true → d e.on = true)) ?lex ?start ?step ?fin
 case lex =>
  rw [List.all_eq_true]
  intro x hx
  obtain ⟨s, hs⟩ := hzip x.2 x.1 (List.mem_zipIdx_iff_getElem?.1 hx)
  obtain ⟨_, h2, h3, _⟩ := hC _ _ hs
  rw [Bool.and_eq_true]
  refine ⟨h2, ?_⟩
  rw [Array.all_eq_true_iff_forall_mem]
  intro e he
  cases hb : Region.binds .any e
  ·rfl
  ·simpa using h3 e he hb
 case start =>
  refine ⟨fun _ => 0, (actD_none _ _ _ fun _ _ => rfl).symm, ?_, fun i x _ hd => by cases hd⟩
  rw [ctD_none _ _ _ (fun _ _ => rfl)]
  exact st_first hr ⟨rfl, rfl, rfl, Nat.le_refl _, fun _ _ _ => rfl⟩ rfl
 case fin =>
  rintro d a' w' ⟨p, rfl, hs, _⟩ hd
  exact hend p d hd w' hs.kept hs.row hs.new hs.apart
 case step =>
  rintro i o ho d a' w' ⟨p, rfl, hst, hcl⟩ hd hpre
  obtain ⟨s, hx⟩ := hzip i o ho
  obtain ⟨hsel, _, _, hkeys, _⟩ := hC i _ hx
  have hwait : ∀ j, reach z z.length i j = true → d j = true := fun j hj => reach_pre hcl _ i j _ hx hpre hj
  have hlater : ∀ j y, z[j]? = some y → reach z z.length j i = true → d j = false := fun j y hy hj => by
   cases hdj : d j
   ·rfl
   ·rw [reach_pre hcl _ j i y hy (hcl j y hy hdj) hj] at hd; cases hd
  have E : execOp (actD p d 0 z a).eval o = execOp (actD p (fun j => decide (j < i)) 0 z a).eval o := by
   refine execOp_congr o hsel fun y hy => ?_
   cases y with
   | tmp t =>
    refine actD_eval z 0 a a (fun j x' hj hdst => ?_) rfl rfl
    rw [Nat.zero_add]
    by_cases hji : j = i
    ·subst hji; rw [hd]; simp
    ·have hl : t ∈ o.looksAt #[] := List.mem_append_left _ (List.mem_filterMap.2 ⟨.tmp t, by simpa using hy, rfl⟩)
     rcases ((hP i _ hx j x' hj hji).1 t hdst).2 hl with ⟨h1, h2⟩ | ⟨h1, h2⟩
     ·rw [hwait j h2]; simp [h1]
     ·rw [hlater j x' hj h2]; simp; omega
   | _ => rfl
  have CT : ∀ k ∈ keysOf s, ctD d 0 z (ct0 olds) k = ctD (fun j => decide (j < i)) 0 z (ct0 olds) k := fun k hk' => by
   refine ctD_agree z 0 _ _ (fun j y hj hh => ?_) rfl
   rw [Nat.zero_add] at hh ⊢
   by_cases hji : j = i
   ·subst hji; rw [hd]; simp
   ·obtain ⟨h1, h2⟩ := (hP i _ hx j y hj hji).2 k hh hk'
    rcases Nat.lt_or_ge j i with hlt | hge
    ·rw [hwait j (h1 hlt)]; simp [hlt]
    ·rw [hlater j y hj (h2 (by omega))]; simp; omega
  have h2i : ctD d 0 z (ct0 olds) (2 * i + 1) = none := ctD_unmade hd z 0 _ (by unfold ct0; rw [if_pos (by omega)])
  have CC : ctD (fun j => j == i || d j) 0 z (ct0 olds) = spC i s (ctD d 0 z (ct0 olds)) := by
   funext k
   by_cases hk : k ∈ hits i s
   ·have hu := ctD_upto z 0 i (ct0 olds) _ hx
    rw [Nat.zero_add] at hu
    have h1 : ctD (fun j => j == i || d j) 0 z (ct0 olds) k = spC i s (ctD (fun j => decide (j < i)) 0 z (ct0 olds)) k := by
     rw [← hu]
     refine ctD_agree z 0 _ _ (fun j y hj hh => ?_) rfl
     rw [Nat.zero_add] at hh ⊢
     by_cases hji : j = i
     ·subst hji; simp
     ·rw [show (j == i) = false by simpa using hji, Bool.false_or]
      have hmain : (j < i → reach z z.length i j = true) ∧ (i < j → reach z z.length j i = true) := by
       rcases List.mem_append.1 hk with h3 | h3
       ·have hk2 : k = 2 * i + 1 := by
         cases hmm : s.2.2.1 with
         | none => rw [hmm] at h3; cases h3
         | some m => rw [hmm] at h3; exact List.mem_singleton.1 h3
        rcases List.mem_append.1 hh with h4 | h4
        ·exfalso
         cases hmm : y.2.2.2.1 with
         | none => rw [hmm] at h4; cases h4
         | some m =>
          rw [hmm] at h4
          have := List.mem_singleton.1 h4
          omega
        ·have hkk : k ∈ keysOf y.2 := List.mem_append_right _ h4
         have h5 := (hP j y hj i _ hx (fun e => hji e.symm)).2 k hk hkk
         have h6 := (hC j y hj).2.2.2.1 _ hkk
         exact ⟨fun hlt => by omega, fun hlt => h5.1 hlt⟩
       ·exact (hP i _ hx j y hj hji).2 k hh (List.mem_append_right _ h3)
      rcases Nat.lt_or_ge j i with hlt | hge
      ·rw [hwait j (hmain.1 hlt)]; simp; omega
      ·rw [hlater j y hj (hmain.2 (by omega))]; simp; omega
    rw [h1]
    rcases List.mem_append.1 hk with h3 | h3
    ·cases hmm : s.2.2.1 with
     | none => rw [hmm] at h3; cases h3
     | some m =>
      rw [hmm] at h3
      rw [List.mem_singleton.1 h3, spC_made hmm, spC_made hmm]
    ·exact spC_same s (CT k (List.mem_append_right _ h3)).symm
   ·rw [spC_other _ hk]
    refine ctD_agree z 0 _ _ (fun j y hj hh => ?_) rfl
    rw [Nat.zero_add] at hh ⊢
    by_cases hji : j = i
    ·subst hji
     rw [hx] at hj
     obtain rfl : (o, s) = y := by simpa using hj
     exact absurd hh hk
    ·rw [show (j == i) = false by simpa using hji]; rfl
  have hcl' : ∀ i' x', z[i']? = some x' → (i' == i || d i') = true → ∀ e ∈ x'.1.after, Region.binds .any e = true → (e.on == i || d e.on) = true := fun i' x' hx' hd' e he hb => by
   by_cases hii : i' = i
   ·subst hii
    rw [hx] at hx'
    obtain rfl : (o, s) = x' := by simpa using hx'
    rw [hpre e he hb, Bool.or_true]
   ·rw [show (i' == i) = false by simpa using hii, Bool.false_or] at hd'
    rw [hcl i' x' hx' hd' e he hb, Bool.or_true]
  have hadd : ∀ p' : Nat → Nat, (∀ j, j ≠ i → p' j = p j) → (s.2.2.1 = none → p' = p) → (actD p d 0 z a).put o.dst (spV p' s) = actD p' (fun j => j == i || d j) 0 z a := fun p' hp' hpn => by
   have := actD_add (p := p') (d := d) z 0 i a _ hx (by rw [Nat.zero_add]; exact hd) (fun j y hj hji t ht => by
    intro e
    exact ((hP i _ hx j y hj hji).1 t e).1 ht)
   rw [Nat.zero_add] at this
   rw [this, actD_congr (p' := p') (d' := d) z 0 a (fun _ _ => rfl) (fun j y hj hdj => ?_)]
   rw [Nat.zero_add] at hdj
   cases hmm : s.2.2.1 with
   | none => rw [hpn hmm]
   | some m =>
    have hji : j ≠ i := fun e => by rw [e, hd] at hdj; cases hdj
    refine (hobs p j _ hj).1.same (hp' j hji).symm fun m' hm' hr' => (hp' m' fun e => ?_).symm
    subst e
    have hk : 2 * m' + 1 ∈ hits m' s := List.mem_append_left _ (by rw [hmm]; exact List.mem_singleton.2 rfl)
    have h5 := ((hP j y hj m' _ hx (fun e => hji e.symm)).2 _ hk (List.mem_append_left _ hr')).1 hm'
    rw [reach_pre hcl _ j m' y hj (hcl j y hj hdj) h5] at hd
    cases hd
  obtain ⟨_, hfil, hob⟩ := hobs p i _ hx
  have hq := hob w' hst.kept fun k hkk y hy => hst.row k y (by rw [CT k hkk]; exact hy)
  rw [← E] at hq
  refine ⟨opw_eff hq fun v w2 hE => ?_⟩
  obtain ⟨p', hp', hpn, hv, hs'⟩ := st_step hst hr hn h2i (fun k hk => CT k hk) hfil hE
  refine ⟨p', ?_, by rw [CC]; exact hs', hcl'⟩
  rw [hv]
  exact hadd p' hp' hpn
theorem plain_mix {ops : Array Oper} {W : World} {Q : Exit → Act → World → Prop} {olds : Olds} (hr : RowsOf W olds) (hn : (olds.map (·.1)).Nodup) : ∀ (l : List Oper) (pl : List Sp) (n : Nat) (a : Act) (ct : Ct) (w : World) (p : Nat → Nat),
  (∀ p', (∀ j, j < n → p' j = p j) → Obs P olds p' W (FinF olds p' W Q) n l pl a ct) → St olds p W w ct → (∀ i, (ct (2 * i + 1)).isSome = true → i < n) → (l.all fun o => o.guard.isNone) = true → wpList P ops Q l a w
 | [], [], n, a, ct, w, p, h, hs, _, _ => (h p fun _ _ => rfl) w hs.kept hs.row hs.new hs.apart
 | o :: l, s :: pl, n, a, ct, w, p, h, hs, hi, hg => by
  rw [List.all_cons, Bool.and_eq_true] at hg
  have hgd : o.guard = none := by simpa using hg.1
  refine wpList_plain hgd fun K hK => ?_
  obtain ⟨hloc, hfil, hob⟩ := (h p fun _ _ => rfl).1
  have h2 : ct (2 * n + 1) = none := by
   cases hc : ct (2 * n + 1) with
   | none => rfl
   | some y => have := hi n (by rw [hc]; rfl); omega
  refine opw_eff (hob w hs.kept fun k _ y hy => hs.row k y hy) fun v w2 hE => hK _ _ ?_
  obtain ⟨p', hp', _, hv, hs'⟩ := st_step hs hr hn h2 (fun _ _ => rfl) hfil hE
  rw [hv]
  refine plain_mix hr hn l pl (n + 1) _ _ w2 p' (fun q hq => ?_) hs' (fun i hsm => ?_) hg.2
  ·have h3 := (h q fun j hj => (hq j (by omega)).trans (hp' j (by omega))).2
   have h4 : spV q s = spV p' s := hloc.same (hq n (by omega)) fun j hj _ => hq j (by omega)
   rw [h4] at h3
   exact h3
  ·obtain ⟨y, hy⟩ := Option.isSome_iff_exists.1 hsm
   rcases spC_from hy with ⟨_, e⟩ | ⟨u, hu⟩
   ·omega
   ·have := hi i (by rw [hu]; rfl)
    omega
 | [], _ :: _, _, _, _, _, p, h, _, _, _ => (h p fun _ _ => rfl).elim
 | _ :: _, [], _, _, _, _, p, h, _, _, _ => (h p fun _ _ => rfl).elim
theorem wp_region_mixp {id : Nat} {l : List Oper} {a : Act} {W : World} {Q : Exit → Act → World → Prop} (olds : Olds) (plan : List Sp) (hr : RowsOf W olds) (hn : (olds.map (·.1)).Nodup)
  (h : ∀ p, MX P olds p W (FinF olds p W Q) 0 l plan a (ct0 olds)) (hg : (l.all fun o => o.guard.isNone) = true) : (Code.region id l.toArray false).wp P Q a W := by
 refine wp_region_lit (plain_mix hr hn l plan 0 a (ct0 olds) W (fun _ => 0) (fun p' _ => (h p').out) (st_first hr ⟨rfl, rfl, rfl, Nat.le_refl _, fun _ _ _ => rfl⟩ rfl) (fun i hi => ?_) hg)
 unfold ct0 at hi
 rw [if_pos (by omega)] at hi
 cases hi
end
end Go.Proofs.Ytchiiphmpkmloaa
