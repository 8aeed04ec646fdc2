/- A region that draws its order and whose operations reckon, load, store whole rows or cells, make rows and call what only makes memory: walked once, in the text's order. -/
import Derived.Test.YtmmjjohnejimdaaQuiet
namespace Go.Proofs.Ytmmjjohnejimdaa
open Go.RowKit
section
variable {P : Program}

/-- What one operation does: it yields a value, having looked at the listed rows · it makes a row · it fills a row. A row's key: 2 * i + 1, if operation i makes it; 2 * n, if it is the n-th of those that stood before. -/
abbrev Sp := Sum (Value × List Nat) (Sum (TypeId × Array Value) (Nat × Array Value))
def spV (p : Nat → Nat) (i : Nat) : Sp → Value
  | .inl x => x.1
  | .inr (.inl _) => .pointer (some ⟨p i, 0, none⟩)
  | .inr (.inr _) => undef
abbrev Ct := Nat → Option (TypeId × Array Value)
def ctSet (ct : Ct) (k : Nat) (x : TypeId × Array Value) : Ct := fun j => if j = k then some x else ct j
def spC (i : Nat) (s : Sp) (ct : Ct) : Ct :=
  match s with
  | .inl _ => ct
  | .inr (.inl x) => ctSet ct (2 * i + 1) x
  | .inr (.inr x) => ctSet ct x.1 (((ct x.1).map (·.1)).getD 0, x.2)
def hits (i : Nat) (s : Sp) : Option Nat :=
  match s with
  | .inl _ => none
  | .inr (.inl _) => some (2 * i + 1)
  | .inr (.inr x) => some x.1
def keysOf (s : Sp) : List Nat :=
  match s with
  | .inl x => x.2
  | .inr (.inl _) => []
  | .inr (.inr x) => [x.1]
def actD (p : Nat → Nat) (d : Nat → Bool) : Nat → List (Oper × Sp) → Act → Act
  | _, [], a => a
  | n, x :: l, a => actD p d (n + 1) l (if d n = true then a.put x.1.dst (spV p n x.2) else a)
def ctD (d : Nat → Bool) : Nat → List (Oper × Sp) → Ct → Ct
  | _, [], ct => ct
  | n, x :: l, ct => ctD d (n + 1) l (if d n = true then spC n x.2 ct else ct)

theorem spC_other {i k : Nat} {s : Sp} (ct : Ct) (h : hits i s ≠ some k) : spC i s ct k = ct k := by
  rcases s with x | x | x
  · rfl
  · show ctSet ct (2 * i + 1) x k = ct k
    exact if_neg fun e => h (by rw [e]; rfl)
  · show ctSet ct x.1 _ k = ct k
    exact if_neg fun e => h (by rw [e]; rfl)
theorem spC_same {i k : Nat} (s : Sp) {ct ct' : Ct} (h : ct k = ct' k) : spC i s ct k = spC i s ct' k := by
  rcases s with x | x | x
  · exact h
  · show (if k = _ then _ else _) = (if k = _ then _ else _)
    rw [h]
  · show (if k = x.1 then _ else _) = (if k = x.1 then _ else _)
    by_cases e : k = x.1
    · subst e; rw [if_pos rfl, if_pos rfl, h]
    · rw [if_neg e, if_neg e, h]
theorem ctD_agree {d d' : Nat → Bool} {k : Nat} : ∀ (l : List (Oper × Sp)) (n : Nat) (ct ct' : Ct), (∀ j x, l[j]? = some x → hits (n + j) x.2 = some k → d (n + j) = d' (n + j)) → ct k = ct' k → ctD d n l ct k = ctD d' n l ct' k
  | [], _, _, _, _, h => h
  | x :: l, n, ct, ct', hd, h => by
    unfold ctD
    refine ctD_agree l (n + 1) _ _ (fun j y hj hh => ?_) ?_
    · have := hd (j + 1) y (by simpa using hj)
      rw [show n + (j + 1) = n + 1 + j by omega] at this
      exact this hh
    · by_cases e : hits n x.2 = some k
      · have h0 := hd 0 x rfl e
        rw [Nat.add_zero] at h0
        rw [h0]
        split
        · exact spC_same x.2 h
        · exact h
      · have h1 : (if d n = true then spC n x.2 ct else ct) k = ct k := by split; exact spC_other ct e; rfl
        have h2 : (if d' n = true then spC n x.2 ct' else ct') k = ct' k := by split; exact spC_other ct' e; rfl
        rw [h1, h2, h]
theorem actD_congr {p p' : Nat → Nat} {d d' : Nat → Bool} : ∀ (l : List (Oper × Sp)) (n : Nat) (a : Act), (∀ j, n ≤ j → d j = d' j) → (∀ j, n ≤ j → d j = true → p j = p' j) → actD p d n l a = actD p' d' n l a
  | [], _, _, _, _ => rfl
  | x :: l, n, a, hd, hp => by
    unfold actD
    rw [actD_congr l (n + 1) _ (fun j hj => hd j (by omega)) (fun j hj => hp j (by omega)), ← hd n (Nat.le_refl _)]
    by_cases e : d n = true
    · have h0 := hp n (Nat.le_refl _) e
      rw [if_pos e, if_pos e, show spV p n x.2 = spV p' n x.2 by rcases x.2 with y | y | y <;> simp [spV, h0]]
    · rw [if_neg e, if_neg e]
theorem actD_none {p : Nat → Nat} {d : Nat → Bool} : ∀ (l : List (Oper × Sp)) (n : Nat) (a : Act), (∀ j, n ≤ j → d j = false) → actD p d n l a = a
  | [], _, _, _ => rfl
  | x :: l, n, a, hd => by
    unfold actD
    rw [if_neg (by rw [hd n (Nat.le_refl _)]; decide)]
    exact actD_none l (n + 1) a fun j hj => hd j (by omega)
theorem ctD_none {d : Nat → Bool} : ∀ (l : List (Oper × Sp)) (n : Nat) (ct : Ct), (∀ j, n ≤ j → d j = false) → ctD d n l ct = ct
  | [], _, _, _ => rfl
  | x :: l, n, ct, hd => by
    unfold ctD
    rw [if_neg (by rw [hd n (Nat.le_refl _)]; decide)]
    exact ctD_none l (n + 1) ct fun j hj => hd j (by omega)
theorem actD_put {p : Nat → Nat} {d : Nat → Bool} {dst : Option Tmp} {v : Value} : ∀ (l : List (Oper × Sp)) (n : Nat) (a : Act), (∀ x ∈ l, ∀ s, dst = some s → x.1.dst ≠ some s) → actD p d n l (a.put dst v) = (actD p d n l a).put dst v
  | [], _, _, _ => rfl
  | x :: l, n, a, h => by
    unfold actD
    rw [← actD_put l (n + 1) _ fun y hy => h y (List.mem_cons_of_mem _ hy)]
    congr 1
    by_cases e : d n = true
    · rw [if_pos e, if_pos e]
      exact Act.put_comm a v _ fun s hs => h x (List.mem_cons_self ..) s hs
    · rw [if_neg e, if_neg e]
theorem actD_add {p : Nat → Nat} {d : Nat → Bool} : ∀ (l : List (Oper × Sp)) (n i : Nat) (a : Act) (x : Oper × Sp), l[i]? = some x → d (n + i) = false →
    (∀ j y, l[j]? = some y → j ≠ i → ∀ s, x.1.dst = some s → y.1.dst ≠ some s) → actD p (fun j => j == n + i || d j) n l a = (actD p d n l a).put x.1.dst (spV p (n + i) x.2)
  | [], _, _, _, _, h, _, _ => by simp at h
  | y :: l, n, 0, a, x, h, hd, hs => by
    obtain rfl : y = x := by simpa using h
    unfold actD
    rw [if_pos (by simp), if_neg (by rw [Nat.add_zero] at hd; rw [hd]; decide)]
    rw [actD_congr (p' := p) (d' := d) l (n + 1) _ (fun j hj => by rw [show (j == n + 0) = false by simp; omega]; rfl) (fun _ _ _ => rfl)]
    refine actD_put l (n + 1) a fun z hz s hd' => ?_
    obtain ⟨j, hj⟩ := List.mem_iff_getElem?.1 hz
    exact hs (j + 1) z (by simpa using hj) (by omega) s hd'
  | y :: l, n, i + 1, a, x, h, hd, hs => by
    unfold actD
    rw [show (n == n + (i + 1) || d n) = d n by rw [show (n == n + (i + 1)) = false by simp]; rfl]
    have := actD_add (p := p) (d := d) l (n + 1) i (if d n = true then a.put y.1.dst (spV p n y.2) else a) x (by simpa using h) (by rw [show n + 1 + i = n + (i + 1) by omega]; exact hd)
      (fun j z hj hne => hs (j + 1) z (by simpa using hj) (by omega))
    rw [show n + 1 + i = n + (i + 1) by omega] at this
    exact this
theorem put_size (a : Act) (dst : Option Tmp) (v : Value) : (a.put dst v).tmps.size = a.tmps.size := by cases dst <;> simp [Act.put]
theorem put_eval (a : Act) (s : Tmp) (v : Value) (t : Tmp) : (a.put (some s) v).eval (.tmp t) = if s = t ∧ t < a.tmps.size then v else a.eval (.tmp t) := by
  by_cases e : s = t
  · subst e
    by_cases h : s < a.tmps.size <;> simp [Act.put, Act.eval, h]
  · rw [if_neg (fun h => e h.1)]
    exact Act.eval_put fun d hd hx => e (by injection hd with hd; injection hx with hx; rw [hd, hx])
theorem actD_eval {p : Nat → Nat} {d d' : Nat → Bool} {s : Tmp} : ∀ (l : List (Oper × Sp)) (n : Nat) (a a' : Act), (∀ j x, l[j]? = some x → x.1.dst = some s → d (n + j) = d' (n + j)) → a.tmps.size = a'.tmps.size → a.eval (.tmp s) = a'.eval (.tmp s) →
    (actD p d n l a).eval (.tmp s) = (actD p d' n l a').eval (.tmp s)
  | [], _, _, _, _, _, h => h
  | x :: l, n, a, a', hd, hz, h => by
    unfold actD
    refine actD_eval l (n + 1) _ _ (fun j y hj hh => ?_) ?_ ?_
    · have := hd (j + 1) y (by simpa using hj)
      rw [show n + (j + 1) = n + 1 + j by omega] at this
      exact this hh
    · by_cases e : d n = true <;> by_cases e' : d' n = true <;> simp only [e, e', if_true, if_false, put_size, Bool.false_eq_true, hz]
    · cases hx : x.1.dst with
      | none =>
        have e1 : (if d n = true then a.put none (spV p n x.2) else a) = a := by split <;> rfl
        have e2 : (if d' n = true then a'.put none (spV p n x.2) else a') = a' := by split <;> rfl
        rw [e1, e2, h]
      | some r =>
        by_cases e : r = s
        · subst e
          have h0 := hd 0 x rfl hx
          rw [Nat.add_zero] at h0
          rw [h0]
          split
          · rw [put_eval, put_eval, hz, h]
          · exact h
        · have e1 : (if d n = true then a.put (some r) (spV p n x.2) else a).eval (.tmp s) = a.eval (.tmp s) := by
            split
            · rw [put_eval, if_neg (fun k => e k.1)]
            · rfl
          have e2 : (if d' n = true then a'.put (some r) (spV p n x.2) else a').eval (.tmp s) = a'.eval (.tmp s) := by
            split
            · rw [put_eval, if_neg (fun k => e k.1)]
            · rfl
          rw [e1, e2, h]

/-- Does operation i wait for operation j, over others too? -/
def reach (l : List (Oper × Sp)) : Nat → Nat → Nat → Bool
  | 0, _, _ => false
  | f + 1, i, j => match l[i]? with
    | none => false
    | some x => x.1.after.any fun e => Region.binds .any e && (e.on == j || reach l f e.on j)
theorem reach_pre {l : List (Oper × Sp)} {d : Nat → Bool} (hc : ∀ i x, l[i]? = some x → d i = true → ∀ e ∈ x.1.after, Region.binds .any e = true → d e.on = true) : ∀ (f i j : Nat) (x : Oper × Sp), l[i]? = some x →
    (∀ e ∈ x.1.after, Region.binds .any e = true → d e.on = true) → reach l f i j = true → d j = true
  | 0, _, _, _, _, _, h => by simp [reach] at h
  | f + 1, i, j, x, hx, hpre, h => by
    unfold reach at h
    rw [hx] at h
    obtain ⟨e, he, h1⟩ := Array.any_eq_true'.1 h
    rw [Bool.and_eq_true, Bool.or_eq_true] at h1
    have hd := hpre e he h1.1
    rcases h1.2 with h2 | h2
    · rw [← (by simpa using h2 : e.on = j)]; exact hd
    · cases hy : l[e.on]? with
      | none => cases f <;> simp [reach, hy] at h2
      | some y => exact reach_pre hc f e.on j y hy (hc e.on y hy hd) h2
def chkPair (l : List (Oper × Sp)) (x : Oper × Sp) (i : Nat) (y : Oper × Sp) (j : Nat) : Bool :=
  j == i || ((match y.1.dst with
    | none => true
    | some s => x.1.dst != some s && (!(x.1.looksAt #[]).contains s || (decide (j < i) && reach l l.length i j))) &&
  (match hits j y.2 with
    | none => true
    | some k => !(keysOf x.2).contains k || (if j < i then reach l l.length i j else reach l l.length j i)))
def chk (l : List (Oper × Sp)) : Bool :=
  l.zipIdx.all fun z => (match z.1.1.op with | .select _ _ => false | _ => true) && z.1.1.guard.isNone && (z.1.1.after.all fun e => !Region.binds .any e || decide (e.on < z.2)) && ((keysOf z.1.2).all fun k => k % 2 == 0 || decide (k / 2 < z.2)) &&
    l.zipIdx.all fun u => chkPair l z.1 z.2 u.1 u.2

/-- The world behind some operations: as it was, but for the rows at S and what is new. -/
structure Kept (S : List Nat) (w w' : World) : Prop where
  os : w'.os = w.os
  tape : w'.tape = w.tape
  output : w'.output = w.output
  size : w.heap.size ≤ w'.heap.size
  block : ∀ k, k < w.heap.size → k ∉ S → w'.heap[k]? = w.heap[k]?
theorem Kept.row {S : List Nat} {w w' : World} (h : Kept S w w') {b : Nat} {c : Array Value} {t : TypeId} (r : Row w b c t) (hb : b ∉ S) : Row w' b c t := (h.block b r.lt hb).trans r
theorem Kept.on {S : List Nat} {w w' w2 : World} (h : Kept S w w') (k : Below w'.heap.size w' w2) : Kept S w w2 :=
  ⟨k.os.trans h.os, k.tape.trans h.tape, k.output.trans h.output, Nat.le_trans h.size k.size, fun b hb hs => (k.block b (Nat.lt_of_lt_of_le hb h.size)).trans (h.block b hb hs)⟩
theorem Kept.below {S : List Nat} {w w' : World} (h : Kept S w w') (B : Nat) (hB : B ≤ w.heap.size) (hS : ∀ g ∈ S, B ≤ g) : Below B w w' :=
  ⟨h.os, h.tape, h.output, h.size, fun k hk => h.block k (by omega) fun hm => by have := hS k hm; omega⟩
/-- One block alone has turned. -/
structure Only (g : Nat) (w w' : World) : Prop where
  os : w'.os = w.os
  tape : w'.tape = w.tape
  output : w'.output = w.output
  size : w'.heap.size = w.heap.size
  block : ∀ k, k ≠ g → w'.heap[k]? = w.heap[k]?
abbrev Olds := List (Nat × TypeId × Array Value)
def addrOf (olds : Olds) (p : Nat → Nat) (k : Nat) : Nat := if k % 2 = 1 then p (k / 2) else ((olds[k / 2]?).map (·.1)).getD 0
def ct0 (olds : Olds) : Ct := fun k => if k % 2 = 1 then none else (olds[k / 2]?).map (·.2)
def RowsOf (w : World) : Olds → Prop
  | [] => True
  | x :: l => Row w x.1 x.2.2 x.2.1 ∧ RowsOf w l
def Ob (P : Program) (olds : Olds) (p : Nat → Nat) (W : World) (ct : Ct) (o : Oper) (a : Act) : Sp → Prop
  | .inl x => ∀ w, Kept (olds.map (·.1)) W w → (∀ k ∈ x.2, ∀ y, ct k = some y → Row w (addrOf olds p k) y.2 y.1) → o.quietAt P a (Below w.heap.size w) w x.1
  | .inr (.inl x) => ∀ w, (execOp a.eval o).run P w = .ok (.value (.pointer (some ⟨w.heap.size, 0, none⟩))) (w.alloc (.cells x.2 x.1))
  | .inr (.inr x) => ∃ y, ct x.1 = some y ∧ ∀ w, Row w (addrOf olds p x.1) y.2 y.1 → ∃ w2, (execOp a.eval o).run P w = .ok .skip w2 ∧ Row w2 (addrOf olds p x.1) x.2 y.1 ∧ Only (addrOf olds p x.1) w w2
def Obs (P : Program) (olds : Olds) (p : Nat → Nat) (W : World) (F : Act → Ct → Prop) : Nat → List Oper → List Sp → Act → Ct → Prop
  | _, [], [], a, ct => F a ct
  | n, o :: l, s :: pl, a, ct => Ob P olds p W ct o a s ∧ Obs P olds p W F (n + 1) l pl (a.put o.dst (spV p n s)) (spC n s ct)
  | _, _, _, _, _ => False
theorem obs_len {olds : Olds} {p : Nat → Nat} {W : World} {F : Act → Ct → Prop} : ∀ (l : List Oper) (pl : List Sp) (n : Nat) (a : Act) (ct : Ct), Obs P olds p W F n l pl a ct → l.length = pl.length
  | [], [], _, _, _, _ => rfl
  | _ :: l, _ :: pl, _, _, _, h => by simp [obs_len l pl _ _ _ h.2]
  | [], _ :: _, _, _, _, h => h.elim
  | _ :: _, [], _, _, _, h => h.elim
theorem obs_at {olds : Olds} {p : Nat → Nat} {W : World} {F : Act → Ct → Prop} : ∀ (l : List Oper) (pl : List Sp) (n i : Nat) (a : Act) (ct : Ct) (x : Oper × Sp), Obs P olds p W F n l pl a ct → (l.zip pl)[i]? = some x →
    Ob P olds p W (ctD (fun j => decide (j < n + i)) n (l.zip pl) ct) x.1 (actD p (fun j => decide (j < n + i)) n (l.zip pl) a) x.2
  | [], [], _, _, _, _, _, _, h => by simp at h
  | o :: l, s :: pl, n, 0, a, ct, x, h, hx => by
    obtain rfl : (o, s) = x := by simpa using hx
    rw [actD_none _ _ _ (fun j hj => by simp; omega), ctD_none _ _ _ (fun j hj => by simp; omega)]
    exact h.1
  | o :: l, s :: pl, n, i + 1, a, ct, x, h, hx => by
    have := obs_at l pl (n + 1) i _ _ x h.2 (by simpa using hx)
    rw [show n + 1 + i = n + (i + 1) by omega] at this
    rw [List.zip_cons_cons]
    unfold ctD actD
    rw [if_pos (by simp), if_pos (by simp)]
    exact this
  | [], _ :: _, _, _, _, _, _, h, _ => h.elim
  | _ :: _, [], _, _, _, _, _, h, _ => h.elim
theorem obs_end {olds : Olds} {p : Nat → Nat} {W : World} {F : Act → Ct → Prop} {d : Nat → Bool} : ∀ (l : List Oper) (pl : List Sp) (n : Nat) (a : Act) (ct : Ct), Obs P olds p W F n l pl a ct → (∀ j, n ≤ j → j < n + l.length → d j = true) →
    F (actD p d n (l.zip pl) a) (ctD d n (l.zip pl) ct)
  | [], [], _, _, _, h, _ => h
  | o :: l, s :: pl, n, a, ct, h, hd => by
    rw [List.zip_cons_cons]
    unfold ctD actD
    have h0 := hd n (Nat.le_refl _) (by simp)
    rw [if_pos h0, if_pos h0]
    exact obs_end l pl (n + 1) _ _ h.2 fun j h1 h2 => hd j (by omega) (by simp; omega)
  | [], _ :: _, _, _, _, h, _ => h.elim
  | _ :: _, [], _, _, _, h, _ => h.elim
theorem ctD_upto : ∀ (l : List (Oper × Sp)) (n i : Nat) (ct : Ct) (x : Oper × Sp), l[i]? = some x → ctD (fun j => decide (j < n + i + 1)) n l ct = spC (n + i) x.2 (ctD (fun j => decide (j < n + i)) n l ct)
  | [], _, _, _, _, h => by simp at h
  | y :: l, n, 0, ct, x, h => by
    obtain rfl : y = x := by simpa using h
    unfold ctD
    rw [if_pos (by simp), if_neg (by simp), ctD_none _ _ _ (fun j hj => by simp; omega), ctD_none _ _ _ (fun j hj => by simp; omega)]
    rfl
  | y :: l, n, i + 1, ct, x, h => by
    have := ctD_upto l (n + 1) i (spC n y.2 ct) x (by simpa using h)
    rw [show n + 1 + i = n + (i + 1) by omega] at this
    unfold ctD
    rw [if_pos (by simp; omega), if_pos (by simp)]
    exact this
theorem opw_quietAt {o : Oper} {a : Act} {w : World} {v : Value} {K : Act → World → Prop} {Q : Exit → Act → World → Prop} (h : o.quietAt P a (Below w.heap.size w) w v) (hK : ∀ w2, Below w.heap.size w w2 → K (a.put o.dst v) w2) : OpW P o a w K Q := by
  refine ⟨?_⟩
  unfold Oper.quietAt at h
  unfold Oper.wp
  generalize (execOp a.eval o).run P w = r at *
  cases r with
  | ok n w' =>
    cases n <;> simp only [Oper.quietUpon] at h <;> simp only [Oper.upon]
    case value u =>
      obtain ⟨e1, e2⟩ := h
      rw [e1, e2]
      exact hK _ (Below.refl _ _)
    case skip =>
      obtain ⟨e1, e2⟩ := h
      rw [e1, ← e2]
      exact hK _ (Below.refl _ _)
    case enter f args =>
      obtain ⟨e1, hc⟩ := h
      rw [e1]
      exact hc.mono fun e w'' ⟨he, hw''⟩ => by subst he; exact hK _ hw''
  | halt x w' => simp only [Oper.quietUpon] at h
theorem opw_made {o : Oper} {a : Act} {w w2 : World} {v : Value} {K : Act → World → Prop} {Q : Exit → Act → World → Prop} (hr : (execOp a.eval o).run P w = .ok (.value v) w2) (h : K (a.put o.dst v) w2) : OpW P o a w K Q := by
  refine ⟨?_⟩
  unfold Oper.wp
  rw [hr]
  exact h
theorem rowsOf_get {w : World} : ∀ (olds : Olds) (n : Nat) (x : Nat × TypeId × Array Value), RowsOf w olds → olds[n]? = some x → Row w x.1 x.2.2 x.2.1
  | [], _, _, _, h => by simp at h
  | y :: l, 0, x, h, hx => by
    obtain rfl : y = x := by simpa using hx
    exact h.1
  | y :: l, n + 1, x, h, hx => rowsOf_get l n x h.2 (by simpa using hx)

/-- The walk in the text's order, behind a name that is not opened. -/
structure MX (P : Program) (olds : Olds) (p : Nat → Nat) (W : World) (F : Act → Ct → Prop) (n : Nat) (l : List Oper) (pl : List Sp) (a : Act) (ct : Ct) : Prop where
  out : Obs P olds p W F n l pl a ct
/-- What is owed at its end. -/
def FinF (olds : Olds) (p : Nat → Nat) (W : World) (Q : Exit → Act → World → Prop) : Act → Ct → Prop := fun a ct =>
  ∀ w, Kept (olds.map (·.1)) W w → (∀ k y, ct k = some y → Row w (addrOf olds p k) y.2 y.1) → (∀ i, (ct (2 * i + 1)).isSome = true → W.heap.size ≤ p i) →
    (∀ i j, i ≠ j → (ct (2 * i + 1)).isSome = true → (ct (2 * j + 1)).isSome = true → p i ≠ p j) → Q .normal a w
theorem addr_odd (olds : Olds) (p : Nat → Nat) (i : Nat) : addrOf olds p (2 * i + 1) = p i := by
  unfold addrOf
  rw [if_pos (by omega), show (2 * i + 1) / 2 = i by omega]
theorem wp_region_mix {id : Nat} {l : List Oper} {a : Act} {W : World} {Q : Exit → Act → World → Prop} (hm : P.follows .mixedOrders = true) (olds : Olds) (plan : List Sp) (hr : RowsOf W olds) (hn : (olds.map (·.1)).Nodup)
    (h : ∀ p, MX P olds p W (FinF olds p W Q) 0 l plan a (ct0 olds)) (hchk : chk (l.zip plan) = true) : (Code.region id l.toArray true).wp P Q a W := by
  have hlen : l.length = plan.length := obs_len l plan _ _ _ (h fun _ => 0).out
  have hobs : ∀ p i x, (l.zip plan)[i]? = some x → Ob P olds p W (ctD (fun j => decide (j < i)) 0 (l.zip plan) (ct0 olds)) x.1 (actD p (fun j => decide (j < i)) 0 (l.zip plan) a) x.2 := fun p i x hx => by
    have := obs_at l plan 0 i a (ct0 olds) x (h p).out hx
    rw [Nat.zero_add] at this
    exact this
  have hend : ∀ p (d : Nat → Bool), (∀ j, j < l.length → d j = true) → FinF olds p W Q (actD p d 0 (l.zip plan) a) (ctD d 0 (l.zip plan) (ct0 olds)) := fun p d hd =>
    obs_end l plan 0 a (ct0 olds) (h p).out fun j _ hj => hd j (by omega)
  have hzip : ∀ i o, l[i]? = some o → ∃ s, (l.zip plan)[i]? = some (o, s) := fun i o ho => by
    have hi : i < l.length := (List.getElem?_eq_some_iff.1 ho).1
    refine ⟨plan[i]'(by omega), ?_⟩
    rw [List.getElem?_zip_eq_some]
    exact ⟨ho, by simp⟩
  have hunz : ∀ i (x : Oper × Sp), (l.zip plan)[i]? = some x → l[i]? = some x.1 := fun i x hx => (List.getElem?_zip_eq_some.1 hx).1
  generalize l.zip plan = z at *
  clear h
  have hC : ∀ i x, z[i]? = some x → (∀ cs b, x.1.op ≠ .select cs b) ∧ x.1.guard.isNone = true ∧ (∀ e ∈ x.1.after, Region.binds .any e = true → e.on < i) ∧ (∀ k ∈ keysOf x.2, k % 2 = 0 ∨ k / 2 < i) ∧ ∀ j y, z[j]? = some y → chkPair z x i y j = true := by
    intro i x hx
    have h1 : (x, i) ∈ z.zipIdx := by rw [List.mem_zipIdx_iff_getElem?]; exact hx
    have h2 := List.all_eq_true.1 hchk _ h1
    simp only [Bool.and_eq_true] at h2
    obtain ⟨⟨⟨⟨a1, a2⟩, a3⟩, a4⟩, a5⟩ := h2
    refine ⟨fun cs b e => (by rw [e] at a1; cases a1), a2, fun e he hb => ?_, fun k hk => ?_, fun j y hy => ?_⟩
    · have := Array.all_eq_true_iff_forall_mem.1 a3 e he
      rw [hb] at this
      simpa using this
    · have := List.all_eq_true.1 a4 k hk
      simpa using this
    · have h3 : (y, j) ∈ z.zipIdx := by rw [List.mem_zipIdx_iff_getElem?]; exact hy
      exact List.all_eq_true.1 a5 _ h3
  have hP : ∀ i x, z[i]? = some x → ∀ j y, z[j]? = some y → j ≠ i →
      (∀ s, y.1.dst = some s → x.1.dst ≠ some s ∧ (s ∈ x.1.looksAt #[] → j < i ∧ reach z z.length i j = true)) ∧
      (∀ k, hits j y.2 = some k → k ∈ keysOf x.2 → (j < i → reach z z.length i j = true) ∧ (i < j → reach z z.length j i = true)) := by
    intro i x hx j y hy hne
    have h1 := (hC i x hx).2.2.2.2 j y hy
    unfold chkPair at h1
    rw [show (j == i) = false by simpa using hne, Bool.false_or, Bool.and_eq_true] at h1
    refine ⟨fun s hs => ?_, fun k hk hmem => ?_⟩
    · have h2 := h1.1
      rw [hs] at h2
      simp only [Bool.and_eq_true, Bool.or_eq_true, bne_iff_ne, ne_eq, Bool.not_eq_true', decide_eq_true_eq] at h2
      refine ⟨h2.1, fun hl => ?_⟩
      rcases h2.2 with h3 | h3
      · rw [List.contains_iff_mem.2 hl] at h3; cases h3
      · exact h3
    · have h2 := h1.2
      rw [hk] at h2
      simp only [Bool.or_eq_true, Bool.not_eq_true'] at h2
      rcases h2 with h3 | h3
      · rw [List.contains_iff_mem.2 hmem] at h3; cases h3
      · refine ⟨fun hj => ?_, fun hj => ?_⟩
        · rw [if_pos hj] at h3; exact h3
        · rw [if_neg (by omega)] at h3; exact h3
  refine wp_region_inv0 hm (fun d a' w' => ∃ p, a' = actD p d 0 z a ∧ Kept (olds.map (·.1)) W w' ∧ (∀ k y, ctD d 0 z (ct0 olds) k = some y → Row w' (addrOf olds p k) y.2 y.1) ∧
    (∀ k y, ctD d 0 z (ct0 olds) k = some y → k % 2 = 0 → ∃ q, olds[k / 2]? = some q) ∧
    (∀ i, (ctD d 0 z (ct0 olds) (2 * i + 1)).isSome = true → W.heap.size ≤ p i) ∧
    (∀ i j, i ≠ j → (ctD d 0 z (ct0 olds) (2 * i + 1)).isSome = true → (ctD d 0 z (ct0 olds) (2 * j + 1)).isSome = true → p i ≠ p j) ∧
    (∀ i x, z[i]? = some x → d i = true → ∀ e ∈ x.1.after, Region.binds .any e = true → d e.on = true)) ?lex ?start ?step ?fin
  case lex =>
    rw [List.all_eq_true]
    intro x hx
    obtain ⟨s, hs⟩ := hzip x.2 x.1 (List.mem_zipIdx_iff_getElem?.1 hx)
    obtain ⟨_, h2, h3, _⟩ := hC _ _ hs
    rw [Bool.and_eq_true]
    refine ⟨h2, ?_⟩
    rw [Array.all_eq_true_iff_forall_mem]
    intro e he
    cases hb : Region.binds .any e
    · rfl
    · simpa using h3 e he hb
  case start =>
    refine ⟨fun _ => 0, (actD_none _ _ _ fun _ _ => rfl).symm, ⟨rfl, rfl, rfl, Nat.le_refl _, fun _ _ _ => rfl⟩, fun k y hy => ?_, fun k y hy he => ?_, fun i hi => ?_, fun i j _ hi => ?_, fun i x _ hd => by cases hd⟩
    · rw [ctD_none _ _ _ (fun _ _ => rfl)] at hy
      unfold ct0 at hy
      unfold addrOf
      split at hy
      · cases hy
      · rename_i hk
        rw [if_neg hk]
        cases hq : olds[k / 2]? with
        | none => rw [hq] at hy; cases hy
        | some q =>
          rw [hq] at hy
          obtain rfl : q.2 = y := by simpa using hy
          exact (rowsOf_get olds _ q hr hq).drew
    · rw [ctD_none _ _ _ (fun _ _ => rfl)] at hy
      unfold ct0 at hy
      rw [if_neg (by omega)] at hy
      cases hq : olds[k / 2]? with
      | none => rw [hq] at hy; cases hy
      | some q => exact ⟨q, rfl⟩
    · rw [ctD_none _ _ _ (fun _ _ => rfl)] at hi
      unfold ct0 at hi
      rw [if_pos (by omega)] at hi
      cases hi
    · rw [ctD_none _ _ _ (fun _ _ => rfl)] at hi
      unfold ct0 at hi
      rw [if_pos (by omega)] at hi
      cases hi
  case fin =>
    rintro d a' w' ⟨p, rfl, hk, hrw, _, hnew, hdis, _⟩ hd
    exact hend p d hd w' hk hrw hnew hdis
  case step =>
    rintro i o ho d a' w' ⟨p, rfl, hk, hrw, hev, hnew, hdis, hcl⟩ hd hpre
    obtain ⟨s, hx⟩ := hzip i o ho
    obtain ⟨hsel, _, _, hkeys, _⟩ := hC i _ hx
    have hwait : ∀ j, reach z z.length i j = true → d j = true := fun j hj => reach_pre hcl _ i j _ hx hpre hj
    have hlater : ∀ j y, z[j]? = some y → reach z z.length j i = true → d j = false := fun j y hy hj => by
      cases hdj : d j
      · rfl
      · rw [reach_pre hcl _ j i y hy (hcl j y hy hdj) hj] at hd; cases hd
    have E : execOp (actD p d 0 z a).eval o = execOp (actD p (fun j => decide (j < i)) 0 z a).eval o := by
      refine execOp_congr o hsel fun y hy => ?_
      cases y with
      | tmp t =>
        refine actD_eval z 0 a a (fun j x' hj hdst => ?_) rfl rfl
        rw [Nat.zero_add]
        by_cases hji : j = i
        · subst hji; rw [hd]; simp
        · have hl : t ∈ o.looksAt #[] := List.mem_append_left _ (List.mem_filterMap.2 ⟨.tmp t, by simpa using hy, rfl⟩)
          obtain ⟨h1, h2⟩ := (((hP i _ hx j x' hj hji).1 t hdst).2 hl)
          rw [hwait j h2]; simp [h1]
      | _ => rfl
    have CT : ∀ k ∈ keysOf s, ctD d 0 z (ct0 olds) k = ctD (fun j => decide (j < i)) 0 z (ct0 olds) k := fun k hk' => by
      refine ctD_agree z 0 _ _ (fun j y hj hh => ?_) rfl
      rw [Nat.zero_add] at hh ⊢
      by_cases hji : j = i
      · subst hji; rw [hd]; simp
      · obtain ⟨h1, h2⟩ := (hP i _ hx j y hj hji).2 k hh hk'
        rcases Nat.lt_or_ge j i with hlt | hge
        · rw [hwait j (h1 hlt)]; simp [hlt]
        · rw [hlater j y hj (h2 (by omega))]; simp; omega
    have CO : ∀ k, hits i s ≠ some k → ctD (fun j => j == i || d j) 0 z (ct0 olds) k = ctD d 0 z (ct0 olds) k := fun k hne => by
      refine ctD_agree z 0 _ _ (fun j y hj hh => ?_) rfl
      rw [Nat.zero_add] at hh ⊢
      by_cases hji : j = i
      · subst hji
        rw [hx] at hj
        obtain rfl : (o, s) = y := by simpa using hj
        exact absurd hh hne
      · rw [show (j == i) = false by simpa using hji]; rfl
    have CS : ∀ k, hits i s = some k → ctD (fun j => j == i || d j) 0 z (ct0 olds) k = spC i s (ctD (fun j => decide (j < i)) 0 z (ct0 olds)) k := fun k hk' => by
      have hu := ctD_upto z 0 i (ct0 olds) _ hx
      rw [Nat.zero_add] at hu
      rw [← hu]
      refine ctD_agree z 0 _ _ (fun j y hj hh => ?_) rfl
      rw [Nat.zero_add] at hh ⊢
      by_cases hji : j = i
      · subst hji; simp
      · rw [show (j == i) = false by simpa using hji, Bool.false_or]
        have hmain : (j < i → reach z z.length i j = true) ∧ (i < j → reach z z.length j i = true) := by
          rcases s with s | s | s
          · cases hk'
          · obtain rfl : 2 * i + 1 = k := by simpa [hits] using hk'
            rcases hys : y.2 with t | t | t
            · rw [hys] at hh; cases hh
            · rw [hys] at hh
              have : 2 * j + 1 = 2 * i + 1 := by simpa [hits] using hh
              omega
            · rw [hys] at hh
              have e : t.1 = 2 * i + 1 := by simpa [hits] using hh
              have hkk : (2 * i + 1) ∈ keysOf y.2 := by rw [hys, ← e]; exact List.mem_singleton.2 rfl
              have h3 := (hP j y hj i _ hx (fun e => hji e.symm)).2 (2 * i + 1) rfl hkk
              have h4 := (hC j y hj).2.2.2.1 _ hkk
              exact ⟨fun hlt => by omega, fun hlt => h3.1 hlt⟩
          · obtain rfl : s.1 = k := by simpa [hits] using hk'
            exact (hP i _ hx j y hj hji).2 s.1 hh (List.mem_singleton.2 rfl)
        rcases Nat.lt_or_ge j i with hlt | hge
        · rw [hwait j (hmain.1 hlt)]; simp; omega
        · rw [hlater j y hj (hmain.2 (by omega))]; simp; omega
    have hcl' : ∀ i' x', z[i']? = some x' → (i' == i || d i') = true → ∀ e ∈ x'.1.after, Region.binds .any e = true → (e.on == i || d e.on) = true := fun i' x' hx' hd' e he hb => by
      by_cases hii : i' = i
      · subst hii
        rw [hx] at hx'
        obtain rfl : (o, s) = x' := by simpa using hx'
        rw [hpre e he hb, Bool.or_true]
      · rw [show (i' == i) = false by simpa using hii, Bool.false_or] at hd'
        rw [hcl i' x' hx' hd' e he hb, Bool.or_true]
    have hadd : ∀ p' : Nat → Nat, (∀ j, d j = true → p j = p' j) → (actD p d 0 z a).put o.dst (spV p' i s) = actD p' (fun j => j == i || d j) 0 z a := fun p' hp' => by
      have := actD_add (p := p') (d := d) z 0 i a _ hx (by rw [Nat.zero_add]; exact hd) (fun j y hj hji t ht => by
        intro e
        exact ((hP i _ hx j y hj hji).1 t e).1 ht)
      rw [Nat.zero_add] at this
      rw [this, actD_congr (p' := p') (d' := d) z 0 a (fun _ _ => rfl) (fun j _ hj => hp' j hj)]
    have hob := hobs p i _ hx
    have hrows : ∀ b c t, b ∈ olds.map (·.1) → Row W b c t → b < W.heap.size := fun _ _ _ _ r => r.lt
    rcases s with v | v | v
    · -- a value
      have hq := hob w' hk fun k hkk y hy => hrw k y (by rw [CT k hkk]; exact hy)
      unfold Oper.quietAt at hq
      rw [← E] at hq
      refine opw_quietAt (v := v.1) hq fun w2 hb => ⟨p, hadd p (fun _ _ => rfl), hk.on hb, fun k y hy => ?_, fun k y hy => ?_, fun j hj => ?_, fun j j' hne hj hj' => ?_, hcl'⟩
      · rw [CO k (by intro e; cases e)] at hy; exact (hrw k y hy).belowAll hb
      · rw [CO k (by intro e; cases e)] at hy; exact hev k y hy
      · rw [CO _ (by intro e; cases e)] at hj; exact hnew j hj
      · rw [CO _ (by intro e; cases e)] at hj hj'; exact hdis j j' hne hj hj'
    · -- a row is made
      have hpe : ∀ j, d j = true → p j = (fun j => if j = i then w'.heap.size else p j) j := fun j hj => by
        show p j = if j = i then _ else _
        rw [if_neg]
        rintro rfl
        rw [hd] at hj; cases hj
      have hmade := hob w'
      rw [← E] at hmade
      refine opw_made hmade ⟨fun j => if j = i then w'.heap.size else p j, ?_, hk.on (below_alloc _), fun k y hy => ?_, fun k y hy he => ?_, fun j hj => ?_, fun j j' hne hj hj' => ?_, hcl'⟩
      · rw [← hadd _ hpe]
        show _ = (actD p d 0 z a).put o.dst (.pointer (some ⟨if i = i then w'.heap.size else p i, 0, none⟩))
        rw [if_pos rfl]
      · by_cases e : k = 2 * i + 1
        · subst e
          rw [CS _ rfl] at hy
          obtain rfl : v = y := by
            have h2 : ctSet (ctD (fun j => decide (j < i)) 0 z (ct0 olds)) (2 * i + 1) v (2 * i + 1) = some y := hy
            unfold ctSet at h2
            rw [if_pos rfl] at h2
            exact Option.some.inj h2
          rw [addr_odd]
          show Row _ (if i = i then w'.heap.size else p i) _ _
          rw [if_pos rfl]
          exact Row.new _ _ _
        · rw [CO k (by intro e'; exact e (by simpa [hits] using e'.symm))] at hy
          have : addrOf olds (fun j => if j = i then w'.heap.size else p j) k = addrOf olds p k := by
            unfold addrOf
            by_cases ho' : k % 2 = 1
            · rw [if_pos ho', if_pos ho']
              show (if k / 2 = i then _ else _) = _
              rw [if_neg (by omega)]
            · rw [if_neg ho', if_neg ho']
          rw [this]
          exact (hrw k y hy).alloc _
      · rw [CO k (by intro e'; have : 2 * i + 1 = k := by simpa [hits] using e'
                     omega)] at hy
        exact hev k y hy he
      · show W.heap.size ≤ if j = i then _ else _
        by_cases e : j = i
        · rw [if_pos e]; exact hk.size
        · rw [if_neg e]
          rw [CO _ (by intro e'; have : 2 * i + 1 = 2 * j + 1 := by simpa [hits] using e'
                       omega)] at hj
          exact hnew j hj
      · have hlt : ∀ m, m ≠ i → (ctD (fun j => j == i || d j) 0 z (ct0 olds) (2 * m + 1)).isSome = true → p m < w'.heap.size := fun m hm hs => by
          rw [CO _ (by intro e'; have : 2 * i + 1 = 2 * m + 1 := by simpa [hits] using e'
                       omega)] at hs
          obtain ⟨y, hy⟩ := Option.isSome_iff_exists.1 hs
          have := (hrw _ y hy).lt
          rw [addr_odd] at this
          exact this
        show (if j = i then _ else _) ≠ if j' = i then _ else _
        by_cases e : j = i
        · rw [if_pos e, if_neg (by omega)]
          have := hlt j' (by omega) hj'
          omega
        · rw [if_neg e]
          by_cases e' : j' = i
          · rw [if_pos e']
            have := hlt j e hj
            omega
          · rw [if_neg e']
            rw [CO _ (by intro x'; have : 2 * i + 1 = 2 * j + 1 := by simpa [hits] using x'
                         omega)] at hj
            rw [CO _ (by intro x'; have : 2 * i + 1 = 2 * j' + 1 := by simpa [hits] using x'
                         omega)] at hj'
            exact hdis j j' hne hj hj'
    · -- a row is filled
      obtain ⟨y, hy, hst⟩ := hob
      rw [← CT v.1 (List.mem_singleton.2 rfl)] at hy
      have rk := hrw v.1 y hy
      obtain ⟨w2, hrun, r2, only⟩ := hst w' rk
      rw [← E] at hrun
      have hap : ∀ k u, k ≠ v.1 → ctD d 0 z (ct0 olds) k = some u → addrOf olds p k ≠ addrOf olds p v.1 := by
        intro k u hne hu
        have ho' : k % 2 = 0 ∨ k % 2 = 1 := by omega
        have hv' : v.1 % 2 = 0 ∨ v.1 % 2 = 1 := by omega
        have hodd : ∀ m u, m % 2 = 1 → ctD d 0 z (ct0 olds) m = some u → addrOf olds p m = p (m / 2) ∧ W.heap.size ≤ p (m / 2) := fun m u hm hmu => by
          refine ⟨by unfold addrOf; rw [if_pos hm], hnew (m / 2) ?_⟩
          rw [show 2 * (m / 2) + 1 = m by omega, hmu]; rfl
        have heven : ∀ m u, m % 2 = 0 → ctD d 0 z (ct0 olds) m = some u → ∃ q, olds[m / 2]? = some q ∧ addrOf olds p m = q.1 ∧ q.1 < W.heap.size := fun m u hm hmu => by
          obtain ⟨q, hq⟩ := hev m u hmu hm
          refine ⟨q, hq, ?_, (rowsOf_get olds _ q hr hq).lt⟩
          unfold addrOf
          rw [if_neg (by omega), hq]; rfl
        rcases ho' with h1 | h1 <;> rcases hv' with h2 | h2
        · obtain ⟨q, hq, e1, _⟩ := heven k u h1 hu
          obtain ⟨q', hq', e2, _⟩ := heven v.1 y h2 hy
          rw [e1, e2]
          intro e
          have hi1 : (olds.map (·.1))[k / 2]? = some q.1 := by rw [List.getElem?_map, hq]; rfl
          have hi2 : (olds.map (·.1))[v.1 / 2]? = some q.1 := by rw [List.getElem?_map, hq', e]; rfl
          have := (List.getElem?_inj (List.getElem?_eq_some_iff.1 hi1).1 hn).1 (hi1.trans hi2.symm)
          omega
        · obtain ⟨q, hq, e1, l1⟩ := heven k u h1 hu
          obtain ⟨e2, l2⟩ := hodd v.1 y h2 hy
          rw [e1, e2]; omega
        · obtain ⟨q, hq, e1, l1⟩ := heven v.1 y h2 hy
          obtain ⟨e2, l2⟩ := hodd k u h1 hu
          rw [e1, e2]; omega
        · obtain ⟨e1, _⟩ := hodd v.1 y h2 hy
          obtain ⟨e2, _⟩ := hodd k u h1 hu
          rw [e1, e2]
          refine hdis (k / 2) (v.1 / 2) (by omega) ?_ ?_
          · rw [show 2 * (k / 2) + 1 = k by omega, hu]; rfl
          · rw [show 2 * (v.1 / 2) + 1 = v.1 by omega, hy]; rfl
      have hself : ctD (fun j => j == i || d j) 0 z (ct0 olds) v.1 = some (y.1, v.2) := by
        rw [CS _ rfl]
        show ctSet _ v.1 _ v.1 = _
        unfold ctSet
        rw [if_pos rfl, ← CT v.1 (List.mem_singleton.2 rfl), hy]
        rfl
      have hsome : ∀ m, (ctD (fun j => j == i || d j) 0 z (ct0 olds) m).isSome = true → (ctD d 0 z (ct0 olds) m).isSome = true := fun m hm => by
        by_cases e : m = v.1
        · rw [e, hy]; rfl
        · rw [CO m (by intro e'; exact e (by simpa [hits] using e'.symm))] at hm; exact hm
      refine ⟨?_⟩
      unfold Oper.wp
      rw [hrun, Oper.upon_skip]
      refine ⟨p, hadd p (fun _ _ => rfl), ⟨only.os.trans hk.os, only.tape.trans hk.tape, only.output.trans hk.output, by rw [only.size]; exact hk.size, fun b hb hs => ?_⟩, fun k u hu => ?_, fun k u hu he => ?_, fun j hj => hnew j (hsome _ hj), fun j j' hne hj hj' => hdis j j' hne (hsome _ hj) (hsome _ hj'), hcl'⟩
      · refine (only.block b ?_).trans (hk.block b hb hs)
        intro e
        have hv' : v.1 % 2 = 0 ∨ v.1 % 2 = 1 := by omega
        rcases hv' with h2 | h2
        · obtain ⟨q, hq⟩ := hev v.1 y hy h2
          have : addrOf olds p v.1 = q.1 := by unfold addrOf; rw [if_neg (by omega), hq]; rfl
          refine hs ?_
          rw [e, this]
          exact List.mem_map.2 ⟨q, List.mem_of_getElem? hq, rfl⟩
        · have h3 : addrOf olds p v.1 = p (v.1 / 2) := by unfold addrOf; rw [if_pos h2]
          have h4 := hnew (v.1 / 2) (by rw [show 2 * (v.1 / 2) + 1 = v.1 by omega, hy]; rfl)
          omega
      · by_cases e : k = v.1
        · subst e
          rw [hself] at hu
          obtain rfl : (y.1, v.2) = u := Option.some.inj hu
          exact r2
        · rw [CO k (by intro e'; exact e (by simpa [hits] using e'.symm))] at hu
          exact (only.block _ (hap k u e hu)).trans (hrw k u hu)
      · by_cases e : k = v.1
        · subst e; exact hev v.1 y hy he
        · rw [CO k (by intro e'; exact e (by simpa [hits] using e'.symm))] at hu
          exact hev k u hu he
/-- The rows that stand, as a plain walk goes on: each where its key says. -/
structure Stand (olds : Olds) (p : Nat → Nat) (W w : World) (n : Nat) (ct : Ct) : Prop where
  kept : Kept (olds.map (·.1)) W w
  row : ∀ k y, ct k = some y → Row w (addrOf olds p k) y.2 y.1
  even : ∀ k y, ct k = some y → k % 2 = 0 → ∃ q, olds[k / 2]? = some q
  new : ∀ i, (ct (2 * i + 1)).isSome = true → W.heap.size ≤ p i ∧ i < n
  apart : ∀ i j, i ≠ j → (ct (2 * i + 1)).isSome = true → (ct (2 * j + 1)).isSome = true → p i ≠ p j
theorem addr_congr {olds : Olds} {p p' : Nat → Nat} {k : Nat} (h : k % 2 = 1 → p (k / 2) = p' (k / 2)) : addrOf olds p k = addrOf olds p' k := by
  unfold addrOf
  by_cases e : k % 2 = 1
  · rw [if_pos e, if_pos e, h e]
  · rw [if_neg e, if_neg e]
theorem Stand.far {olds : Olds} {p : Nat → Nat} {W w : World} {n : Nat} {ct : Ct} (h : Stand olds p W w n ct) (hr : RowsOf W olds) (hn : (olds.map (·.1)).Nodup) {k m : Nat} {y u : TypeId × Array Value} (hk : ct k = some y) (hm : ct m = some u) (hne : k ≠ m) :
    addrOf olds p k ≠ addrOf olds p m := by
  have hodd : ∀ m u, m % 2 = 1 → ct m = some u → addrOf olds p m = p (m / 2) ∧ W.heap.size ≤ p (m / 2) := fun m u hm hmu => by
    refine ⟨by unfold addrOf; rw [if_pos hm], (h.new (m / 2) ?_).1⟩
    rw [show 2 * (m / 2) + 1 = m by omega, hmu]; rfl
  have heven : ∀ m u, m % 2 = 0 → ct m = some u → ∃ q, olds[m / 2]? = some q ∧ addrOf olds p m = q.1 ∧ q.1 < W.heap.size := fun m u hm hmu => by
    obtain ⟨q, hq⟩ := h.even m u hmu hm
    refine ⟨q, hq, ?_, (rowsOf_get olds _ q hr hq).lt⟩
    unfold addrOf
    rw [if_neg (by omega), hq]; rfl
  have ho' : k % 2 = 0 ∨ k % 2 = 1 := by omega
  have hv' : m % 2 = 0 ∨ m % 2 = 1 := by omega
  rcases ho' with h1 | h1 <;> rcases hv' with h2 | h2
  · obtain ⟨q, hq, e1, _⟩ := heven k y h1 hk
    obtain ⟨q', hq', e2, _⟩ := heven m u h2 hm
    rw [e1, e2]
    intro e
    have hi1 : (olds.map (·.1))[k / 2]? = some q.1 := by rw [List.getElem?_map, hq]; rfl
    have hi2 : (olds.map (·.1))[m / 2]? = some q.1 := by rw [List.getElem?_map, hq', e]; rfl
    have := (List.getElem?_inj (List.getElem?_eq_some_iff.1 hi1).1 hn).1 (hi1.trans hi2.symm)
    omega
  · obtain ⟨q, hq, e1, l1⟩ := heven k y h1 hk
    obtain ⟨e2, l2⟩ := hodd m u h2 hm
    rw [e1, e2]; omega
  · obtain ⟨q, hq, e1, l1⟩ := heven m u h2 hm
    obtain ⟨e2, l2⟩ := hodd k y h1 hk
    rw [e1, e2]; omega
  · obtain ⟨e1, _⟩ := hodd m u h2 hm
    obtain ⟨e2, _⟩ := hodd k y h1 hk
    rw [e1, e2]
    refine h.apart (k / 2) (m / 2) (by omega) ?_ ?_
    · rw [show 2 * (k / 2) + 1 = k by omega, hk]; rfl
    · rw [show 2 * (m / 2) + 1 = m by omega, hm]; rfl
theorem plain_mix {ops : Array Oper} {W : World} {Q : Exit → Act → World → Prop} {olds : Olds} (hr : RowsOf W olds) (hn : (olds.map (·.1)).Nodup) : ∀ (l : List Oper) (pl : List Sp) (n : Nat) (a : Act) (ct : Ct) (w : World) (p : Nat → Nat),
    (∀ p', (∀ j, j < n → p' j = p j) → Obs P olds p' W (FinF olds p' W Q) n l pl a ct) → Stand olds p W w n ct → (l.all fun o => o.guard.isNone) = true → wpList P ops Q l a w
  | [], [], n, a, ct, w, p, h, hs, _ => (h p fun _ _ => rfl) w hs.kept hs.row (fun i hi => (hs.new i hi).1) hs.apart
  | o :: l, s :: pl, n, a, ct, w, p, h, hs, hg => by
    rw [List.all_cons, Bool.and_eq_true] at hg
    have hgd : o.guard = none := by simpa using hg.1
    refine wpList_plain hgd fun K hK => ?_
    have hob := (h p fun _ _ => rfl).1
    rcases s with v | v | v
    · have hq : o.quietAt P a (Below w.heap.size w) w v.1 := hob w hs.kept fun k _ y hy => hs.row k y hy
      refine (opw_quietAt hq fun w2 hb => hK _ _ ?_).out
      exact plain_mix hr hn l pl (n + 1) _ _ w2 p (fun p' hp' => (h p' fun j hj => hp' j (by omega)).2)
        ⟨hs.kept.on hb, fun k y hy => (hs.row k y hy).belowAll hb, hs.even, fun i hi => ⟨(hs.new i hi).1, by have := (hs.new i hi).2; omega⟩, hs.apart⟩ hg.2
    · have hmade : (execOp a.eval o).run P w = _ := hob w
      refine (opw_made hmade (hK _ _ ?_)).out
      have hlt : ∀ i, (ct (2 * i + 1)).isSome = true → p i < w.heap.size := fun i hi => by
        obtain ⟨y, hy⟩ := Option.isSome_iff_exists.1 hi
        have := (hs.row _ y hy).lt
        rw [addr_odd] at this
        exact this
      have hq : ∀ j, j < n → (fun j => if j = n then w.heap.size else p j) j = p j := fun j hj => by show (if j = n then _ else _) = _; rw [if_neg (by omega)]
      have hct : ∀ i, i ≠ n → (ctSet ct (2 * n + 1) v (2 * i + 1)).isSome = true → (ct (2 * i + 1)).isSome = true := fun i hi h1 => by
        unfold ctSet at h1
        rw [if_neg (by omega)] at h1
        exact h1
      refine plain_mix hr hn l pl (n + 1) _ (ctSet ct (2 * n + 1) v) (w.alloc (.cells v.2 v.1)) (fun j => if j = n then w.heap.size else p j) (fun p' hp' => ?_) ⟨hs.kept.on (below_alloc _), fun k y hy => ?_, fun k y hy he => ?_, fun i hi => ?_, fun i j hne hi hj => ?_⟩ hg.2
      · have h1 := (h p' fun j hj => (hp' j (by omega)).trans (hq j hj)).2
        have h2 := hp' n (by omega)
        simp only [if_true] at h2
        have h3 : spV p' n (.inr (.inl v)) = .pointer (some ⟨w.heap.size, 0, none⟩) := by show Value.pointer (some ⟨p' n, 0, none⟩) = _; rw [h2]
        rw [h3] at h1
        exact h1
      · by_cases e : k = 2 * n + 1
        · subst e
          have h2 : ctSet ct (2 * n + 1) v (2 * n + 1) = some y := hy
          unfold ctSet at h2
          rw [if_pos rfl] at h2
          obtain rfl : v = y := Option.some.inj h2
          rw [addr_odd]
          show Row _ (if n = n then w.heap.size else p n) _ _
          rw [if_pos rfl]
          exact Row.new _ _ _
        · have h2 : ctSet ct (2 * n + 1) v k = some y := hy
          unfold ctSet at h2
          rw [if_neg e] at h2
          rw [addr_congr (p' := p) (fun ho => ?_)]
          · exact (hs.row k y h2).alloc _
          · refine hq _ (hs.new (k / 2) ?_).2
            rw [show 2 * (k / 2) + 1 = k by omega, h2]; rfl
      · have h2 : ctSet ct (2 * n + 1) v k = some y := hy
        unfold ctSet at h2
        rw [if_neg (by omega)] at h2
        exact hs.even k y h2 he
      · show W.heap.size ≤ (if i = n then w.heap.size else p i) ∧ i < n + 1
        by_cases e : i = n
        · rw [if_pos e]; exact ⟨hs.kept.size, by omega⟩
        · rw [if_neg e]
          have := hs.new i (hct i e hi)
          exact ⟨this.1, by omega⟩
      · show (if i = n then w.heap.size else p i) ≠ if j = n then w.heap.size else p j
        by_cases e : i = n
        · rw [if_pos e, if_neg (by omega)]
          have := hlt j (hct j (by omega) hj); omega
        · rw [if_neg e]
          by_cases e' : j = n
          · rw [if_pos e']
            have := hlt i (hct i e hi); omega
          · rw [if_neg e']
            exact hs.apart i j hne (hct i e hi) (hct j e' hj)
    · obtain ⟨y, hy, hst⟩ := hob
      obtain ⟨w2, hrun, r2, only⟩ := hst w (hs.row v.1 y hy)
      have e : spC n (.inr (.inr v)) ct = ctSet ct v.1 (y.1, v.2) := by show ctSet ct v.1 (((ct v.1).map (·.1)).getD 0, v.2) = _; rw [hy]; rfl
      have hsome : ∀ m, (ctSet ct v.1 (y.1, v.2) m).isSome = true → (ct m).isSome = true := fun m hm => by
        unfold ctSet at hm
        by_cases e : m = v.1
        · rw [e, hy]; rfl
        · rw [if_neg e] at hm; exact hm
      unfold Oper.wp
      rw [hrun, Oper.upon_skip]
      refine hK _ _ (plain_mix hr hn l pl (n + 1) _ (ctSet ct v.1 (y.1, v.2)) w2 p (fun p' hp' => ?_) ⟨⟨only.os.trans hs.kept.os, only.tape.trans hs.kept.tape, only.output.trans hs.kept.output, by rw [only.size]; exact hs.kept.size, fun b hb hS => ?_⟩, fun k u hu => ?_, fun k u hu he => ?_, fun i hi => ?_, fun i j hne hi hj => hs.apart i j hne (hsome _ hi) (hsome _ hj)⟩ hg.2)
      · have h1 := (h p' fun j hj => hp' j (by omega)).2
        rw [e] at h1
        exact h1
      · refine (only.block b ?_).trans (hs.kept.block b hb hS)
        intro e
        have hv' : v.1 % 2 = 0 ∨ v.1 % 2 = 1 := by omega
        rcases hv' with h2 | h2
        · obtain ⟨q, hq⟩ := hs.even v.1 y hy h2
          have : addrOf olds p v.1 = q.1 := by unfold addrOf; rw [if_neg (by omega), hq]; rfl
          refine hS ?_
          rw [e, this]
          exact List.mem_map.2 ⟨q, List.mem_of_getElem? hq, rfl⟩
        · have h3 : addrOf olds p v.1 = p (v.1 / 2) := by unfold addrOf; rw [if_pos h2]
          have h4 := (hs.new (v.1 / 2) (by rw [show 2 * (v.1 / 2) + 1 = v.1 by omega, hy]; rfl)).1
          omega
      · unfold ctSet at hu
        by_cases e : k = v.1
        · rw [if_pos e] at hu
          obtain rfl : (y.1, v.2) = u := Option.some.inj hu
          rw [e]
          exact r2
        · rw [if_neg e] at hu
          exact (only.block _ (hs.far hr hn hu hy e)).trans (hs.row k u hu)
      · unfold ctSet at hu
        by_cases e : k = v.1
        · rw [e] at he ⊢; exact hs.even v.1 y hy he
        · rw [if_neg e] at hu; exact hs.even k u hu he
      · have := hs.new i (hsome _ hi)
        exact ⟨this.1, by omega⟩
  | [], _ :: _, _, _, _, _, p, h, _, _ => (h p fun _ _ => rfl).elim
  | _ :: _, [], _, _, _, _, p, h, _, _ => (h p fun _ _ => rfl).elim
theorem wp_region_mixp {id : Nat} {l : List Oper} {a : Act} {W : World} {Q : Exit → Act → World → Prop} (olds : Olds) (plan : List Sp) (hr : RowsOf W olds) (hn : (olds.map (·.1)).Nodup)
    (h : ∀ p, MX P olds p W (FinF olds p W Q) 0 l plan a (ct0 olds)) (hg : (l.all fun o => o.guard.isNone) = true) : (Code.region id l.toArray false).wp P Q a W := by
  refine wp_region_lit (plain_mix hr hn l plan 0 a (ct0 olds) W (fun _ => 0) (fun p' _ => (h p').out) ⟨⟨rfl, rfl, rfl, Nat.le_refl _, fun _ _ _ => rfl⟩, fun k y hy => ?_, fun k y hy he => ?_, fun i hi => ?_, fun i j _ hi => ?_⟩ hg)
  · unfold ct0 at hy
    unfold addrOf
    split at hy
    · cases hy
    · rename_i hk
      rw [if_neg hk]
      cases hq : olds[k / 2]? with
      | none => rw [hq] at hy; cases hy
      | some q =>
        rw [hq] at hy
        obtain rfl : q.2 = y := by simpa using hy
        exact rowsOf_get olds _ q hr hq
  · unfold ct0 at hy
    rw [if_neg (by omega)] at hy
    cases hq : olds[k / 2]? with
    | none => rw [hq] at hy; cases hy
    | some q => exact ⟨q, rfl⟩
  · unfold ct0 at hi
    rw [if_pos (by omega)] at hi
    cases hi
  · unfold ct0 at hi
    rw [if_pos (by omega)] at hi
    cases hi
end
end Go.Proofs.Ytmmjjohnejimdaa
