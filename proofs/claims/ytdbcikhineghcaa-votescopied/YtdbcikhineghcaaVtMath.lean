/- Votes: plain mathematics: places and lists tell the same. -/
import Derived.Test.YtdbcikhineghcaaPutA
namespace Go.Proofs.Ytdbcikhineghcaa
set_option linter.unusedVariables false
/-- A vote: number, client, digest; with its server. -/
abbrev Vt := Int × Int × List UInt8
abbrev Rv := Int × Int × Int × List UInt8
def vt0 : Vt := (0, 0, [])
/-- May a stamp be? -/
def stB (sq cl : Int) : Bool := decide (1 ≤ sq ∧ sq ≤ 1099511627776 ∧ 1 ≤ cl ∧ cl ≤ 4)
theorem stB_yes {s c : Int} (h : stB s c = true) : 1 ≤ s ∧ s ≤ 1099511627776 ∧ 1 ≤ c ∧ c ≤ 4 := of_decide_eq_true h
/-- Is there such a place, and which? -/
def plB (n k c o : Int) : Bool := decide (1 ≤ k ∧ k ≤ n ∧ 1 ≤ c ∧ c ≤ 4 ∧ 0 ≤ o ∧ o ≤ 1)
def plI (k c o : Int) : Nat := (((k - 1) * 4 + (c - 1)) * 2 + o).toNat
theorem plI_inj {n m k c o k' c' o' : Int} (h : plB n k c o = true) (h' : plB m k' c' o' = true) (e : plI k c o = plI k' c' o') : k = k' ∧ c = c' ∧ o = o' := by
 have h1 := of_decide_eq_true h
 have h2 := of_decide_eq_true h'
 unfold plI at e
 omega
def puB (n : Int) (V : Nat → Vt) (k s c : Int) : Bool := plB n k c (s % 2) && stB s c && decide ((V (plI k c (s % 2))).1 < s)
def puV (n : Int) (V : Nat → Vt) (k s c : Int) (d : List UInt8) : Nat → Vt := fun i => if puB n V k s c = true ∧ i = plI k c (s % 2) then (s, c, d) else V i
theorem puV_no {n : Int} {V : Nat → Vt} {k s c : Int} (d : List UInt8) (h : puB n V k s c = false) : puV n V k s c d = V := by
 funext i
 exact if_neg fun ⟨h1, _⟩ => by rw [h] at h1; cases h1
theorem puV_at {n : Int} {V : Nat → Vt} {k s c : Int} (d : List UInt8) (h : puB n V k s c = true) : puV n V k s c d (plI k c (s % 2)) = (s, c, d) := if_pos ⟨h, rfl⟩
theorem puV_other {n : Int} {V : Nat → Vt} {k s c : Int} (d : List UInt8) {i : Nat} (h : i ≠ plI k c (s % 2)) : puV n V k s c d i = V i := if_neg fun ⟨_, e⟩ => h e
/-- How many of the first k are such. -/
def cb (b : Nat → Bool) : Nat → Nat
 | 0 => 0
 | k + 1 => if b k = true then cb b k + 1 else cb b k
theorem cb_yes {b : Nat → Bool} {k : Nat} (h : b k = true) : cb b (k + 1) = cb b k + 1 := if_pos h
theorem cb_no {b : Nat → Bool} {k : Nat} (h : b k = false) : cb b (k + 1) = cb b k := if_neg (by rw [h]; exact Bool.false_ne_true)
theorem cb_le (b : Nat → Bool) : ∀ n, cb b n ≤ n
 | 0 => Nat.le_refl _
 | n + 1 => by
  have := cb_le b n
  unfold cb
  split <;> omega
theorem cb_up (b : Nat → Bool) (n : Nat) : cb b n ≤ cb b (n + 1) ∧ cb b (n + 1) ≤ cb b n + 1 := by
 cases e : b n with
 | true => rw [cb_yes e]; omega
 | false => rw [cb_no e]; omega
theorem cb_congr {b c : Nat → Bool} : ∀ n, (∀ j, j < n → b j = c j) → cb b n = cb c n
 | 0, _ => rfl
 | n + 1, h => by
  have h1 := cb_congr n fun j hj => h j (by omega)
  unfold cb
  rw [h1, h n (Nat.lt_succ_self n)]
theorem cb_sub {b c : Nat → Bool} : ∀ n, (∀ j, j < n → b j = true → c j = true) → cb b n ≤ cb c n
 | 0, _ => Nat.le_refl _
 | n + 1, h => by
  have h1 := cb_sub n (fun j hj => h j (by omega))
  cases e : b n with
  | false =>
   rw [cb_no e]
   have := cb_up c n
   omega
  | true => rw [cb_yes e, cb_yes (h n (Nat.lt_succ_self n) e)]; omega
theorem cb_two {b c : Nat → Bool} : ∀ n, (∀ j, j < n → b j = true → c j = false) → cb b n + cb c n ≤ n
 | 0, _ => Nat.le_refl _
 | n + 1, h => by
  have h1 := cb_two n (fun j hj => h j (by omega))
  cases e : b n with
  | true => rw [cb_yes e, cb_no (h n (Nat.lt_succ_self n) e)]; omega
  | false =>
   rw [cb_no e]
   have := cb_up c n
   omega
/-- One of them turns to yes. -/
theorem cb_one {b c : Nat → Bool} (i : Nat) : ∀ n, i < n → (∀ j, j < n → j ≠ i → b j = c j) → b i = false → cb c n = cb b n + (if c i = true then 1 else 0)
 | 0, h, _, _ => absurd h (Nat.not_lt_zero _)
 | n + 1, h, hj, hb => by
  by_cases e : i = n
  ·subst e
   have h1 := cb_congr (b := b) (c := c) i fun j hj' => hj j (by omega) (by omega)
   rw [cb_no hb, h1]
   show (if c i = true then _ else _) = _
   split <;> rfl
  ·have h1 := cb_one i n (by omega) (fun j hj' => hj j (by omega)) hb
   have h2 := hj n (Nat.lt_succ_self n) (fun x => e x.symm)
   unfold cb
   rw [h1, h2]
   split <;> omega
theorem cb_none {b : Nat → Bool} : ∀ n, (∀ j, j < n → b j = false) → cb b n = 0
 | 0, _ => rfl
 | n + 1, h => by rw [cb_no (h n (Nat.lt_succ_self n))]; exact cb_none n fun j hj => h j (by omega)
/-- How many servers vouch. -/
def isV (V : Nat → Vt) (s c : Int) (d : List UInt8) (j : Nat) : Bool := decide (V (plI ((j : Int) + 1) c (s % 2)) = (s, c, d))
def cntN (n : Nat) (V : Nat → Vt) (s c : Int) (d : List UInt8) : Nat := if stB s c = true then cb (isV V s c d) n else 0
theorem cntN_le (n : Nat) (V : Nat → Vt) (s c : Int) (d : List UInt8) : cntN n V s c d ≤ n := by
 unfold cntN
 split
 ·exact cb_le _ _
 ·omega
theorem cntN_two (n : Nat) (V : Nat → Vt) (s c : Int) (d d' : List UInt8) (h : d ≠ d') : cntN n V s c d + cntN n V s c d' ≤ n := by
 unfold cntN
 split
 ·refine cb_two n fun j _ hj => decide_eq_false fun e => h ?_
  have h1 : _ = (s, c, d) := of_decide_eq_true hj
  rw [h1] at e
  exact congrArg (fun x : Vt => x.2.2) e
 ·omega
def atV (n : Int) (V : Nat → Vt) (k c o : Int) : Vt := if plB n k c o = true then V (plI k c o) else vt0
/-- What a vote that is put does to how many vouch. -/
theorem cntN_put {n : Nat} {V : Nat → Vt} {k s c s' c' : Int} {d d' : List UInt8} (h : puB n V k s c = true) (hn : (s', c', d') ≠ (s, c, d) ∨ True) :
  cntN n (puV n V k s c d) s' c' d' ≤ cntN n V s' c' d' + (if (s', c', d') = (s, c, d) then 1 else 0) := by
 unfold cntN
 split
 ·rename_i hs
  by_cases e : (s', c', d') = (s, c, d)
  ·rw [if_pos e]
   obtain ⟨rfl, rfl, rfl⟩ : s' = s ∧ c' = c ∧ d' = d := by simpa using e
   have hp : plB n k c' (s' % 2) = true := by
    unfold puB at h; rw [Bool.and_eq_true, Bool.and_eq_true] at h; exact h.1.1
   have hk := of_decide_eq_true hp
   have hold : isV V s' c' d' (k - 1).toNat = false := by
    refine decide_eq_false fun h2 => ?_
    rw [show (((k - 1).toNat : Nat) : Int) + 1 = k by omega] at h2
    unfold puB at h; rw [Bool.and_eq_true, decide_eq_true_iff, h2] at h
    exact absurd h.2 (Int.lt_irrefl _)
   have := cb_one (b := isV V s' c' d') (c := isV (puV n V k s' c' d') s' c' d') (k - 1).toNat n (by omega) (fun j hj hne => by
    unfold isV
    rw [puV_other]
    intro e2
    have hj' : plB n ((j : Int) + 1) c' (s' % 2) = true := decide_eq_true (by omega)
    have := plI_inj hj' hp e2
    omega) hold
   rw [this]
   split <;> omega
  ·rw [if_neg e, Nat.add_zero]
   refine cb_sub n fun j hj h1 => ?_
   have h2 : puV n V k s c d (plI ((j : Int) + 1) c' (s' % 2)) = (s', c', d') := of_decide_eq_true h1
   refine decide_eq_true ?_
   by_cases e2 : plI ((j : Int) + 1) c' (s' % 2) = plI k c (s % 2)
   ·rw [e2, puV_at d h] at h2
    exact absurd h2.symm e
   ·rw [puV_other d e2] at h2
    exact h2
 ·exact Nat.zero_le _
theorem cntN_new {n : Nat} {V : Nat → Vt} {k s c : Int} {d : List UInt8} (h : puB n V k s c = true) : cntN n (puV n V k s c d) s c d = cntN n V s c d + 1 := by
 have h' := h
 unfold puB at h'; rw [Bool.and_eq_true, Bool.and_eq_true] at h'
 obtain ⟨⟨hp, hs⟩, hlt⟩ := h'
 unfold cntN
 rw [if_pos hs, if_pos hs]
 have hk := of_decide_eq_true hp
 have hold : isV V s c d (k - 1).toNat = false := by
  refine decide_eq_false fun h2 => ?_
  rw [show (((k - 1).toNat : Nat) : Int) + 1 = k by omega] at h2
  rw [decide_eq_true_iff, h2] at hlt
  exact absurd hlt (Int.lt_irrefl _)
 have hnew : isV (puV n V k s c d) s c d (k - 1).toNat = true := by
  refine decide_eq_true ?_
  rw [show (((k - 1).toNat : Nat) : Int) + 1 = k by omega]
  exact puV_at d h
 have := cb_one (b := isV V s c d) (c := isV (puV n V k s c d) s c d) (k - 1).toNat n (by omega) (fun j hj hne => by
  unfold isV
  rw [puV_other]
  intro e2
  have hj' : plB n ((j : Int) + 1) c (s % 2) = true := decide_eq_true (by omega)
  have := plI_inj hj' hp e2
  omega) hold
 rw [this, if_pos hnew]
/-- The document's list. -/
def kq (k c o : Int) (x : Rv) : Bool := decide (x.1 = k ∧ x.2.2.1 = c ∧ x.2.1 % 2 = o)
def rsm (a b : Rv) : Bool := decide (a.1 = b.1 ∧ a.2.2.1 = b.2.2.1 ∧ a.2.1 % 2 = b.2.1 % 2)
theorem rsm_kq (a b : Rv) : rsm a b = kq b.1 b.2.2.1 (b.2.1 % 2) a := rfl
def rgo (v : Rv) : List Rv → List Rv → Option (List Rv)
 | out, [] => some (out ++ [v])
 | out, x :: r => if rsm x v = false then rgo v (out ++ [x]) r else if v.2.1 ≤ x.2.1 then none else rgo v out r
def rokB (n : Int) (v : Rv) : Bool := decide (1 ≤ v.1 ∧ v.1 ≤ n) && stB v.2.1 v.2.2.1
def rputL (L : List Rv) (n : Int) (v : Rv) : List Rv := if rokB n v = true then (rgo v [] L).getD L else L
def rputB (L : List Rv) (n : Int) (v : Rv) : Bool := rokB n v && (rgo v [] L).isSome
def rcnt (L : List Rv) (s c : Int) (d : List UInt8) : Nat := L.countP fun x => decide (x.2 = (s, c, d))
def rat (L : List Rv) (k c o : Int) : Vt := ((L.find? (kq k c o)).map (·.2)).getD vt0
theorem rgo_no {v : Rv} : ∀ (l out : List Rv), (∃ x ∈ l, rsm x v = true ∧ v.2.1 ≤ x.2.1) → rgo v out l = none
 | [], _, ⟨x, hx, _⟩ => by cases hx
 | y :: r, out, ⟨x, hx, h1, h2⟩ => by
  unfold rgo
  rcases List.mem_cons.1 hx with rfl | hx
  ·rw [if_neg (by rw [h1]; decide), if_pos h2]
  ·have ih := fun o => rgo_no r o ⟨x, hx, h1, h2⟩
   rw [ih, ih]
   split
   ·rfl
   ·split <;> rfl
theorem rgo_yes {v : Rv} : ∀ (l out : List Rv), (∀ x ∈ l, rsm x v = true → x.2.1 < v.2.1) → rgo v out l = some (out ++ l.filter (fun x => !rsm x v) ++ [v])
 | [], out, _ => by unfold rgo; simp
 | y :: r, out, h => by
  unfold rgo
  have ih := fun o => rgo_yes r o fun x hx => h x (List.mem_cons_of_mem _ hx)
  cases e : rsm y v with
  | false =>
   rw [if_pos rfl, ih, List.filter_cons_of_pos (by rw [e]; rfl)]
   simp
  | true =>
   have := h y (List.mem_cons_self ..) e
   rw [if_neg (by decide), if_neg (by omega), ih, List.filter_cons_of_neg (by rw [e]; decide)]
/-- The places and the list tell the same. -/
structure VRel (n : Int) (V : Nat → Vt) (L : List Rv) : Prop where
 may : ∀ x ∈ L, rokB n x = true
 one : L.Pairwise fun a b => rsm a b = false
 at' : ∀ k c o, plB n k c o = true → V (plI k c o) = rat L k c o
theorem VRel.nil (n : Int) : VRel n (fun _ => vt0) [] := ⟨(fun _ h => by cases h), List.Pairwise.nil, fun _ _ _ _ => rfl⟩
theorem rat_cons (x : Rv) (L : List Rv) (k c o : Int) : rat (x :: L) k c o = if kq k c o x = true then x.2 else rat L k c o := by
 unfold rat
 rw [List.find?_cons]
 cases kq k c o x <;> rfl
theorem rat_none {L : List Rv} {k c o : Int} (h : ∀ x ∈ L, kq k c o x = false) : rat L k c o = vt0 := by
 unfold rat
 rw [List.find?_eq_none.2 fun x hx => by rw [h x hx]; decide]
 rfl
theorem rat_app (L M : List Rv) (k c o : Int) : rat (L ++ M) k c o = if L.any (kq k c o) = true then rat L k c o else rat M k c o := by
 induction L with
 | nil => rfl
 | cons x L ih =>
  rw [List.cons_append, rat_cons, rat_cons, ih, List.any_cons]
  cases kq k c o x
  ·rw [Bool.false_or]; rfl
  ·rw [Bool.true_or]; rfl
theorem rat_in {L : List Rv} (hp : L.Pairwise fun a b => rsm a b = false) {x : Rv} (hx : x ∈ L) {k c o : Int} (h : kq k c o x = true) : rat L k c o = x.2 := by
 induction L with
 | nil => cases hx
 | cons y L ih =>
  rw [rat_cons]
  rw [List.pairwise_cons] at hp
  rcases List.mem_cons.1 hx with rfl | hm
  ·rw [if_pos h]
  ·rw [if_neg, ih hp.2 hm]
   intro hy
   have h1 := hp.1 x hm
   have h2 := of_decide_eq_true h
   have h3 := of_decide_eq_true hy
   have h4 := of_decide_eq_false h1
   exact h4 ⟨h3.1.trans h2.1.symm, h3.2.1.trans h2.2.1.symm, h3.2.2.trans h2.2.2.symm⟩
theorem rat_filter {L : List Rv} {v : Rv} {k c o : Int} (h : ¬ (k = v.1 ∧ c = v.2.2.1 ∧ o = v.2.1 % 2)) : rat (L.filter fun x => !rsm x v) k c o = rat L k c o := by
 induction L with
 | nil => rfl
 | cons x L ih =>
  rw [rat_cons]
  cases e : rsm x v with
  | false => rw [List.filter_cons_of_pos (by rw [e]; rfl), rat_cons, ih]
  | true =>
   rw [List.filter_cons_of_neg (by rw [e]; decide), ih, if_neg]
   intro hx
   have h1 := of_decide_eq_true e
   have h2 := of_decide_eq_true hx
   exact h ⟨h2.1.symm.trans h1.1, h2.2.1.symm.trans h1.2.1, h2.2.2.symm.trans h1.2.2⟩
theorem VRel.put {n : Int} {V : Nat → Vt} {L : List Rv} (h : VRel n V L) (v : Rv) : puB n V v.1 v.2.1 v.2.2.1 = rputB L n v ∧ VRel n (puV n V v.1 v.2.1 v.2.2.1 v.2.2.2) (rputL L n v) := by
 by_cases hok : rokB n v = true
 ·have hok' := hok
  unfold rokB at hok'
  rw [Bool.and_eq_true, decide_eq_true_iff] at hok'
  obtain ⟨hk, hs⟩ := hok'
  have hs' := stB_yes hs
  have hpl : plB n v.1 v.2.2.1 (v.2.1 % 2) = true := decide_eq_true (by omega)
  have hV := h.at' _ _ _ hpl
  by_cases hx : ∃ x ∈ L, rsm x v = true ∧ v.2.1 ≤ x.2.1
  ·have hg := rgo_no L [] hx
   obtain ⟨x, hm, h1, h2⟩ := hx
   have h3 : V (plI v.1 v.2.2.1 (v.2.1 % 2)) = x.2 := by rw [hV]; exact rat_in h.one hm h1
   have h4 : puB n V v.1 v.2.1 v.2.2.1 = false := by
    unfold puB
    rw [h3, decide_eq_false (by omega), Bool.and_false]
   refine ⟨?_, ?_⟩
   ·rw [h4]; unfold rputB; rw [hg, hok]; rfl
   ·rw [puV_no _ h4]
    unfold rputL
    rw [hg, if_pos hok]
    exact h
  ·have hlt : ∀ x ∈ L, rsm x v = true → x.2.1 < v.2.1 := fun x hm h1 => Int.not_le.1 fun h2 => hx ⟨x, hm, h1, h2⟩
   have hg := rgo_yes L [] hlt
   have h4 : puB n V v.1 v.2.1 v.2.2.1 = true := by
    unfold puB
    rw [hpl, hs, hV]
    refine decide_eq_true ?_
    by_cases h5 : ∃ x ∈ L, rsm x v = true
    ·obtain ⟨x, hm, h6⟩ := h5
     rw [rat_in h.one hm h6]
     exact hlt x hm h6
    ·rw [rat_none fun x hm => by
      cases e : kq v.1 v.2.2.1 (v.2.1 % 2) x with
      | false => rfl
      | true => exact absurd ⟨x, hm, e⟩ h5]
     show (0 : Int) < _
     omega
   refine ⟨?_, ?_⟩
   ·rw [h4]; unfold rputB; rw [hg, hok]; rfl
   ·unfold rputL
    rw [hg, if_pos hok]
    show VRel n _ ([] ++ L.filter (fun x => !rsm x v) ++ [v])
    rw [List.nil_append]
    refine ⟨fun x hm => ?_, ?_, fun k c o hp => ?_⟩
    ·rcases List.mem_append.1 hm with hm | hm
     ·exact h.may x (List.mem_filter.1 hm).1
     ·rw [List.mem_singleton.1 hm]; exact hok
    ·rw [List.pairwise_append]
     refine ⟨h.one.filter _, List.pairwise_singleton _ _, fun a ha b hb => ?_⟩
     rw [List.mem_singleton.1 hb]
     have := (List.mem_filter.1 ha).2
     simpa using this
    ·by_cases e : k = v.1 ∧ c = v.2.2.1 ∧ o = v.2.1 % 2
     ·obtain ⟨rfl, rfl, rfl⟩ := e
      rw [puV_at _ h4, rat_app, if_neg, rat_cons, if_pos (show kq v.1 v.2.2.1 (v.2.1 % 2) v = true from decide_eq_true ⟨rfl, rfl, rfl⟩)]
      rw [List.any_eq_true]
      rintro ⟨x, hm, h7⟩
      have := (List.mem_filter.1 hm).2
      rw [rsm_kq, h7] at this
      cases this
     ·rw [puV_other _ fun e2 => e (plI_inj hp hpl e2), h.at' _ _ _ hp, rat_app, rat_filter e, rat_cons, if_neg (c := kq k c o v = true)]
      ·split
       ·rfl
       ·rename_i h8
        rw [← rat_filter (L := L) e]
        rw [rat_none fun x hm => by
         cases e3 : kq k c o x with
         | false => rfl
         | true => exact absurd (List.any_eq_true.2 ⟨x, hm, e3⟩) h8]
        rfl
      ·intro h9
       have := of_decide_eq_true h9
       exact e ⟨this.1.symm, this.2.1.symm, this.2.2.symm⟩
 ·have hok2 : rokB n v = false := by simpa using hok
  have h4 : puB n V v.1 v.2.1 v.2.2.1 = false := by
   cases e : puB n V v.1 v.2.1 v.2.2.1 with
   | false => rfl
   | true =>
    unfold puB at e
    rw [Bool.and_eq_true, Bool.and_eq_true] at e
    have := of_decide_eq_true e.1.1
    exact absurd (show rokB n v = true by unfold rokB; rw [e.1.2, decide_eq_true (by omega)]; rfl) hok
  refine ⟨by rw [h4]; unfold rputB; rw [hok2]; rfl, ?_⟩
  rw [puV_no _ h4]
  unfold rputL
  rw [if_neg hok]
  exact h
theorem cnt_list {n : Nat} {s c : Int} {d : List UInt8} (hs : stB s c = true) : ∀ L : List Rv, (∀ x ∈ L, rokB n x = true) → (L.Pairwise fun a b => rsm a b = false) →
  cb (fun j => decide (rat L ((j : Int) + 1) c (s % 2) = (s, c, d))) n = rcnt L s c d
 | [], _, _ => by
  refine cb_none n fun j _ => decide_eq_false fun e => ?_
  have h1 : (0 : Int) = s := congrArg (fun x : Vt => x.1) e
  have := stB_yes hs
  omega
 | x :: L, hm, hp => by
  rw [List.pairwise_cons] at hp
  have ih := cnt_list (d := d) hs L (fun y hy => hm y (List.mem_cons_of_mem _ hy)) hp.2
  unfold rcnt at *
  rw [List.countP_cons, ← ih]
  have hx := hm x (List.mem_cons_self ..)
  unfold rokB at hx
  rw [Bool.and_eq_true, decide_eq_true_iff] at hx
  by_cases e : x.2.2.1 = c ∧ x.2.1 % 2 = s % 2
  ·have hno : rat L x.1 c (s % 2) = vt0 := rat_none fun y hy => decide_eq_false fun h1 => by
    have := of_decide_eq_false (hp.1 y hy)
    exact this ⟨h1.1.symm, e.1.trans h1.2.1.symm, e.2.trans h1.2.2.symm⟩
   have hk : (((x.1 - 1).toNat : Nat) : Int) + 1 = x.1 := by omega
   have := cb_one (b := fun j => decide (rat L ((j : Int) + 1) c (s % 2) = (s, c, d))) (c := fun j => decide (rat (x :: L) ((j : Int) + 1) c (s % 2) = (s, c, d))) (x.1 - 1).toNat n (by omega) (fun j hj hne => by
    show decide _ = decide _
    rw [rat_cons, if_neg]
    intro h1
    have := of_decide_eq_true h1
    omega) (by
    show decide _ = false
    rw [hk, hno]
    refine decide_eq_false fun e2 => ?_
    have h1 : (0 : Int) = s := congrArg (fun x : Vt => x.1) e2
    have := stB_yes hs
    omega)
   rw [this]
   show _ + (if decide (rat (x :: L) (((x.1 - 1).toNat : Int) + 1) c (s % 2) = (s, c, d)) = true then 1 else 0) = _
   rw [hk, rat_cons, if_pos (show kq x.1 c (s % 2) x = true from decide_eq_true ⟨rfl, e.1, e.2⟩)]
  ·rw [cb_congr (c := fun j => decide (rat L ((j : Int) + 1) c (s % 2) = (s, c, d))) n fun j hj => by
    show decide _ = decide _
    rw [rat_cons, if_neg]
    intro h1
    exact e (of_decide_eq_true h1).2]
   rw [if_neg, Nat.add_zero]
   intro h1
   have h2 := of_decide_eq_true h1
   exact e ⟨congrArg (fun y : Vt => y.2.1) h2, by rw [show x.2.1 = s from congrArg (fun y : Vt => y.1) h2]⟩
theorem VRel.cnt {n : Nat} {V : Nat → Vt} {L : List Rv} (h : VRel n V L) (s c : Int) (d : List UInt8) : cntN n V s c d = rcnt L s c d := by
 unfold cntN
 split
 ·rename_i hs
  rw [← cnt_list hs L h.may h.one]
  refine cb_congr n fun j hj => ?_
  unfold isV
  have := stB_yes hs
  rw [h.at' _ _ _ (decide_eq_true (by omega))]
 ·rename_i hs
  unfold rcnt
  symm
  rw [List.countP_eq_zero]
  intro x hx h1
  have h2 := of_decide_eq_true h1
  have h3 := h.may x hx
  unfold rokB at h3
  rw [Bool.and_eq_true, h2] at h3
  exact hs h3.2
theorem VRel.atv {n : Int} {V : Nat → Vt} {L : List Rv} (h : VRel n V L) (k c o : Int) (ho : 0 ≤ o ∧ o ≤ 1) : atV n V k c o = rat L k c o := by
 unfold atV
 split
 ·rename_i hp
  exact h.at' _ _ _ hp
 ·rename_i hp
  symm
  refine rat_none fun x hx => decide_eq_false fun h1 => hp ?_
  have h3 := h.may x hx
  unfold rokB at h3
  rw [Bool.and_eq_true, decide_eq_true_iff] at h3
  have := stB_yes h3.2
  exact decide_eq_true (by omega)
end Go.Proofs.Ytdbcikhineghcaa
