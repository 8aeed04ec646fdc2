/- Keys: their order, their places in a list, and what a space answers: plain mathematics. -/
import Derived.Test.YtchiiphmpkmloaaRows
namespace Go.Proofs.Ytchiiphmpkmloaa
set_option linter.unusedVariables false
abbrev Ky := List UInt8
/-- Is a key less than another? -/
def lb (a b : Ky) : Bool := Op.bytesLess a b
theorem lb_irr : ∀ a : Ky, lb a a = false
 | [] => rfl
 | a :: r => by
  have h := lb_irr r
  unfold lb at h ⊢
  unfold Op.bytesLess
  simp [h]
theorem lb_trans : ∀ a b c : Ky, lb a b = true → lb b c = true → lb a c = true
 | _, _, [], _, h => by
  rename_i a b _
  cases b <;> simp [lb, Op.bytesLess] at h
 | _, [], _ :: _, h, _ => by
  rename_i a _ _ _
  cases a <;> simp [lb, Op.bytesLess] at h
 | [], _ :: _, _ :: _, _, _ => rfl
 | a :: x, b :: y, c :: z, h, h' => by
  have ih := lb_trans x y z
  unfold lb at ih h h' ⊢
  unfold Op.bytesLess at h h' ⊢
  simp only [Bool.or_eq_true, Bool.and_eq_true, decide_eq_true_eq, beq_iff_eq] at h h' ⊢
  rcases h with h | ⟨rfl, h⟩
  ·rcases h' with h' | ⟨rfl, h'⟩
   ·exact .inl (by rw [UInt8.lt_iff_toNat_lt] at *; omega)
   ·exact .inl h
  ·rcases h' with h' | ⟨rfl, h'⟩
   ·exact .inl h'
   ·exact .inr ⟨rfl, ih h h'⟩
theorem lb_tri : ∀ a b : Ky, lb a b = false → lb b a = false → a = b
 | [], [], _, _ => rfl
 | [], _ :: _, h, _ => by simp [lb, Op.bytesLess] at h
 | _ :: _, [], _, h => by simp [lb, Op.bytesLess] at h
 | a :: x, b :: y, h, h' => by
  have ih := lb_tri x y
  unfold lb at ih h h'
  unfold Op.bytesLess at h h'
  simp only [Bool.or_eq_false_iff, Bool.and_eq_false_iff, decide_eq_false_iff_not] at h h'
  have e : a = b := by
   rw [UInt8.lt_iff_toNat_lt] at h
   rw [UInt8.lt_iff_toNat_lt] at h'
   exact UInt8.toNat_inj.1 (by omega)
  subst e
  have h1 : Op.bytesLess x y = false := h.2.resolve_left (by simp)
  have h2 : Op.bytesLess y x = false := h'.2.resolve_left (by simp)
  rw [ih h1 h2]
theorem lb_asym {a b : Ky} (h : lb a b = true) : lb b a = false := by
 cases e : lb b a with
 | false => rfl
 | true => have := lb_trans a b a h e; rw [lb_irr] at this; cases this
/-- Sorted, each once. -/
def Srt (l : List Ky) : Prop := l.Pairwise fun a b => lb a b = true
/-- How many come ahead. -/
def rk (x : Ky) (l : List Ky) : Nat := l.countP fun y => lb y x
theorem rk_le (x : Ky) (l : List Ky) : rk x l ≤ l.length := List.countP_le_length
theorem rk_none {x : Ky} {l : List Ky} (h : ∀ y ∈ l, lb y x = false) : rk x l = 0 := List.countP_eq_zero.2 fun y hy => by rw [h y hy]; decide
theorem rk_cons (x a : Ky) (r : List Ky) : rk x (a :: r) = if lb a x = true then rk x r + 1 else rk x r := by
 unfold rk
 rw [List.countP_cons]
 split <;> rfl
theorem srt_head {a x : Ky} {r : List Ky} (h : Srt (a :: r)) (hx : lb a x = false) : ∀ y ∈ a :: r, lb y x = false := by
 intro y hy
 rcases List.mem_cons.1 hy with rfl | hy
 ·exact hx
 ·cases e : lb y x with
  | false => rfl
  | true => have := lb_trans a y x ((List.pairwise_cons.1 h).1 y hy) e; rw [hx] at this; cases this
theorem rk_at {x : Ky} : ∀ (l : List Ky), Srt l → ∀ t, t < l.length → lb (l.getD t []) x = decide (t < rk x l)
 | [], _, t, ht => by simp at ht
 | a :: r, h, t, ht => by
  cases e : lb a x with
  | false =>
   have h0 := srt_head h e
   rw [rk_none h0, show decide (t < 0) = false from decide_eq_false (Nat.not_lt_zero _)]
   refine h0 _ ?_
   rw [List.getD_eq_getElem?_getD, List.getElem?_eq_getElem ht]
   exact List.getElem_mem ht
  | true =>
   rw [rk_cons, if_pos e]
   cases t with
   | zero =>
    rw [show decide (0 < rk x r + 1) = true from decide_eq_true (Nat.succ_pos _)]
    simpa using e
   | succ t =>
    have ih := rk_at (x := x) r (List.pairwise_cons.1 h).2 t (by simpa using ht)
    rw [show decide (t + 1 < rk x r + 1) = decide (t < rk x r) from decide_eq_decide.2 (by omega), ← ih]
    rfl
theorem rk_mem {x : Ky} : ∀ (l : List Ky), Srt l → (x ∈ l ↔ rk x l < l.length ∧ l.getD (rk x l) [] = x)
 | [], _ => by simp
 | a :: r, h => by
  have ih := rk_mem (x := x) r (List.pairwise_cons.1 h).2
  cases e : lb a x with
  | false =>
   rw [rk_none (srt_head h e)]
   constructor
   ·intro hm
    refine ⟨by simp, ?_⟩
    rcases List.mem_cons.1 hm with rfl | hm
    ·rfl
    ·rw [(List.pairwise_cons.1 h).1 x hm] at e; cases e
   ·rintro ⟨_, h2⟩
    have : a = x := by simpa using h2
    rw [this]
    exact List.mem_cons_self ..
  | true =>
   have hne : x ≠ a := fun k => by rw [k, lb_irr] at e; cases e
   rw [rk_cons, if_pos e, List.mem_cons]
   constructor
   ·rintro (k | k)
    ·exact absurd k hne
    ·have := ih.1 k
     exact ⟨by simp; omega, by simpa using this.2⟩
   ·rintro ⟨h1, h2⟩
    exact .inr (ih.2 ⟨by simpa using h1, by simpa using h2⟩)
/-- A key at its place. -/
def insK (x : Ky) (l : List Ky) : List Ky := l.take (rk x l) ++ x :: l.drop (rk x l)
theorem insK_perm (x : Ky) (l : List Ky) : (insK x l).Perm (x :: l) := by
 unfold insK
 refine List.perm_middle.trans ?_
 rw [List.take_append_drop]
theorem insK_len (x : Ky) (l : List Ky) : (insK x l).length = l.length + 1 := (insK_perm x l).length_eq
theorem getD_mem {l : List Ky} {t : Nat} (h : t < l.length) : l.getD t [] ∈ l := by
 rw [List.getD_eq_getElem?_getD, List.getElem?_eq_getElem h]
 exact List.getElem_mem h
theorem mem_at {l : List Ky} {y : Ky} (h : y ∈ l) : ∃ t, t < l.length ∧ l.getD t [] = y := by
 obtain ⟨t, ht, e⟩ := List.mem_iff_getElem.1 h
 exact ⟨t, ht, by rw [List.getD_eq_getElem?_getD, List.getElem?_eq_getElem ht]; exact e⟩
theorem getD_take {l : List Ky} {k t : Nat} (h : t < k) : (l.take k).getD t [] = l.getD t [] := by
 rw [List.getD_eq_getElem?_getD, List.getD_eq_getElem?_getD, List.getElem?_take, if_pos h]
theorem getD_drop {l : List Ky} {k t : Nat} : (l.drop k).getD t [] = l.getD (k + t) [] := by
 rw [List.getD_eq_getElem?_getD, List.getD_eq_getElem?_getD, List.getElem?_drop]
theorem insK_srt {x : Ky} {l : List Ky} (h : Srt l) (hx : x ∉ l) : Srt (insK x l) := by
 have hle := rk_le x l
 have h1 : ∀ y ∈ l.take (rk x l), lb y x = true := fun y hy => by
  obtain ⟨t, ht, e⟩ := mem_at hy
  rw [List.length_take] at ht
  rw [getD_take (by omega)] at e
  rw [← e, rk_at l h t (by omega)]
  exact decide_eq_true (by omega)
 have h2 : ∀ y ∈ l.drop (rk x l), lb x y = true := fun y hy => by
  obtain ⟨t, ht, e⟩ := mem_at hy
  rw [List.length_drop] at ht
  rw [getD_drop] at e
  have h3 := rk_at (x := x) l h (rk x l + t) (by omega)
  rw [e, show decide (rk x l + t < rk x l) = false from decide_eq_false (by omega)] at h3
  cases k : lb x y with
  | true => rfl
  | false => exact absurd (lb_tri _ _ k h3 ▸ (e ▸ getD_mem (by omega) : y ∈ l)) hx
 unfold Srt insK
 rw [List.pairwise_append]
 refine ⟨h.sublist (List.take_sublist _ _), List.pairwise_cons.2 ⟨h2, h.sublist (List.drop_sublist _ _)⟩, fun a ha b hb => ?_⟩
 rcases List.mem_cons.1 hb with rfl | hb
 ·exact h1 a ha
 ·exact lb_trans _ _ _ (h1 a ha) (h2 b hb)
theorem rk_perm {x : Ky} {l k : List Ky} (h : l.Perm k) : rk x l = rk x k := h.countP_eq _
theorem rk_ins (x : Ky) (l : List Ky) : rk x (insK x l) = rk x l := by
 rw [rk_perm (insK_perm x l), rk_cons, if_neg (by rw [lb_irr]; decide)]
theorem rk_snoc (x : Ky) (l : List Ky) : rk x (l ++ [x]) = rk x l := by
 unfold rk
 rw [List.countP_append]
 simp [lb_irr]
theorem srt_lt {l : List Ky} (h : Srt l) {i j : Nat} (hi : i < j) (hj : j < l.length) : lb (l.getD i []) (l.getD j []) = true := by
 rw [List.getD_eq_getElem?_getD, List.getD_eq_getElem?_getD, List.getElem?_eq_getElem (by omega : i < l.length), List.getElem?_eq_getElem hj]
 exact List.pairwise_iff_getElem.1 h _ _ (by omega) hj hi
theorem srt_rk {l : List Ky} (h : Srt l) {j : Nat} (hj : j < l.length) : rk (l.getD j []) l = j := by
 have hm := (rk_mem l h).1 (getD_mem hj)
 have h1 := rk_at (x := l.getD j []) l h
 have h2 := h1 j hj
 rw [lb_irr] at h2
 have h3 : ¬ j < rk (l.getD j []) l := of_decide_eq_false h2.symm
 rcases Nat.lt_or_ge (rk (l.getD j []) l) j with h4 | h4
 ·exfalso
  have h5 := srt_lt h h4 hj
  rw [hm.2, lb_irr] at h5
  cases h5
 ·omega
/-- Is there such an end? -/
def endB (n m e : Int) : Bool := decide (1 ≤ e ∧ e ≤ n + m)
/-- May a key be? -/
def kyB (x : Ky) : Bool := decide (1 ≤ x.length ∧ x.length ≤ 8)
/-- An end's quota. -/
def quo (n m e : Int) : Int := if endB n m e = true then (if e ≤ n then m * n * 4 else 4) else 0
/-- By what error Open answers; u: how many the end let be known. -/
def opE (n m : Int) (l : List Ky) (u : Int) (x : Ky) (e : Int) : Int := if endB n m e = true ∧ kyB x = true then (if x ∈ l then 0 else if quo n m e ≤ u then 7 else 0) else 1
def opF (n m : Int) (l : List Ky) (u : Int) (x : Ky) (e : Int) : Bool := decide (opE n m l u x e = 0) && !decide (x ∈ l)
def opP (n m : Int) (l : List Ky) (u : Int) (x : Ky) (e : Int) : Nat := if opE n m l u x e = 0 then rk x l else 0
/-- The keys behind Open. -/
def opK (n m : Int) (l : List Ky) (u : Int) (x : Ky) (e : Int) : List Ky := if opF n m l u x e = true then insK x l else l
def opU (n m : Int) (l : List Ky) (U : Int → Int) (x : Ky) (e : Int) : Int → Int := if opF n m l (U e) x e = true then fun k => if k = e then U k + 1 else U k else U
/-- Find. -/
def fdP (l : List Ky) (x : Ky) : Nat := if x ∈ l then rk x l else 0
def fdB (l : List Ky) (x : Ky) : Bool := decide (x ∈ l)
theorem op_arg {n m : Int} {l : List Ky} {u : Int} {x : Ky} {e : Int} (h : ¬ (endB n m e = true ∧ kyB x = true)) : opE n m l u x e = 1 ∧ opF n m l u x e = false ∧ opP n m l u x e = 0 := by
 have h1 : opE n m l u x e = 1 := if_neg h
 refine ⟨h1, ?_, ?_⟩
 ·unfold opF; rw [h1]; rfl
 ·unfold opP; rw [h1]; rfl
theorem op_known {n m : Int} {l : List Ky} {u : Int} {x : Ky} {e : Int} (h : endB n m e = true) (hk : kyB x = true) (hx : x ∈ l) : opE n m l u x e = 0 ∧ opF n m l u x e = false ∧ opP n m l u x e = rk x l := by
 have h1 : opE n m l u x e = 0 := by unfold opE; rw [if_pos ⟨h, hk⟩, if_pos hx]
 refine ⟨h1, ?_, ?_⟩
 ·unfold opF; rw [h1, decide_eq_true hx]; rfl
 ·unfold opP; rw [h1]; rfl
theorem op_quota {n m : Int} {l : List Ky} {u : Int} {x : Ky} {e : Int} (h : endB n m e = true) (hk : kyB x = true) (hx : x ∉ l) (hq : quo n m e ≤ u) : opE n m l u x e = 7 ∧ opF n m l u x e = false ∧ opP n m l u x e = 0 := by
 have h1 : opE n m l u x e = 7 := by unfold opE; rw [if_pos ⟨h, hk⟩, if_neg hx, if_pos hq]
 refine ⟨h1, ?_, ?_⟩
 ·unfold opF; rw [h1]; rfl
 ·unfold opP; rw [h1]; rfl
theorem op_new {n m : Int} {l : List Ky} {u : Int} {x : Ky} {e : Int} (h : endB n m e = true) (hk : kyB x = true) (hx : x ∉ l) (hq : u < quo n m e) : opE n m l u x e = 0 ∧ opF n m l u x e = true ∧ opP n m l u x e = rk x l := by
 have h1 : opE n m l u x e = 0 := by unfold opE; rw [if_pos ⟨h, hk⟩, if_neg hx, if_neg (by omega)]
 refine ⟨h1, ?_, ?_⟩
 ·unfold opF; rw [h1, decide_eq_false hx]; rfl
 ·unfold opP; rw [h1]; rfl
theorem op_perm {n m : Int} {l k : List Ky} (h : l.Perm k) (u : Int) (x : Ky) (e : Int) : opE n m l u x e = opE n m k u x e ∧ opF n m l u x e = opF n m k u x e ∧ opP n m l u x e = opP n m k u x e := by
 have hm : (x ∈ l) = (x ∈ k) := propext h.mem_iff
 have h1 : opE n m l u x e = opE n m k u x e := by unfold opE; simp only [hm]
 refine ⟨h1, ?_, ?_⟩
 ·unfold opF; simp only [h1, hm]
 ·unfold opP; rw [h1, rk_perm h]
/-- How often an end stands there. -/
def usd (es : List Int) (e : Int) : Int := (es.countP fun k => decide (k = e) : Nat)
theorem usd_snoc (es : List Int) (e k : Int) : usd (es ++ [e]) k = if k = e then usd es k + 1 else usd es k := by
 unfold usd
 rw [List.countP_append]
 by_cases h : k = e
 ·subst h; simp
 ·rw [if_neg h]; simp [Ne.symm h]
/-- The program's keys, and the document's. -/
structure SRel (ks : List Ky) (U : Int → Int) (us : List Ky) (es : List Int) : Prop where
 srt : Srt ks
 perm : us.Perm ks
 used : ∀ e, U e = usd es e
 len : es.length = us.length
theorem SRel.nil : SRel [] (fun _ => 0) [] [] := ⟨List.Pairwise.nil, .refl _, fun _ => rfl, rfl⟩
/-- The document's keys and ends behind Open. -/
def opL (n m : Int) (us : List Ky) (es : List Int) (x : Ky) (e : Int) : List Ky := if opF n m us (usd es e) x e = true then us ++ [x] else us
def opS (n m : Int) (us : List Ky) (es : List Int) (x : Ky) (e : Int) : List Int := if opF n m us (usd es e) x e = true then es ++ [e] else es
theorem opF_notin {n m : Int} {l : List Ky} {u : Int} {x : Ky} {e : Int} (h : opF n m l u x e = true) : x ∉ l := by
 unfold opF at h
 rw [Bool.and_eq_true] at h
 have := h.2
 simpa using this
theorem SRel.opn {ks : List Ky} {U : Int → Int} {us : List Ky} {es : List Int} (h : SRel ks U us es) (n m : Int) (x : Ky) (e : Int) :
  SRel (opK n m ks (U e) x e) (opU n m ks U x e) (opL n m us es x e) (opS n m us es x e) := by
 have hp := op_perm (n := n) (m := m) h.perm (usd es e) x e
 unfold opK opU opL opS
 rw [hp.2.1, h.used e]
 cases hf : opF n m ks (usd es e) x e with
 | false => exact h
 | true =>
  simp only [if_true]
  refine ⟨insK_srt h.srt (opF_notin hf), ?_, fun k => ?_, by simp [h.len]⟩
  ·refine (List.perm_append_comm (l₁ := us) (l₂ := [x])).trans ?_
   exact (List.Perm.cons x h.perm).trans (insK_perm x ks).symm
  ·rw [usd_snoc]
   split
   ·rw [h.used]
   ·exact h.used k
theorem opL_len {n m : Int} {us : List Ky} {es : List Int} {x : Ky} {e : Int} : (opL n m us es x e).length ≤ us.length + 1 := by
 unfold opL
 split <;> simp
end Go.Proofs.Ytchiiphmpkmloaa
