/- Sorting, as plain mathematics: numbers in order of their keys, those of one key as they come. -/
namespace Go.Proofs.Ytonppckllfamiaa
set_option linter.unusedVariables false
/-- a and b in one another's place. -/
def swp (a b i : Nat) : Nat := if i = a then b else if i = b then a else i
theorem swp_inj {a b i j : Nat} (h : swp a b i = swp a b j) : i = j := by
 unfold swp at h
 repeat' split at h
 all_goals omega
theorem swp_l (a b : Nat) : swp a b a = b := if_pos rfl
theorem swp_r {a b : Nat} (h : b ≠ a) : swp a b b = a := by unfold swp; rw [if_neg h, if_pos rfl]
theorem swp_o {a b i : Nat} (h1 : i ≠ a) (h2 : i ≠ b) : swp a b i = i := by unfold swp; rw [if_neg h1, if_neg h2]
/-- Which of two numbers stands ahead. -/
def ahd (κ : Nat → Int) (x y : Nat) : Prop := κ x < κ y ∨ (κ x = κ y ∧ x < y)
theorem ahd.tr {κ : Nat → Int} {x y z : Nat} (h1 : ahd κ x y) (h2 : ahd κ y z) : ahd κ x z := by
 unfold ahd at *
 omega
theorem ahd.irr {κ : Nat → Int} {x : Nat} (h : ahd κ x x) : False := by
 unfold ahd at h
 omega
/-- Places from a on below b are put into another order. -/
def Pm (a b : Nat) (u v : Nat → Nat) : Prop := ∃ s : Nat → Nat, (∀ i, (i < a ∨ b ≤ i) → s i = i) ∧ (∀ i, a ≤ i → i < b → a ≤ s i ∧ s i < b) ∧ (∀ i j, s i = s j → i = j) ∧ ∀ i, v i = u (s i)
theorem Pm.refl (a b : Nat) (u : Nat → Nat) : Pm a b u u := ⟨id, fun _ _ => rfl, fun i h1 h2 => ⟨h1, h2⟩, fun _ _ h => h, fun _ => rfl⟩
theorem Pm.tr {a b : Nat} {u v x : Nat → Nat} (h : Pm a b u v) (k : Pm a b v x) : Pm a b u x := by
 obtain ⟨s, s1, s2, s3, s4⟩ := h
 obtain ⟨t, t1, t2, t3, t4⟩ := k
 refine ⟨fun i => s (t i), fun i hi => ?_, fun i h1 h2 => ?_, fun i j e => t3 _ _ (s3 _ _ e), fun i => ?_⟩
 ·show s (t i) = i
  rw [t1 i hi, s1 i hi]
 ·exact s2 _ (t2 i h1 h2).1 (t2 i h1 h2).2
 ·rw [t4, s4]
theorem Pm.wide {a b c d : Nat} {u v : Nat → Nat} (h : Pm a b u v) (h1 : c ≤ a) (h2 : b ≤ d) : Pm c d u v := by
 obtain ⟨s, s1, s2, s3, s4⟩ := h
 refine ⟨s, fun i hi => s1 i (by omega), fun i h3 h4 => ?_, s3, s4⟩
 by_cases h5 : a ≤ i ∧ i < b
 ·have := s2 i h5.1 h5.2
  omega
 ·rw [s1 i (by omega)]
  exact ⟨h3, h4⟩
theorem Pm.out {a b : Nat} {u v : Nat → Nat} (h : Pm a b u v) {i : Nat} (hi : i < a ∨ b ≤ i) : v i = u i := by
 obtain ⟨s, s1, s2, s3, s4⟩ := h
 rw [s4, s1 i hi]
theorem Pm.mem {a b : Nat} {u v : Nat → Nat} (h : Pm a b u v) {i : Nat} (h1 : a ≤ i) (h2 : i < b) : ∃ j, a ≤ j ∧ j < b ∧ v i = u j := by
 obtain ⟨s, s1, s2, s3, s4⟩ := h
 exact ⟨s i, (s2 i h1 h2).1, (s2 i h1 h2).2, s4 i⟩
theorem Pm.swap {a b p q : Nat} {u : Nat → Nat} (h1 : a ≤ p) (h2 : p < b) (h3 : a ≤ q) (h4 : q < b) : Pm a b u (fun i => u (swp p q i)) := by
 refine ⟨swp p q, fun i hi => ?_, fun i h5 h6 => ?_, fun i j e => swp_inj e, fun _ => rfl⟩
 ·unfold swp
  rw [if_neg (by omega), if_neg (by omega)]
 ·unfold swp
  repeat' split
  all_goals omega
def Srt (κ : Nat → Int) (a b : Nat) (u : Nat → Nat) : Prop := ∀ i j, a ≤ i → i < j → j < b → ahd κ (u i) (u j)
theorem Srt.congr {κ : Nat → Int} {a b : Nat} {u v : Nat → Nat} (h : Srt κ a b u) (e : ∀ i, a ≤ i → i < b → v i = u i) : Srt κ a b v := fun i j h1 h2 h3 => by
 rw [e i h1 (by omega), e j (by omega) h3]
 exact h i j h1 h2 h3
theorem Srt.le {κ : Nat → Int} {a b : Nat} {u : Nat → Nat} (h : Srt κ a b u) {i j : Nat} (h1 : a ≤ i) (h2 : i ≤ j) (h3 : j < b) {z : Nat} (k : ahd κ (u j) z) : ahd κ (u i) z := by
 by_cases e : i = j
 ·rw [e]; exact k
 ·exact (h i j h1 (by omega) h3).tr k
theorem Srt.ge {κ : Nat → Int} {a b : Nat} {u : Nat → Nat} (h : Srt κ a b u) {i j : Nat} (h1 : a ≤ i) (h2 : i ≤ j) (h3 : j < b) {z : Nat} (k : ahd κ z (u i)) : ahd κ z (u j) := by
 by_cases e : i = j
 ·rw [← e]; exact k
 ·exact k.tr (h i j h1 (by omega) h3)
/-! Insertion. -/
structure InsI (κ : Nat → Int) (a i j : Nat) (u0 u : Nat → Nat) : Prop where
 pm : Pm a (i + 1) u0 u
 st : ∀ p q, a ≤ p → p < q → q ≤ i → p ≠ j → q ≠ j → ahd κ (u p) (u q)
 up : ∀ q, j < q → q ≤ i → ahd κ (u j) (u q)
 lo : ∀ p, a ≤ p → p < j → u p < u j
theorem ins_start {κ : Nat → Int} {a b i : Nat} {u0 u : Nat → Nat} (hr : ∀ p q, a ≤ p → p < q → q < b → u0 p < u0 q) (hi : i < b) (h1 : Pm a i u0 u) (h2 : Srt κ a i u) : InsI κ a i i u0 u := by
 refine ⟨h1.wide (Nat.le_refl _) (by omega), fun p q h3 h4 h5 h6 h7 => h2 p q h3 h4 (by omega), fun q h3 h4 => by omega, fun p h3 h4 => ?_⟩
 obtain ⟨j, h5, h6, e⟩ := h1.mem h3 h4
 rw [e, h1.out (.inr (Nat.le_refl i))]
 exact hr j i h5 h6 hi
theorem ins_swap {κ : Nat → Int} {a i j : Nat} {u0 u : Nat → Nat} (h : InsI κ a i j u0 u) (hj : a < j) (hi : j ≤ i) (hk : κ (u j) < κ (u (j - 1))) : InsI κ a i (j - 1) u0 (fun k => u (swp j (j - 1) k)) := by
 have e1 : swp j (j - 1) j = j - 1 := if_pos rfl
 have e2 : swp j (j - 1) (j - 1) = j := by unfold swp; rw [if_neg (by omega), if_pos rfl]
 have e3 : ∀ k, k ≠ j → k ≠ j - 1 → swp j (j - 1) k = k := fun k h1 h2 => by unfold swp; rw [if_neg h1, if_neg h2]
 refine ⟨h.pm.tr (Pm.swap (by omega) (by omega) (by omega) (by omega)), fun p q h1 h2 h3 h4 h5 => ?_, fun q h1 h2 => ?_, fun p h1 h2 => ?_⟩
 ·show ahd κ (u (swp j (j - 1) p)) (u (swp j (j - 1) q))
  by_cases c1 : q = j
  ·rw [c1, e1, e3 p (by omega) h4]
   exact h.st p (j - 1) h1 (by omega) (by omega) (by omega) (by omega)
  ·by_cases c2 : p = j
   ·rw [c2, e1, e3 q c1 h5]
    exact h.st (j - 1) q (by omega) (by omega) h3 (by omega) c1
   ·rw [e3 p c2 h4, e3 q c1 h5]
    exact h.st p q h1 h2 h3 c2 c1
 ·show ahd κ (u (swp j (j - 1) (j - 1))) (u (swp j (j - 1) q))
  rw [e2]
  by_cases c1 : q = j
  ·rw [c1, e1]; exact .inl hk
  ·rw [e3 q c1 (by omega)]
   exact h.up q (by omega) h2
 ·show u (swp j (j - 1) p) < u (swp j (j - 1) (j - 1))
  rw [e2, e3 p (by omega) (by omega)]
  exact h.lo p h1 (by omega)
theorem ins_end {κ : Nat → Int} {a i j : Nat} {u0 u : Nat → Nat} (h : InsI κ a i j u0 u) (hj : a ≤ j) (hi : j ≤ i) (hk : a < j → ¬ κ (u j) < κ (u (j - 1))) : Pm a (i + 1) u0 u ∧ Srt κ a (i + 1) u := by
 refine ⟨h.pm, fun p q h1 h2 h3 => ?_⟩
 by_cases c1 : p = j
 ·subst c1
  exact h.up q h2 (by omega)
 ·by_cases c2 : q = j
  ·subst c2
   have hl : ahd κ (u (q - 1)) (u q) := by
    have h5 := hk (by omega)
    have h6 := h.lo (q - 1) (by omega) (by omega)
    unfold ahd
    omega
   by_cases c3 : p = q - 1
   ·rw [c3]; exact hl
   ·exact (h.st p (q - 1) h1 (by omega) (by omega) c1 (by omega)).tr hl
  ·exact h.st p q h1 h2 (by omega) c1 c2
/-! Moves. -/
/-- What stands at a, moved up to k. -/
def mvR (a k : Nat) (u : Nat → Nat) (p : Nat) : Nat := if a ≤ p ∧ p < k then u (p + 1) else if p = k then u a else u p
theorem mvR_0 (a : Nat) (u : Nat → Nat) : mvR a a u = u := by
 funext p
 unfold mvR
 rw [if_neg (by omega)]
 split
 ·subst_vars; rfl
 ·rfl
theorem mvR_s {a k : Nat} (u : Nat → Nat) (h : a ≤ k) : (fun p => mvR a k u (swp k (k + 1) p)) = mvR a (k + 1) u := by
 funext p
 by_cases c1 : p = k
 ·rw [c1, swp_l]
  unfold mvR
  rw [if_neg (by omega), if_neg (by omega), if_pos (by omega)]
 ·by_cases c2 : p = k + 1
  ·rw [c2, swp_r (by omega)]
   unfold mvR
   rw [if_neg (by omega), if_pos rfl, if_neg (by omega), if_pos rfl]
  ·rw [swp_o c1 c2]
   unfold mvR
   by_cases c3 : a ≤ p ∧ p < k
   ·rw [if_pos c3, if_pos (by omega)]
   ·rw [if_neg c3, if_neg c1, if_neg (by omega), if_neg c2]
/-- What stands at m, moved down to k. -/
def mvL (m k : Nat) (u : Nat → Nat) (p : Nat) : Nat := if k < p ∧ p ≤ m then u (p - 1) else if p = k then u m else u p
theorem mvL_0 (m : Nat) (u : Nat → Nat) : mvL m m u = u := by
 funext p
 unfold mvL
 rw [if_neg (by omega)]
 split
 ·subst_vars; rfl
 ·rfl
theorem mvL_s {m k : Nat} (u : Nat → Nat) (h : k ≤ m) (h0 : 0 < k) : (fun p => mvL m k u (swp k (k - 1) p)) = mvL m (k - 1) u := by
 funext p
 by_cases c1 : p = k
 ·rw [c1, swp_l]
  unfold mvL
  rw [if_neg (by omega), if_neg (by omega), if_pos (by omega)]
 ·by_cases c2 : p = k - 1
  ·rw [c2, swp_r (by omega)]
   unfold mvL
   rw [if_neg (by omega), if_pos rfl, if_neg (by omega), if_pos rfl]
  ·rw [swp_o c1 c2]
   unfold mvL
   by_cases c3 : k < p ∧ p ≤ m
   ·rw [if_pos c3, if_pos (by omega)]
   ·rw [if_neg c3, if_neg c1, if_neg (by omega), if_neg c2]
/-! The merge. -/
structure MP (κ : Nat → Int) (a m b : Nat) (u : Nat → Nat) : Prop where
 l : Srt κ a m u
 r : Srt κ m b u
 x : ∀ p q, a ≤ p → p < m → m ≤ q → q < b → u p < u q
theorem MP.no {κ : Nat → Int} {a m b : Nat} {u : Nat → Nat} (h : MP κ a m b u) {p q : Nat} (h1 : a ≤ p) (h2 : p < m) (h3 : m ≤ q) (h4 : q < b) (hk : ¬ κ (u q) < κ (u p)) : ahd κ (u p) (u q) := by
 have := h.x p q h1 h2 h3 h4
 unfold ahd
 omega
theorem MP.flat {κ : Nat → Int} {a m b : Nat} {u : Nat → Nat} (h : MP κ a m b u) (hm : a ≤ m) (hb : m ≤ b) (h1 : ¬ (a < m ∧ m < b)) : Srt κ a b u := by
 by_cases c : a = m
 ·subst c; exact h.r
 ·have : m = b := by omega
  subst this; exact h.l
theorem mrg_one {κ : Nat → Int} {a b i : Nat} {u : Nat → Nat} (h : MP κ a (a + 1) b u) (h1 : a + 1 ≤ i) (h2 : i ≤ b) (hl : ∀ q, a + 1 ≤ q → q < i → κ (u q) < κ (u a)) (hr : ∀ q, i ≤ q → q < b → ¬ κ (u q) < κ (u a)) : Srt κ a b (mvR a (i - 1) u) := by
 have e1 : ∀ p, a ≤ p → p < i - 1 → mvR a (i - 1) u p = u (p + 1) := fun p h3 h4 => if_pos ⟨h3, h4⟩
 have e2 : mvR a (i - 1) u (i - 1) = u a := by unfold mvR; rw [if_neg (by omega), if_pos rfl]
 have e3 : ∀ p, i ≤ p → mvR a (i - 1) u p = u p := fun p h3 => by unfold mvR; rw [if_neg (by omega), if_neg (by omega)]
 intro p q h3 h4 h5
 by_cases c1 : q < i - 1
 ·rw [e1 p h3 (by omega), e1 q (by omega) c1]
  exact h.r _ _ (by omega) (by omega) (by omega)
 ·by_cases c2 : q = i - 1
  ·rw [c2, e2, e1 p h3 (by omega)]
   exact .inl (hl _ (by omega) (by omega))
  ·rw [e3 q (by omega)]
   have hq : ahd κ (u a) (u q) := h.no (Nat.le_refl _) (by omega) (by omega) h5 (hr q (by omega) h5)
   by_cases c3 : p = i - 1
   ·rw [c3, e2]; exact hq
   ·by_cases c4 : p < i - 1
    ·rw [e1 p h3 c4]
     exact h.r _ _ (by omega) (by omega) h5
    ·rw [e3 p (by omega)]
     exact h.r _ _ (by omega) h4 h5
theorem mrg_last {κ : Nat → Int} {a m i : Nat} {u : Nat → Nat} (h : MP κ a m (m + 1) u) (h1 : a ≤ i) (h2 : i ≤ m) (hl : ∀ q, a ≤ q → q < i → ¬ κ (u m) < κ (u q)) (hr : ∀ q, i ≤ q → q < m → κ (u m) < κ (u q)) : Srt κ a (m + 1) (mvL m i u) := by
 have e1 : ∀ p, i < p → p ≤ m → mvL m i u p = u (p - 1) := fun p h3 h4 => if_pos ⟨h3, h4⟩
 have e2 : mvL m i u i = u m := by unfold mvL; rw [if_neg (by omega), if_pos rfl]
 have e3 : ∀ p, p < i → mvL m i u p = u p := fun p h3 => by unfold mvL; rw [if_neg (by omega), if_neg (by omega)]
 intro p q h3 h4 h5
 by_cases c1 : q < i
 ·rw [e3 p (by omega), e3 q c1]
  exact h.l p q h3 h4 (by omega)
 ·by_cases c2 : q = i
  ·rw [c2, e2, e3 p (by omega)]
   exact h.no h3 (by omega) (Nat.le_refl _) (by omega) (hl p h3 (by omega))
  ·rw [e1 q (by omega) (by omega)]
   by_cases c3 : p = i
   ·rw [c3, e2]
    exact .inl (hr _ (by omega) (by omega))
   ·by_cases c4 : p < i
    ·rw [e3 p c4]
     exact h.l _ _ h3 (by omega) (by omega)
    ·rw [e1 p (by omega) (by omega)]
     exact h.l _ _ (by omega) (by omega) (by omega)
/-- Two blocks, one behind the other, in one another's place. -/
def rot (s m e : Nat) (u : Nat → Nat) (p : Nat) : Nat := if s ≤ p ∧ p < s + (e - m) then u (p + (m - s)) else if s + (e - m) ≤ p ∧ p < e then u (p - (e - m)) else u p
theorem rot_pm {s m e : Nat} (u : Nat → Nat) (h1 : s ≤ m) (h2 : m ≤ e) : Pm s e u (rot s m e u) := by
 refine ⟨fun p => if s ≤ p ∧ p < s + (e - m) then p + (m - s) else if s + (e - m) ≤ p ∧ p < e then p - (e - m) else p, fun i hi => ?_, fun i h3 h4 => ?_, fun i j h => ?_, fun i => ?_⟩
 ·dsimp only
  rw [if_neg (by omega), if_neg (by omega)]
 ·dsimp only
  repeat' split
  all_goals omega
 ·dsimp only at h
  repeat' split at h
  all_goals omega
 ·unfold rot
  dsimp only
  repeat' split
  all_goals rfl
theorem rot_id {s m e : Nat} (u : Nat → Nat) (h1 : s ≤ m) (h2 : m ≤ e) (h : ¬ (s < m ∧ m < e)) : rot s m e u = u := by
 funext p
 unfold rot
 by_cases c : s = m
 ·subst c
  split
  ·congr 1; omega
  ·rw [if_neg (by omega)]
 ·have : m = e := by omega
  subst this
  rw [if_neg (by omega)]
  split
  ·congr 1; omega
  ·rfl
/-- Blocks of one length in one another's place. -/
def swr (a b k : Nat) (u : Nat → Nat) (p : Nat) : Nat := if a ≤ p ∧ p < a + k then u (p - a + b) else if b ≤ p ∧ p < b + k then u (p - b + a) else u p
theorem swr_0 (a b : Nat) (u : Nat → Nat) : swr a b 0 u = u := by
 funext p
 unfold swr
 rw [if_neg (by omega), if_neg (by omega)]
theorem swr_s {a b k n : Nat} (u : Nat → Nat) (h : a + n ≤ b) (hk : k < n) : (fun p => swr a b k u (swp (a + k) (b + k) p)) = swr a b (k + 1) u := by
 funext p
 by_cases c1 : p = a + k
 ·rw [c1, swp_l]
  unfold swr
  rw [if_neg (by omega), if_neg (by omega), if_pos (by omega)]
  congr 1; omega
 ·by_cases c2 : p = b + k
  ·rw [c2, swp_r (by omega)]
   unfold swr
   rw [if_neg (by omega), if_neg (by omega), if_neg (by omega), if_pos (by omega)]
   congr 1; omega
  ·rw [swp_o c1 c2]
   unfold swr
   by_cases c3 : a ≤ p ∧ p < a + k
   ·rw [if_pos c3, if_pos (by omega)]
   ·rw [if_neg c3]
    by_cases c4 : b ≤ p ∧ p < b + k
    ·rw [if_pos c4, if_neg (by omega), if_pos (by omega)]
    ·rw [if_neg c4, if_neg (by omega), if_neg (by omega)]
theorem rot_gt {m i j : Nat} (u : Nat → Nat) (him : i ≤ m) (hj : 0 < j) (h : j < i) : rot (m - (i - j)) m (m + j) (swr (m - i) m j u) = rot (m - i) m (m + j) u := by
 funext p
 unfold rot swr
 repeat' split
 all_goals first | omega | (congr 1; omega)
theorem rot_lt {m i j : Nat} (u : Nat → Nat) (him : i ≤ m) (hj : 0 < i) (h : i < j) : rot (m - i) m (m + (j - i)) (swr (m - i) (m + j - i) i u) = rot (m - i) m (m + j) u := by
 funext p
 unfold rot swr
 repeat' split
 all_goals first | omega | (congr 1; omega)
theorem rot_eq {m i : Nat} (u : Nat → Nat) (him : i ≤ m) : swr (m - i) m i u = rot (m - i) m (m + i) u := by
 funext p
 unfold rot swr
 repeat' split
 all_goals first | omega | (congr 1; omega)
/-- Behind the search in the middle: how the blocks stand. -/
theorem mrg_mid {κ : Nat → Int} {a m b s mid e : Nat} {u : Nat → Nat} (h : MP κ a m b u) (h1 : a ≤ s) (h2 : s ≤ m) (h3 : m ≤ e) (h4 : e ≤ b) (hmid : mid = s + (e - m))
  (hT : a < s → e < b → ¬ κ (u e) < κ (u (s - 1))) (hF : s < m → m < e → κ (u (e - 1)) < κ (u s)) :
  MP κ a s mid (rot s m e u) ∧ MP κ mid e b (rot s m e u) ∧ ∀ p q, a ≤ p → p < mid → mid ≤ q → q < b → ahd κ (rot s m e u p) (rot s m e u q) := by
 subst hmid
 have e0 : ∀ p, p < s → rot s m e u p = u p := fun p h5 => by unfold rot; rw [if_neg (by omega), if_neg (by omega)]
 have e1 : ∀ p, s ≤ p → p < s + (e - m) → rot s m e u p = u (p + (m - s)) := fun p h5 h6 => if_pos ⟨h5, h6⟩
 have e2 : ∀ p, s + (e - m) ≤ p → p < e → rot s m e u p = u (p - (e - m)) := fun p h5 h6 => by unfold rot; rw [if_neg (by omega), if_pos ⟨h5, h6⟩]
 have e3 : ∀ p, e ≤ p → rot s m e u p = u p := fun p h5 => by unfold rot; rw [if_neg (by omega), if_neg (by omega)]
 refine ⟨⟨fun p q h5 h6 h7 => ?_, fun p q h5 h6 h7 => ?_, fun p q h5 h6 h7 h8 => ?_⟩, ⟨fun p q h5 h6 h7 => ?_, fun p q h5 h6 h7 => ?_, fun p q h5 h6 h7 h8 => ?_⟩, fun p q h5 h6 h7 h8 => ?_⟩
 ·rw [e0 p (by omega), e0 q h7]; exact h.l p q h5 h6 (by omega)
 ·rw [e1 p h5 (by omega), e1 q (by omega) h7]; exact h.r _ _ (by omega) (by omega) (by omega)
 ·rw [e0 p h6, e1 q h7 h8]; exact h.x _ _ h5 (by omega) (by omega) (by omega)
 ·rw [e2 p h5 (by omega), e2 q (by omega) h7]; exact h.l _ _ (by omega) (by omega) (by omega)
 ·rw [e3 p h5, e3 q (by omega)]; exact h.r _ _ (by omega) h6 h7
 ·rw [e2 p h5 h6, e3 q h7]; exact h.x _ _ (by omega) (by omega) (by omega) h8
 ·by_cases c1 : p < s
  ·rw [e0 p c1]
   by_cases c2 : q < e
   ·rw [e2 q h7 c2]; exact h.l _ _ h5 (by omega) (by omega)
   ·rw [e3 q (by omega)]
    have hx : ahd κ (u (s - 1)) (u e) := h.no (by omega) (by omega) h3 (by omega) (hT (by omega) (by omega))
    exact h.l.le h5 (by omega) (by omega) (h.r.ge h3 (by omega) h8 hx)
  ·rw [e1 p (by omega) h6]
   by_cases c2 : q < e
   ·rw [e2 q h7 c2]
    have hx : ahd κ (u (e - 1)) (u s) := .inl (hF (by omega) (by omega))
    exact h.r.le (by omega) (by omega) (by omega) (h.l.ge h1 (by omega) (by omega) hx)
   ·rw [e3 q (by omega)]; exact h.r _ _ (by omega) (by omega) h8
theorem mrg_done {κ : Nat → Int} {a mid b : Nat} {u1 u2 u3 : Nat → Nat} (hab : a ≤ mid) (hb : mid ≤ b) (hx : ∀ p q, a ≤ p → p < mid → mid ≤ q → q < b → ahd κ (u1 p) (u1 q)) (p2 : Pm a mid u1 u2) (s2 : Srt κ a mid u2) (p3 : Pm mid b u2 u3) (s3 : Srt κ mid b u3) : Srt κ a b u3 := by
 intro p q h1 h2 h3
 by_cases c1 : q < mid
 ·rw [p3.out (.inl (by omega)), p3.out (.inl c1)]; exact s2 p q h1 h2 c1
 ·by_cases c2 : p < mid
  ·rw [p3.out (i := p) (.inl c2)]
   obtain ⟨j, h4, h5, e⟩ := p2.mem h1 c2
   obtain ⟨k, h6, h7, e'⟩ := p3.mem (i := q) (by omega) h3
   rw [e, e', p2.out (.inr h6)]
   exact hx j k h4 h5 h6 h7
  ·exact s3 p q (by omega) h2 h3
/-! One order alone. -/
theorem surj : ∀ (n : Nat) (f : Nat → Nat), (∀ i, i < n → f i < n) → (∀ i j, i < n → j < n → f i = f j → i = j) → ∀ y, y < n → ∃ i, i < n ∧ f i = y
 | 0, _, _, _, y, hy => by omega
 | n + 1, f, h1, h2, y, hy => by
  have hz := h1 n (by omega)
  have hne : ∀ i, i < n → f i ≠ f n := fun i hi e => by have := h2 i n (by omega) (by omega) e; omega
  have ih := surj n (fun i => if f i = n then f n else f i) (fun i hi => by
   have := h1 i (by omega)
   have := hne i hi
   split <;> omega) (fun i j hi hj e => by
   have a1 := hne i hi
   have a2 := hne j hj
   split at e <;> split at e
   ·exact h2 i j (by omega) (by omega) (by omega)
   ·omega
   ·omega
   ·exact h2 i j (by omega) (by omega) e)
  by_cases c1 : y = f n
  ·exact ⟨n, by omega, c1.symm⟩
  ·by_cases c2 : y = n
   ·obtain ⟨i, hi, e⟩ := ih (f n) (by omega)
    split at e
    ·exact ⟨i, by omega, by omega⟩
    ·exact absurd e (hne i hi)
   ·obtain ⟨i, hi, e⟩ := ih y (by omega)
    split at e
    ·exact absurd e.symm c1
    ·exact ⟨i, by omega, e⟩
structure Ord (κ : Nat → Int) (n : Nat) (u : Nat → Nat) : Prop where
 lt : ∀ i, i < n → u i < n
 inj : ∀ i j, i < n → j < n → u i = u j → i = j
 st : Srt κ 0 n u
theorem Ord.uniq {κ : Nat → Int} {n : Nat} {u v : Nat → Nat} (h : Ord κ n u) (k : Ord κ n v) : ∀ i, i < n → u i = v i := by
 have key : ∀ (u v : Nat → Nat), Ord κ n u → Ord κ n v → ∀ i, i < n → (∀ j, j < i → u j = v j) → ¬ ahd κ (u i) (v i) := by
  intro u v h k i hi ih ha
  obtain ⟨j, hj, e⟩ := surj n v k.lt k.inj (u i) (h.lt i hi)
  rcases Nat.lt_trichotomy j i with c | c | c
  ·rw [← ih j c] at e
   have := h.inj j i hj hi e
   omega
  ·subst c
   rw [e] at ha
   exact ha.irr
  ·have := k.st i j (Nat.zero_le _) c hj
   rw [e] at this
   exact (this.tr ha).irr
 intro i
 induction i using Nat.strongRecOn with
 | ind i ih =>
  intro hi
  have a1 := key u v h k i hi (fun j hj => ih j hj (by omega))
  have a2 := key v u k h i hi (fun j hj => (ih j hj (by omega)).symm)
  unfold ahd at a1 a2
  omega
theorem Ord.of {κ : Nat → Int} {n : Nat} {u : Nat → Nat} (h : Pm 0 n id u) (s : Srt κ 0 n u) : Ord κ n u := by
 obtain ⟨f, s1, s2, s3, s4⟩ := h
 refine ⟨fun i hi => ?_, fun i j _ _ e => ?_, s⟩
 ·rw [s4]; exact (s2 i (Nat.zero_le _) hi).2
 ·rw [s4, s4] at e; exact s3 _ _ e
/-- A number put in at a place. -/
def insA (k x : Nat) (u : Nat → Nat) (p : Nat) : Nat := if p < k then u p else if p = k then x else u (p - 1)
theorem Ord.ins {κ : Nat → Int} {m k : Nat} {u : Nat → Nat} (h : Ord κ m u) (hk : k ≤ m) (h1 : ∀ p, k ≤ p → p < m → κ m < κ (u p)) (h2 : 0 < k → ¬ κ m < κ (u (k - 1))) : Ord κ (m + 1) (insA k m u) := by
 have e1 : ∀ p, p < k → insA k m u p = u p := fun p hp => if_pos hp
 have e2 : insA k m u k = m := by unfold insA; rw [if_neg (by omega), if_pos rfl]
 have e3 : ∀ p, k < p → insA k m u p = u (p - 1) := fun p hp => by unfold insA; rw [if_neg (by omega), if_neg (by omega)]
 refine ⟨fun i hi => ?_, fun i j hi hj e => ?_, fun i j _ hij hj => ?_⟩
 ·rcases Nat.lt_trichotomy i k with c | c | c
  ·rw [e1 i c]; have := h.lt i (by omega); omega
  ·rw [c, e2]; omega
  ·rw [e3 i c]; have := h.lt (i - 1) (by omega); omega
 ·rcases Nat.lt_trichotomy i k with c | c | c <;> rcases Nat.lt_trichotomy j k with d | d | d
  ·rw [e1 i c, e1 j d] at e; exact h.inj i j (by omega) (by omega) e
  ·rw [e1 i c, d, e2] at e; have := h.lt i (by omega); omega
  ·rw [e1 i c, e3 j d] at e; have := h.inj i (j - 1) (by omega) (by omega) e; omega
  ·rw [c, e2, e1 j d] at e; have := h.lt j (by omega); omega
  ·omega
  ·rw [c, e2, e3 j d] at e; have := h.lt (j - 1) (by omega); omega
  ·rw [e3 i c, e1 j d] at e; have := h.inj (i - 1) j (by omega) (by omega) e; omega
  ·rw [e3 i c, d, e2] at e; have := h.lt (i - 1) (by omega); omega
  ·rw [e3 i c, e3 j d] at e; have := h.inj (i - 1) (j - 1) (by omega) (by omega) e; omega
 ·rcases Nat.lt_trichotomy j k with d | d | d
  ·rw [e1 i (by omega), e1 j d]; exact h.st i j (Nat.zero_le _) hij (by omega)
  ·rw [d, e2, e1 i (by omega)]
   have hx : ahd κ (u (k - 1)) m := by
    have a1 := h2 (by omega)
    have a2 := h.lt (k - 1) (by omega)
    unfold ahd
    omega
   exact h.st.le (Nat.zero_le _) (by omega) (by omega) hx
  ·rw [e3 j d]
   rcases Nat.lt_trichotomy i k with c | c | c
   ·rw [e1 i c]; exact h.st i (j - 1) (Nat.zero_le _) (by omega) (by omega)
   ·rw [c, e2]; exact .inl (h1 (j - 1) (by omega) (by omega))
   ·rw [e3 i c]; exact h.st (i - 1) (j - 1) (Nat.zero_le _) (by omega) (by omega)
end Go.Proofs.Ytonppckllfamiaa
