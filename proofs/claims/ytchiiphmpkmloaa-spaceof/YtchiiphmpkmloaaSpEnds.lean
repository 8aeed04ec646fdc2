/- The ends that let keys be known, one by one; what Of gives. -/
import Derived.Test.YtchiiphmpkmloaaSpOf
namespace Go.Proofs.Ytchiiphmpkmloaa
open Go.RowKit
set_option linter.unusedVariables false
set_option linter.unusedSectionVars false
set_option linter.unusedSimpArgs false
def endsF (zs : List Int) : Nat → List Int
 | 0 => []
 | j + 1 => endsF zs j ++ List.replicate (zs.getD j 0).toNat ((j + 1 : Nat) : Int)
theorem usd_app (a b : List Int) (e : Int) : usd (a ++ b) e = usd a e + usd b e := by
 unfold usd
 rw [List.countP_append]
 omega
theorem usd_rep (k : Nat) (x e : Int) : usd (List.replicate k x) e = if x = e then (k : Int) else 0 := by
 unfold usd
 rw [List.countP_replicate]
 by_cases h : x = e
 ·subst h; simp
 ·have h2 : ¬ e = x := fun h9 => h h9.symm
  simp [h, h2]
theorem ends_len {n m : Int} {zs : List Int} : ∀ {j : Nat}, useB n m zs j = true → ((endsF zs j).length : Int) = sumL zs j
 | 0, _ => rfl
 | j + 1, h => by
  have h9 := useB_at h j (by omega)
  rw [useB, Bool.and_eq_true] at h
  have ih := ends_len h.1
  rw [endsF, List.length_append, List.length_replicate, sumL]
  omega
theorem ends_usd {n m : Int} {zs : List Int} : ∀ {j : Nat}, useB n m zs j = true → ∀ e, UFj zs j e = usd (endsF zs j) e
 | 0, _, e => by rw [UFj_zero]; rfl
 | j + 1, h, e => by
  have h9 := useB_at h j (by omega)
  rw [useB, Bool.and_eq_true] at h
  have ih := ends_usd h.1 e
  rw [endsF, usd_app, usd_rep, ← ih, ← UFj_step]
  dsimp only
  by_cases h2 : e = ((j + 1 : Nat) : Int)
  ·rw [if_pos h2, if_pos h2.symm]
   have : UFj zs j e = 0 := by
    unfold UFj
    rw [if_neg (by omega)]
   rw [this]
   omega
  ·rw [if_neg h2, if_neg (fun h3 => h2 h3.symm)]
   omega
theorem ends_full {A : List Int} {x : Int} {k u K : Nat} (hk : k ≤ u) (h : K < ((A ++ List.replicate k x).take (K + 1)).length) : (A ++ List.replicate k x).take (K + 1) = (A ++ List.replicate u x).take (K + 1) := by
 rw [List.length_take] at h
 have e : A ++ List.replicate u x = (A ++ List.replicate k x) ++ List.replicate (u - k) x := by
  rw [List.append_assoc, List.replicate_append_replicate, Nat.add_sub_cancel' hk]
 rw [e]
 exact (List.take_append_of_le_length (by omega)).symm
theorem ends_more {A : List Int} {x : Int} {k K : Nat} (h : ((A ++ List.replicate k x).take (K + 1)).length ≤ K) : (A ++ List.replicate k x).take (K + 1) ++ [x] = (A ++ List.replicate (k + 1) x).take (K + 1) := by
 rw [List.length_take] at h
 rw [List.take_of_length_le (by omega), List.take_of_length_le (by
  rw [List.length_append, List.length_replicate]
  rw [List.length_append, List.length_replicate] at h
  omega), List.append_assoc]
 congr 1
 exact (List.replicate_succ' ..).symm
/-- Whether the law's own reckoning says yes. -/
theorem mayOf_is {n m : Int} {zs : List Int} {l : List Ky} {E : List Int} (hE : (decide (1 ≤ n ∧ n ≤ 7 ∧ 1 ≤ m ∧ m ≤ 4) && decide ((zs.length : Int) = n + m) && useB n m zs zs.length) = true → E = (endsF zs zs.length).take (l.length + 1)) :
  (decide (1 ≤ n ∧ n ≤ 7 ∧ 1 ≤ m ∧ m ≤ 4) && decide ((zs.length : Int) = n + m) && useB n m zs zs.length && keyB l l.length && decide (E.length = l.length)) = mayOf n m zs l := by
 unfold mayOf muB
 cases h1 : decide (1 ≤ n ∧ n ≤ 7 ∧ 1 ≤ m ∧ m ≤ 4) with
 | false => rfl
 | true =>
  cases h2 : decide ((zs.length : Int) = n + m) with
  | false => rfl
  | true =>
   cases h3 : useB n m zs zs.length with
   | false => rfl
   | true =>
    rw [h1, h2, h3] at hE
    have hl := ends_len h3
    have e : decide (E.length = l.length) = decide (sumL zs zs.length = (l.length : Int)) := by
     apply decide_eq_decide.2
     rw [hE rfl, List.length_take]
     omega
    rw [e]
    cases keyB l l.length <;> cases decide (sumL zs zs.length = (l.length : Int)) <;> rfl
theorem mayOf_ends {n m : Int} {zs : List Int} {l : List Ky} (h : mayOf n m zs l = true) : (1 ≤ n ∧ n ≤ 7 ∧ 1 ≤ m ∧ m ≤ 4) ∧ (zs.length : Int) = n + m ∧ useB n m zs zs.length = true ∧ keyB l l.length = true ∧ (endsF zs zs.length).length = l.length := by
 unfold mayOf muB at h
 simp only [Bool.and_eq_true, decide_eq_true_eq] at h
 obtain ⟨⟨h1, ⟨h2, h3⟩, h4⟩, h5⟩ := h
 have hl := ends_len h3
 exact ⟨h1, h2, h3, h5, by omega⟩
theorem mayOf_rel {n m : Int} {zs : List Int} {l : List Ky} (h : mayOf n m zs l = true) : SRel l (UFj zs zs.length) l (endsF zs zs.length) := by
 obtain ⟨_, _, h3, h4, h5⟩ := mayOf_ends h
 exact ⟨keyB_srt h4, .refl _, ends_usd h3, h5⟩
/-- What Of gives. -/
def OfR (w : World) (base : Nat) (n m : Int) (zs : List Int) (l : List Ky) (pv : Option Addr) (er : Int) : Prop :=
 (mayOf n m zs l = false ∧ pv = none ∧ er = 1) ∨ (mayOf n m zs l = true ∧ er = 0 ∧ ∃ g B, pv = some ⟨g, 0, none⟩ ∧ SpAt w base g n m l (UFj zs zs.length) B)
theorem of_any (n m : Int) (ak : Option Addr) (ck : Nat) (l : List Ky) (gk ok : Nat) (kcs : Array Value) (tk : TypeId) (az : Option Addr) (cz : Nat) (zs : List Int) (gz oz : Nat) (zcs : Array Value) (tz : TypeId) (w : World) (hk : ElsAt 1 w ak l.length (stC l) gk ok kcs tk) (hz : ElsAt 1 w az zs.length (inC zs) gz oz zcs tz) (hl : l.length ≤ 1000) (hzl : zs.length ≤ 1000) (h40 : ∀ j, j < l.length → (l.getD j []).length ≤ 16777216) :
  Calls Try.prog 21 #[.int .i64 n, .int .i64 m, .slice ak l.length ck, .slice az zs.length cz] w fun e w' => ∃ pv er, e = .returned (.tuple #[.pointer pv, .int .i64 er]) ∧ OfR w' w.heap.size n m zs l pv er ∧ Below w.heap.size w w' := by
 cases h : mayOf n m zs l with
 | false =>
  refine (of_no n m ak ck l gk ok kcs tk az cz zs gz oz zcs tz w hk hz hl hzl h40 h).mono ?_
  rintro e w' ⟨rfl, hb⟩
  exact ⟨none, 1, rfl, .inl ⟨h, rfl, rfl⟩, hb⟩
 | true =>
  refine (of_yes n m ak ck l gk ok kcs tk az cz zs gz oz zcs tz w hk hz hl hzl h40 h).mono ?_
  rintro e w' ⟨g, B, rfl, hA, hb⟩
  exact ⟨some ⟨g, 0, none⟩, 0, rfl, .inr ⟨h, rfl, g, B, rfl, hA⟩, hb⟩
theorem built_rf2 (n m : Int) (a : Option Addr) (k c : Nat) : Try.prog.built 33 [(0, .int .i64 n), (1, .int .i64 m), (2, .slice a k c)] = some (sxC n m (.slice a k c) (.slice none 0 0)) := by kernel_rfl
theorem size_ints : (Try.prog.info? 31).map (·.size) = some 1 := by kernel_rfl
theorem useB_all {n m : Int} {zs : List Int} : ∀ {k : Nat}, (∀ t, t < k → 0 ≤ zs.getD t 0 ∧ zs.getD t 0 ≤ quo n m (t + 1 : Nat)) → useB n m zs k = true
 | 0, _ => rfl
 | k + 1, h => by
  rw [useB, useB_all (fun t ht => h t (by omega)), Bool.true_and]
  exact decide_eq_true (h k (by omega))
theorem mem_grow {B B2 : List Nat} {a b c n : Nat} (h : ∀ x ∈ B2, x ∈ B ∨ n ≤ x) (hx : c ∈ a :: b :: B2) : c ∈ a :: b :: B ∨ n ≤ c := by
 rcases List.mem_cons.1 hx with rfl | hx
 ·exact .inl (by simp)
 ·rcases List.mem_cons.1 hx with rfl | hx
  ·exact .inl (by simp)
  ·exact (h _ hx).imp (fun h => List.mem_cons_of_mem _ (List.mem_cons_of_mem _ h)) id
end Go.Proofs.Ytchiiphmpkmloaa
