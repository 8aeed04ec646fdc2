/- What poly's Div answers, as lists: a is q times b, and r. -/
import Derived.Test.YthnpeebnmommbaaPyDiv
namespace Go.Proofs.Ythnpeebnmommbaa
open Go.RowKit
set_option linter.unusedVariables false
set_option linter.unusedSectionVars false
theorem yTn_below (F : Nat → Nat) (n j : Nat) (h : ∀ i, j ≤ i → i < n → F i = 0) : yTn F n ≤ j := by
 have h1 := yTn_le F n
 rcases yTn_last F n with h2 | h2
 ·omega
 ·by_cases h3 : yTn F n ≤ j
  ·exact h3
  ·exact absurd (h (yTn F n - 1) (by omega) (by omega)) h2
theorem yDv_high (q m d n : Nat) (B : Nat → Nat) (iv : Nat) (R0 : Nat → Nat) (hn : d + m ≤ n + 1) (hm : 0 < m) (i : Nat) (hi : n ≤ i) : ∀ k, k ≤ d → (yDv q m d B iv R0 k).1 i = R0 i
 | 0, _ => rfl
 | k + 1, hk => by
  show (if d - 1 - k ≤ i ∧ i < d - 1 - k + m then _ else _) = _
  rw [if_neg (by omega)]
  exact yDv_high q m d n B iv R0 hn hm i hi k (by omega)
section
variable {Q : Nat} [NeZero Q]
theorem fl_trimmed (n : Nat) (F : Nat → Nat) (h : ∀ i, i < n → F i < Q) (hn : n = 0 ∨ F (n - 1) ≠ 0) : ptrim (fl n F : List (Fin Q)) = fl n F := by
 have h1 := tn_len (q := Q) n F h
 rw [yTn_full F n hn] at h1
 have h2 := ptrim_take (fl n F : List (Fin Q))
 rw [h1] at h2
 rw [h2, List.take_of_length_le (by rw [fl_length]; exact Nat.le_refl _)]
theorem plAt_fl {w : World} {g n : Nat} {F : Nat → Nat} (r : Row w g (nsC n F) 32) (hQ : Q < 2 ^ 256) (hF : ∀ i, i < n → F i < Q) : PlAt w (.slice (some ⟨g, 0, none⟩) n n) (fl n F : List (Fin Q)) := by
 have h := nats_row r fun i hi => Nat.lt_trans (hF i hi) hQ
 refine ⟨_, n, g, 0, nsC n F, 32, by rw [fl_length], ?_⟩
 rw [fl_length]
 exact h.congr fun i hi => by rw [fl_co _ _ _ hi, val_fi (hF i hi)]
theorem divQ {g gr gf P G : Nat} {w : World} (va vb : Value) (La Lb : List (Fin Q)) (q : FdQ Q) (h : GrpAt w g gr gf P Q G) (ha : PlA w va La) (hb : PlA w vb Lb) (hne : ptrim Lb ≠ []) :
  Calls Try.prog 17 #[.pointer (some ⟨g, 0, none⟩), va, vb] w fun e w' => ∃ vq vr, ∃ Lq Lr : List (Fin Q), e = .returned (.tuple #[vq, vr, .int .i64 0]) ∧ PlAt w' vq Lq ∧ PlAt w' vr Lr ∧ ptrim Lq = Lq ∧ ptrim Lr = Lr ∧ Lr.length < (ptrim Lb).length ∧ Lq.length ≤ 1001 ∧ Lr.length ≤ 1000 ∧ (∀ i, pco (pmul Lq (ptrim Lb)) i + pco Lr i = pco La i) ∧ Below w.heap.size w w' := by
 obtain ⟨ab, na, ca, F, gb, ob, bcs, tb, rfl, hn, hna, rfl⟩ := ha
 obtain ⟨ae, nb, cb, E, ge, oe, ecs, te, rfl, hm, hnb, rfl⟩ := hb
 obtain ⟨B, hB⟩ : ∃ B, B = yTm (fO Q) E := ⟨_, rfl⟩
 obtain ⟨R0, hR⟩ : ∃ R0, R0 = yTm (fO Q) F := ⟨_, rfl⟩
 have hBl : ∀ i, B i < Q := fun i => by rw [hB]; exact yTm_lt E i
 have hRl : ∀ i, R0 i < Q := fun i => by rw [hR]; exact yTm_lt F i
 have hfb : (fl nb B : List (Fin Q)) = fl nb E := by rw [hB, yTm_of]
 have hfa : (fl na R0 : List (Fin Q)) = fl na F := by rw [hR, yTm_of]
 obtain ⟨m, hmm⟩ : ∃ m, yTn B nb = m := ⟨_, rfl⟩
 obtain ⟨n, hnn⟩ : ∃ n, yTn R0 na = n := ⟨_, rfl⟩
 have tb := tn_of nb B (fl nb E : List (Fin Q)) (fun i _ => hBl i) (fun i => by rw [hfb])
 rw [hmm] at tb
 have hbl : (fl m B : List (Fin Q)) = ptrim (fl nb E) := fl_pco _ _ _ tb.1 tb.2
 have hm0 : 0 < m := by
  rw [tb.1]
  exact List.length_pos_iff.2 hne
 have hmb : m ≤ nb := hmm ▸ yTn_le B nb
 have hnb' : n ≤ na := hnn ▸ yTn_le R0 na
 have hBt : B (m - 1) ≠ 0 := by
  have := yTn_last B nb
  rw [hmm] at this
  exact this.resolve_left (by omega)
 have hBm : B (m - 1) % Q ≠ 0 := by rw [Nat.mod_eq_of_lt (hBl _)]; exact hBt
 obtain ⟨IV, hIV⟩ : ∃ IV, IV = invZ (B (m - 1)) Q := ⟨_, rfl⟩
 have h2 := q.pr.1
 have hiv1 : B (m - 1) * IV % Q = 1 := by rw [hIV]; exact inv_1 q.pr hBm
 have hiv : B (m - 1) * IV % Q = 1 % Q := by rw [hiv1, Nat.mod_eq_of_lt (by omega)]
 obtain ⟨d, hd⟩ : ∃ d, n + 1 - m = d := ⟨_, rfl⟩
 refine (div_raw g gr gf P Q G na ca nb cb ab ae F E gb ob ge oe bcs ecs _ te w q hn hm hna hnb h m n d B R0 IV hB hR hmm hnn hd hIV hm0).mono ?_
 rintro e w' ⟨gO, gR, rfl, rO, rR, hbw⟩
 have hlt := yDv_lt (q := Q) m d na B IV R0 (fun i _ => hRl i) d
 have hlt2 : ∀ i, (yDv Q m d B IV R0 d).1 i < Q := fun i => (yDv_lt (q := Q) m d (i + 1) B IV R0 (fun i _ => hRl i) d).1 i (by omega)
 have hsum := fun i => yDv_sum (q := Q) m d B IV R0 i d (Nat.le_refl d)
 have hdone := yDv_done (q := Q) m d n B IV R0 hm0 (by omega) (fun i _ => hRl i) hiv d (Nat.le_refl d)
 have hhigh := fun (hd0 : d ≠ 0) i (hi : n ≤ i) => yDv_high Q m d n B IV R0 (by omega) hm0 i hi d (Nat.le_refl d)
 have htop : d = 0 ∨ (yDv Q m d B IV R0 d).2 (d - 1) ≠ 0 := by
  by_cases h0 : d = 0
  ·exact .inl h0
  ·refine .inr ?_
   rw [yDv_top (q := Q) m d B IV R0 (by omega) hm0 d (by omega) (Nat.le_refl d), show d + m - 2 = n - 1 by omega]
   intro e
   have hR1 : R0 (n - 1) ≠ 0 := by
    have := yTn_last R0 na
    rw [hnn] at this
    exact this.resolve_left (by omega)
   rcases isP_mul q.pr (Nat.dvd_of_mod_eq_zero e) with h3 | h3
   ·exact hR1 (Nat.eq_zero_of_dvd_of_lt h3 (hRl _))
   ·rw [Nat.mul_mod, Nat.mod_eq_zero_of_dvd h3, Nat.mul_zero, Nat.zero_mod] at hiv1
    omega
 obtain ⟨O, hO⟩ : ∃ O, (yDv Q m d B IV R0 d).2 = O := ⟨_, rfl⟩
 obtain ⟨R, hR'⟩ : ∃ R, (yDv Q m d B IV R0 d).1 = R := ⟨_, rfl⟩
 rw [hO, hR'] at hsum hlt
 rw [hO] at rO htop
 rw [hR'] at rR hdone hhigh hlt2
 rw [hR']
 have tr := tn_of n R (fl n R : List (Fin Q)) (fun i _ => hlt2 i) (fun i => rfl)
 have hyn := yTn_le R n
 have hpr : PlAt w' (.slice (some ⟨gR, 0, none⟩) (yTn R n) na) (ptrim (fl n R) : List (Fin Q)) := by
  have h1 := (nats_row rR fun i hi => Nat.lt_trans (hlt2 i) q.m).take (Nat.le_trans hyn hnb')
  have h3 := tr.2
  rw [tr.1] at h1 h3
  rw [tr.1]
  exact ⟨_, _, _, _, _, _, rfl, h1.congr h3⟩
 have hrl : (ptrim (fl n R : List (Fin Q))).length < m := by
  rw [← tr.1]
  by_cases h0 : d = 0
  ·omega
  ·have := yTn_below R n (m - 1) fun i h1 h2 => hdone i (by omega) h2 h0
   omega
 refine ⟨_, _, fl d O, ptrim (fl n R), rfl, plAt_fl rO q.m fun i _ => hlt.2 i, hpr, fl_trimmed d O (fun i _ => hlt.2 i) htop, ptrim_ptrim _, by rw [← tb.1]; exact hrl, by rw [fl_length]; omega, by rw [← tr.1]; omega, fun i => ?_, hbw⟩
 rw [← hbl, pco_pmul, pco_pcv, fl_length, pco_ptrim, ← hfa]
 have hc : ∀ j, j < d → (fun j => if j ≤ i then pco (fl d O) j * pco (fl m B) (i - j) else (0 : Fin Q)) j = (fun j => if j ≤ i then fi (O j) * pco (fl m B) (i - j) else (0 : Fin Q)) j := fun j hj => by
  show (if j ≤ i then _ else _) = (if j ≤ i then _ else _)
  rw [fl_co _ _ _ hj]
 rw [psm_congr _ _ _ hc]
 have hs := hsum i
 generalize psm (q := Q) _ d = X at *
 by_cases h1 : i < n
 ·rw [fl_co _ _ _ h1, fl_co _ _ _ (by omega), hs]
 ·have h4 : (pco (fl na R0) i : Fin Q) = 0 := by
   by_cases h5 : i < na
   ·rw [fl_co _ _ _ h5, yTn_out R0 na i (by omega) h5]; exact fi_zero
   ·exact fl_out _ _ _ (by omega)
  rw [fl_out _ _ _ (by omega), h4]
  by_cases h0 : d = 0
  ·have hR0 : R i = R0 i := by rw [← hR', h0]; rfl
   rw [hR0] at hs
   grind
  ·rw [hhigh h0 i (by omega)] at hs
   grind
theorem div_noneQ {g gr gf P G : Nat} {w : World} (va vb : Value) (La Lb : List (Fin Q)) (q : FdQ Q) (h : GrpAt w g gr gf P Q G) (ha : PlA w va La) (hb : PlA w vb Lb) (hne : ptrim Lb = []) :
  Calls Try.prog 17 #[.pointer (some ⟨g, 0, none⟩), va, vb] w fun e w' => e = .returned (.tuple #[.slice none 0 0, .slice none 0 0, .int .i64 1]) ∧ Below w.heap.size w w' := by
 obtain ⟨ab, na, ca, F, gb, ob, bcs, tb, rfl, hn, hna, rfl⟩ := ha
 obtain ⟨ae, nb, cb, E, ge, oe, ecs, te, rfl, hm, hnb, rfl⟩ := hb
 have tb := tn_of nb (yTm (fO Q) E) (fl nb E : List (Fin Q)) (fun i _ => yTm_lt E i) (fun i => by rw [yTm_of])
 exact div_none _ ab ae na ca nb cb E (fO Q) ge oe ecs te w hm hnb (h.fa q) (by rw [tb.1, hne]; rfl)
end
end Go.Proofs.Ythnpeebnmommbaa
