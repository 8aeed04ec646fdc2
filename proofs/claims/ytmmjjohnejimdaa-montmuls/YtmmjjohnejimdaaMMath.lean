/- wide.InvMod where m is 0 or 1; what it hands back otherwise. -/
import Derived.Test.YtmmjjohnejimdaaWInvMath
import Derived.Test.YtmmjjohnejimdaaWMath
namespace Go.Proofs.Ytmmjjohnejimdaa
open Go.RowKit

/-- What InvMod hands back, and its error. -/
def invZ (A M : Nat) : Nat := if M < 2 then 0 else if Nat.gcd A M = 1 then invV A M else 0
def errV (A M : Nat) : Int := if M < 2 then 1 else if Nat.gcd A M = 1 then 0 else 3
theorem natC_one' : natC ((1 : Int).toNat) = natC 1 := rfl
theorem sub_far (M f : Nat) (h : f ≤ M) (hM : M < 2 ^ 256) : natC (less M f) = natC (M - f) := by
  refine (natC_eq _ _).2 ?_
  unfold less
  rw [show M + (2 ^ 256 - f) = M - f + 2 ^ 256 * 1 by omega, Nat.add_mul_mod_self_left]

set_option maxRecDepth 100000 in
set_option maxHeartbeats 2000000 in
theorem winv_arg (A M : Nat) (w : World) (hM : M < 2) :
    Calls Try.prog 25 #[.agg (natC A), .agg (natC M)] w fun e w' => e = .returned (.tuple #[.agg (natC 0), .int .i64 1]) ∧ Below w.heap.size w w' := by
  have rM : Row (((w.alloc (.cells (natC A) 24)).alloc (.cells (natC M) 24)).alloc (.cells (natC 0) 24)) (w.heap.size + 1) (natC M) 24 := (by repeat (first | (refine Row.here ?_; first | (with_reducible rfl) | (simp; done)) | refine Row.alloc ?_ _))
  have rZ : Row (((w.alloc (.cells (natC A) 24)).alloc (.cells (natC M) 24)).alloc (.cells (natC 0) 24)) (w.heap.size + 1 + 1) (natC 0) 24 := (by repeat (first | (refine Row.here ?_; first | (with_reducible rfl) | (simp; done)) | refine Row.alloc ?_ _))
  have bW := below_alloc3 (w := w) (.cells (natC A) 24) (.cells (natC M) 24) (.cells (natC 0) 24)
  have hof := fun w' => nof_any 1 w' (by omega)
  rw [natC_one'] at hof
  have hm : M = 0 ∨ M = 1 := by omega
  clear hM
  rcases hm with rfl | rfl
  · go_enter Try.func25, Try.ntmps25
    go_wp2_with (first
      | refine wpList_box_row rfl 24 _ rfl _ rfl ?_
      | refine wpList_alloc_row rfl 24 rfl _ zero_nat ?_)
    refine (hof _).mono ?_
    rintro e w1 ⟨rfl, hb1⟩
    have qM := (rM.belowAll hb1).alloc (.cells (natC 1) 24)
    have qZ := (rZ.belowAll hb1).alloc (.cells (natC 1) 24)
    have b1 := below_on bW (Nat.le_refl _) hb1
    have b2 := b1.alloc b1.size (.cells (natC 1) 24)
    clear rM rZ bW hb1 b1 hof
    go_wp2_with (first
      | refine wpList_alloc_row rfl 24 rfl _ zero_nat ?_
      | refine wpList_build_zero rfl 24 rfl _ built_nat ?_
      | refine wpList_store_new rfl 24 _ _ rfl _ rfl rfl _ _ (by exact size_nat) (by simp only [natC_size]) (natC_one _) ?_
      | refine wpList_loadR rfl 24 _ rfl _ rfl qM 4 _ Try.underlying24 (by exact size_nat) ?_
      | refine wpList_value rfl (.bool true) ((exec_eql_nat _ _ _ rfl 0 0 rfl rfl _).trans (by simp)) ?_
      | refine wpList_storeR rfl 24 _ _ rfl _ _ rfl rfl qZ (by exact size_nat) (by simp only [natC_size]) (natC_one _) ?_)
    exact ret_row2 rfl _ rfl (qZ.setRow (natC 0)) 4 _ Try.underlying24 (by exact size_nat) rfl _ rfl ⟨rfl, below_setRow b2 (by omega) _⟩
  · go_enter Try.func25, Try.ntmps25
    go_wp2_with (first
      | refine wpList_box_row rfl 24 _ rfl _ rfl ?_
      | refine wpList_alloc_row rfl 24 rfl _ zero_nat ?_)
    refine (hof _).mono ?_
    rintro e w1 ⟨rfl, hb1⟩
    have qM := (rM.belowAll hb1).alloc (.cells (natC 1) 24)
    have qZ := (rZ.belowAll hb1).alloc (.cells (natC 1) 24)
    have q1 := Row.new w1 (natC 1) 24
    have b1 := below_on bW (Nat.le_refl _) hb1
    have b2 := b1.alloc b1.size (.cells (natC 1) 24)
    clear rM rZ bW hb1 b1 hof
    go_wp2_with (first
      | refine wpList_alloc_row rfl 24 rfl _ zero_nat ?_
      | refine wpList_build_zero rfl 24 rfl _ built_nat ?_
      | refine wpList_store_new rfl 24 _ _ rfl _ rfl rfl _ _ (by exact size_nat) (by simp only [natC_size]) (natC_one _) ?_
      | refine wpList_loadR rfl 24 _ rfl _ rfl qM 4 _ Try.underlying24 (by exact size_nat) ?_
      | refine wpList_value rfl (.bool false) ((exec_eql_nat _ _ _ rfl 1 0 rfl rfl _).trans (by simp)) ?_
      | refine wpList_loadRg (by rfl) 24 _ rfl _ rfl qM 4 _ Try.underlying24 (by exact size_nat) ?_
      | refine wpList_loadRg (by rfl) 24 _ rfl _ rfl q1 4 _ Try.underlying24 (by exact size_nat) ?_
      | refine wpList_valueg (by rfl) (.bool true) ((exec_eql_nat _ _ _ rfl 1 1 rfl rfl _).trans (by simp)) ?_
      | refine wpList_storeR rfl 24 _ _ rfl _ _ rfl rfl qZ (by exact size_nat) (by simp only [natC_size]) (natC_one _) ?_)
    exact ret_row2 rfl _ rfl (qZ.setRow (natC 0)) 4 _ Try.underlying24 (by exact size_nat) rfl _ rfl ⟨rfl, below_setRow b2 (by omega) _⟩
end Go.Proofs.Ytmmjjohnejimdaa
/- Plain mathematics: an inverse is there where nothing goes into both. -/
namespace Go.Proofs.Ytmmjjohnejimdaa

theorem inv_there (A M : Nat) (h2 : 2 ≤ M) (hg : Nat.gcd A M = 1) : ∃ x, x < M ∧ x * A % M = 1 := by
  suffices h : ∀ (n L S b f : Nat) (neg : Bool), S ≤ n → Iv A M L S b f neg → ∃ x, x < M ∧ x * A % M = 1 from h (A % M) M (A % M) 0 1 false (Nat.le_refl _) (iv_first A M h2)
  intro n
  induction n with
  | zero =>
    intro L S b f neg hS hI
    exfalso
    have h0 : S = 0 := by omega
    have := hI.gcd
    rw [h0, Nat.gcd_zero_right, hg] at this
    exact hI.ne this
  | succ n ih =>
    intro L S b f neg hS hI
    by_cases h0 : S = 0
    · exact ih L S b f neg (by omega) hI
    · by_cases h1 : S = 1
      · subst h1
        obtain ⟨hf, _⟩ := iv_last A M L b f neg h2 hI
        obtain ⟨k, hk⟩ := hI.low
        have hp := hI.pos
        cases neg
        · refine ⟨f, hf, ?_⟩
          have e : ((f * A : Nat) : Int) = 1 + (M : Int) * k := by
            push_cast
            have : (f : Int) * A - 1 * ((1 : Nat) : Int) = (M : Int) * k := hk
            omega
          have : ((f * A % M : Nat) : Int) = 1 := by
            rw [Int.natCast_emod, e, Int.add_mul_emod_self_left]
            exact Int.emod_eq_of_lt (by omega) (by omega)
          exact_mod_cast this
        · refine ⟨M - f, by omega, ?_⟩
          have e : (((M - f) * A : Nat) : Int) = 1 + (M : Int) * (A - k) := by
            push_cast [Nat.le_of_lt hf]
            have : (f : Int) * A - -1 * ((1 : Nat) : Int) = (M : Int) * k := hk
            rw [Int.sub_mul, Int.mul_sub]
            omega
          have : (((M - f) * A % M : Nat) : Int) = 1 := by
            rw [Int.natCast_emod, e, Int.add_mul_emod_self_left]
            exact Int.emod_eq_of_lt (by omega) (by omega)
          exact_mod_cast this
      · have hlt := Nat.mod_lt L (show 0 < S by omega)
        exact ih S (L % S) f (b + L / S * f) (!neg) (by omega) (iv_next A M L S b f neg hI (by omega) h1)
theorem inv_is (A M : Nat) (h2 : 2 ≤ M) (hg : Nat.gcd A M = 1) : invZ A M < M ∧ invZ A M * A % M = 1 := by
  unfold invZ
  rw [if_neg (by omega), if_pos hg]
  obtain ⟨x, hx, h⟩ := inv_there A M h2 hg
  rw [inv_unique A M x hx h]
  exact ⟨hx, h⟩
end Go.Proofs.Ytmmjjohnejimdaa
/- Plain mathematics: Montgomery's product. -/
namespace Go.Proofs.Ytmmjjohnejimdaa

theorem odd_two (M n : Nat) (h : M % 2 = 1) : Nat.gcd (2 ^ n) M = 1 := by
  have h2 : Nat.Coprime 2 M := by
    unfold Nat.Coprime
    rw [Nat.gcd_rec, h]; rfl
  exact Nat.Coprime.pow_left n h2
/-- The inverse of 2^256. -/
def ri (M : Nat) : Nat := invZ (2 ^ 256) M
theorem ri_is (M : Nat) (h : M % 2 = 1) (h2 : 2 ≤ M) : ri M * 2 ^ 256 % M = 1 := (inv_is (2 ^ 256) M h2 (odd_two M 256 h)).2
/-- A product, divided by 2^256. -/
def mt (A B M : Nat) : Nat := A * B * ri M % M
theorem mt_unique (A B M t : Nat) (h : M % 2 = 1) (h2 : 2 ≤ M) (ht : t < M) (he : t * 2 ^ 256 % M = A * B % M) : t = mt A B M := by
  unfold mt
  rw [Nat.mul_mod (A * B), ← he, ← Nat.mul_mod, Nat.mul_assoc, Nat.mul_comm (2 ^ 256), Nat.mul_mod, ri_is M h h2, Nat.mul_one, Nat.mod_mod, Nat.mod_eq_of_lt ht]
theorem mt_lt (A B M : Nat) (h2 : 2 ≤ M) : mt A B M < M := Nat.mod_lt _ (by omega)
/-- One factor is a form: the other one is plain again. -/
theorem mt_form (A B M : Nat) (h : M % 2 = 1) (h2 : 2 ≤ M) : mt A (B * 2 ^ 256 % M) M = A * B % M := by
  refine (mt_unique A (B * 2 ^ 256 % M) M (A * B % M) h h2 (Nat.mod_lt _ (by omega)) ?_).symm
  rw [Nat.mod_mul_mod, Nat.mul_mod A (B * 2 ^ 256 % M), Nat.mod_mod, ← Nat.mul_mod, Nat.mul_assoc]
/-- What holds behind k turns. -/
def Mi (A B M k L v : Nat) : Prop := L < 2 ^ 256 ∧ ∃ q, q < 2 ^ (64 * k) ∧ (L + 2 ^ 256 * v) * 2 ^ (64 * k) = A % 2 ^ (64 * k) * B + q * M
theorem mi_first (A B M : Nat) : Mi A B M 0 0 0 := ⟨by decide, 0, by decide, by rw [Nat.mul_zero, Nat.pow_zero, Nat.mod_one]; simp⟩
theorem mi_lt (A B M k L v : Nat) (hB : B < 2 ^ 256) (hM : M < 2 ^ 256) (h : Mi A B M k L v) : v ≤ 1 := by
  obtain ⟨_, q, hq, e⟩ := h
  have hP := Nat.two_pow_pos (64 * k)
  have ha := Nat.mod_lt A hP
  generalize 2 ^ (64 * k) = P at *
  have h1 : A % P * B ≤ P * B := Nat.mul_le_mul_right _ (by omega)
  have h2 : q * M ≤ P * M := Nat.mul_le_mul_right _ (by omega)
  have h3 : (L + 2 ^ 256 * v) * P ≤ (B + M) * P := by rw [e, Nat.add_mul, Nat.mul_comm B, Nat.mul_comm M]; omega
  have h4 := Nat.le_of_mul_le_mul_right h3 hP
  omega
/-- One turn: the limb a of A, o times M. -/
theorem mi_next (A B M k L v a S L' c v' ov o X c2 l3 ov2 : Nat) (h : Mi A B M k L v) (ha : a = lm A k) (hS : S = B * a + L) (hL' : L' = S % 2 ^ 256) (hc : c = S / 2 ^ 256)
    (hv' : v' = (v + c) % 18446744073709551616) (hov : ov = (v + c) / 18446744073709551616) (ho : o < 18446744073709551616) (hX : X = M * o + L') (hX0 : X % 18446744073709551616 = 0) (hc2 : c2 = X / 2 ^ 256)
    (hl3 : l3 = (v' + c2) % 18446744073709551616) (hov2 : ov2 = (v' + c2) / 18446744073709551616) :
    Mi A B M (k + 1) (X / 18446744073709551616 % 2 ^ 192 + 2 ^ 192 * l3) (ov + ov2) := by
  obtain ⟨_, q, hq, e⟩ := h
  have h1 : S = L' + 2 ^ 256 * c := by rw [hL', hc]; have := Nat.mod_add_div S (2 ^ 256); omega
  have h2 : v + c = v' + 18446744073709551616 * ov := by rw [hv', hov]; omega
  have h3 : v' + c2 = l3 + 18446744073709551616 * ov2 := by rw [hl3, hov2]; omega
  have hx1 : X = 18446744073709551616 * (X / 18446744073709551616) := by omega
  have hx2 : X / 18446744073709551616 = X / 18446744073709551616 % 2 ^ 192 + 2 ^ 192 * c2 := by
    rw [hc2, show 2 ^ 256 = 18446744073709551616 * 2 ^ 192 from rfl, ← Nat.div_div_eq_div_mul]
    have := Nat.mod_add_div (X / 18446744073709551616) (2 ^ 192)
    omega
  refine ⟨?_, q + o * 2 ^ (64 * k), ?_, ?_⟩
  · have : X / 18446744073709551616 % 2 ^ 192 < 2 ^ 192 := Nat.mod_lt _ (by decide)
    have : l3 < 18446744073709551616 := by rw [hl3]; exact Nat.mod_lt _ (by decide)
    omega
  · rw [pow_limb]
    have hP := Nat.two_pow_pos (64 * k)
    generalize 2 ^ (64 * k) = P at *
    have : (o + 1) * P ≤ 18446744073709551616 * P := Nat.mul_le_mul_right _ (by omega)
    rw [Nat.add_mul, Nat.one_mul] at this
    rw [Nat.mul_comm P]
    omega
  · have key : (X / 18446744073709551616 % 2 ^ 192 + 2 ^ 192 * l3 + 2 ^ 256 * (ov + ov2)) * 18446744073709551616 = L + 2 ^ 256 * v + B * a + M * o := by
      generalize X / 18446744073709551616 % 2 ^ 192 = y at *
      omega
    rw [mod_limb, pow_limb, Nat.mul_comm (2 ^ (64 * k)) 18446744073709551616, ← Nat.mul_assoc, key, ← ha, Nat.add_mul, Nat.add_mul, e, Nat.add_mul, Nat.add_mul]
    generalize 2 ^ (64 * k) = P at *
    have e1 : P * a * B = B * a * P := by rw [Nat.mul_comm, ← Nat.mul_assoc, Nat.mul_comm (B * P), Nat.mul_left_comm, ← Nat.mul_assoc]
    have e2 : o * P * M = M * o * P := by rw [Nat.mul_comm (o * P), Nat.mul_assoc]
    rw [e1, e2]
    omega
/-- The end: less than M, or M is taken once. -/
theorem mi_last (A B M L v : Nat) (h : M % 2 = 1) (h2 : 2 ≤ M) (hM : M < 2 ^ 256) (hA : A < 2 ^ 256) (hB : B < 2 ^ 256) (hAB : A < M ∨ B < M) (hI : Mi A B M 4 L v) :
    (v = 0 ∧ L < M → L = mt A B M) ∧ (¬ (v = 0 ∧ L < M) → less L M % 2 ^ 256 = mt A B M) := by
  obtain ⟨hL, q, hq, e⟩ := hI
  rw [show 64 * 4 = 256 from rfl, Nat.mod_eq_of_lt hA] at e
  rw [show 64 * 4 = 256 from rfl] at hq
  have hab : A * B < 2 ^ 256 * M := by
    rcases hAB with h1 | h1
    · rw [Nat.mul_comm A]
      rcases Nat.eq_zero_or_pos A with h0 | h0
      · rw [h0, Nat.mul_zero]; exact Nat.mul_pos (by decide) (by omega)
      · exact Nat.mul_lt_mul_of_lt_of_lt hB h1
    · rcases Nat.eq_zero_or_pos B with h0 | h0
      · rw [h0, Nat.mul_zero]; exact Nat.mul_pos (by decide) (by omega)
      · exact Nat.mul_lt_mul_of_lt_of_lt hA h1
  have hqm : q * M ≤ (2 ^ 256 - 1) * M := Nat.mul_le_mul_right _ (by omega)
  have hT : L + 2 ^ 256 * v < 2 * M := by
    have h3 : (L + 2 ^ 256 * v) * 2 ^ 256 < 2 * M * 2 ^ 256 := by
      rw [e, Nat.mul_comm (2 * M)]
      have : (2 ^ 256 - 1) * M + M = 2 ^ 256 * M := by
        rw [← Nat.succ_mul]
      omega
    exact Nat.lt_of_mul_lt_mul_right h3
  have hmod : ∀ t z, t + z * M = L + 2 ^ 256 * v → t * 2 ^ 256 % M = A * B % M := fun t z hz => by
    have h4 : t * 2 ^ 256 + z * 2 ^ 256 * M = A * B + q * M := by
      rw [← e, ← hz, Nat.add_mul, Nat.mul_assoc z, Nat.mul_assoc z, Nat.mul_comm M]
    have h5 : (t * 2 ^ 256 + z * 2 ^ 256 * M) % M = t * 2 ^ 256 % M := Nat.add_mul_mod_self_right _ _ _
    have h6 : (A * B + q * M) % M = A * B % M := Nat.add_mul_mod_self_right _ _ _
    rw [← h5, h4, h6]
  refine ⟨fun ⟨h0, hl⟩ => ?_, fun hn => ?_⟩
  · exact mt_unique A B M L h h2 hl (hmod L 0 (by rw [h0]; omega))
  · have hge : M ≤ L + 2 ^ 256 * v := by
      rcases Nat.eq_zero_or_pos v with h0 | h0
      · have : ¬ L < M := fun hl => hn ⟨h0, hl⟩
        omega
      · omega
    have hless : less L M % 2 ^ 256 = L + 2 ^ 256 * v - M := by
      unfold less
      rcases Nat.eq_zero_or_pos v with h0 | h0
      · subst h0
        rw [show L + (2 ^ 256 - M) = L + 2 ^ 256 * 0 - M + 2 ^ 256 * 1 by omega, Nat.add_mul_mod_self_left, Nat.mod_eq_of_lt (by omega)]
      · have : v = 1 := by omega
        subst this
        rw [show L + (2 ^ 256 - M) = L + 2 ^ 256 * 1 - M by omega, Nat.mod_eq_of_lt (by omega)]
    rw [hless]
    exact mt_unique A B M _ h h2 (by omega) (hmod _ 1 (by omega))
/-- The lower limbs of one number, the upper ones of another one. -/
def mixL (S L j : Nat) : Nat := S % 2 ^ (64 * j) + 2 ^ (64 * j) * (L / 2 ^ (64 * j))
theorem mixL_zero (S L : Nat) : mixL S L 0 = L := by unfold mixL; rw [Nat.mul_zero, Nat.pow_zero, Nat.mod_one, Nat.div_one]; omega
theorem lm_mixL (S L j i : Nat) : lm (mixL S L j) i = if i < j then lm S i else lm L i := by
  unfold mixL
  have hlt := Nat.mod_lt S (Nat.two_pow_pos (64 * j))
  rw [Nat.add_comm, Nat.two_pow_add_eq_or_of_lt hlt]
  apply Nat.eq_of_testBit_eq
  intro b
  rw [lm_testBit, Nat.testBit_or, Nat.testBit_two_pow_mul, Nat.testBit_mod_two_pow, Nat.testBit_div_two_pow]
  by_cases hb : b < 64
  · by_cases hi : i < j
    · rw [if_pos hi, lm_testBit]
      simp [hb, show 64 * i + b < 64 * j by omega, show ¬ 64 * j ≤ 64 * i + b by omega]
    · rw [if_neg hi, lm_testBit]
      simp [hb, show ¬ 64 * i + b < 64 * j by omega, show 64 * j ≤ 64 * i + b by omega]
  · split <;> rw [lm_testBit] <;> simp [hb]
theorem mixL_step (S L j v : Nat) (hj : j < 4) (hv : v = lm S j) : (natC (mixL S L j)).setIfInBounds j (.int .u64 v) = natC (mixL S L (j + 1)) := by
  subst hv
  refine natC_set _ _ _ _ hj ?_ ?_
  · rw [lm_mixL, if_pos (by omega)]
  · intro i _ hne
    rw [lm_mixL, lm_mixL]
    by_cases h : i < j
    · rw [if_pos (by omega), if_pos h]
    · rw [if_neg (by omega), if_neg h]
theorem mixL_four (S L : Nat) (hL : L < 2 ^ 256) : mixL S L 4 = S % 2 ^ 256 := by
  unfold mixL
  rw [show 64 * 4 = 256 from rfl, Nat.div_eq_of_lt hL, Nat.mul_zero, Nat.add_zero]
theorem lm_down1 (X j : Nat) : lm (X / 18446744073709551616) j = lm X (j + 1) := by
  unfold lm
  rw [Nat.div_div_eq_div_mul, show 18446744073709551616 = 2 ^ 64 from rfl, ← Nat.pow_add, show 64 + 64 * j = 64 * (j + 1) by omega]
theorem mixL_top (S L l3 : Nat) (h3 : l3 < 18446744073709551616) : (natC (mixL S L 3)).setIfInBounds 3 (.int .u64 l3) = natC (S % 2 ^ 192 + 2 ^ 192 * l3) := by
  have hlt : S % 2 ^ 192 < 2 ^ 192 := Nat.mod_lt _ (by decide)
  have hl : ∀ i, lm (S % 2 ^ 192 + 2 ^ 192 * l3) i = if i < 3 then lm S i else lm (2 ^ 192 * l3) i := fun i => by
    have := lm_mixL S (2 ^ 192 * l3) 3 i
    unfold mixL at this
    rw [show 64 * 3 = 192 from rfl, Nat.mul_div_cancel_left _ (by decide)] at this
    exact this
  refine natC_set _ _ _ _ (by decide) ?_ ?_
  · rw [hl, if_neg (by decide)]
    unfold lm
    rw [show 64 * 3 = 192 from rfl, Nat.mul_div_cancel_left _ (by decide), Nat.mod_eq_of_lt h3]
  · intro i hi hne
    rw [hl, lm_mixL, if_pos (by omega), if_pos (by omega)]
/-- So many times M make the lowest limb 0. -/
theorem low_zero (M L mi : Nat) (hmi : mi * M % 18446744073709551616 = 18446744073709551615) : (M * (lm L 0 * mi % 18446744073709551616) + L) % 18446744073709551616 = 0 := by
  have hl : lm L 0 = L % 18446744073709551616 := by unfold lm; rw [Nat.mul_zero, Nat.pow_zero, Nat.div_one]
  rw [hl, Nat.add_mod, Nat.mul_mod, Nat.mod_mod, ← Nat.mul_mod, Nat.mul_comm M, Nat.mul_assoc, Nat.mul_mod, hmi, Nat.mod_mod]
  omega
end Go.Proofs.Ytmmjjohnejimdaa
