/- Plain mathematics: bytes there and back. -/
import Derived.Test.YthccjmhpmbbblaaNTake
import Derived.Test.YthccjmhpmbbblaaNLen
namespace Go.Proofs.Ythccjmhpmbbblaa

theorem bitLen_lo (A n : Nat) (h : 2 ^ n ≤ A) : n < bitLen A := by
  have h1 := (bitLen_spec A).1
  exact (Nat.pow_lt_pow_iff_right (by decide : 1 < 2)).1 (Nat.lt_of_le_of_lt h h1)
theorem lt_need (A : Nat) : A < 2 ^ (8 * need A) := by
  refine Nat.lt_of_lt_of_le (bitLen_spec A).1 (Nat.pow_le_pow_right (by decide) ?_)
  unfold need
  omega
/-- Naturals with the same bytes are the same. -/
theorem eq_of_byt (A B n : Nat) (hA : A < 2 ^ (8 * n)) (hB : B < 2 ^ (8 * n)) (h : ∀ k, k < n → byt A k = byt B k) : A = B := by
  apply Nat.eq_of_testBit_eq
  intro i
  by_cases hi : i < 8 * n
  · have h1 := congrArg (fun x => Nat.testBit x (i % 8)) (h (i / 8) (by omega))
    simp only [byt_bit] at h1
    rw [decide_eq_true (show i % 8 < 8 by omega), Bool.true_and, Bool.true_and, show 8 * (i / 8) + i % 8 = i by omega] at h1
    exact h1
  · rw [Nat.testBit_lt_two_pow (Nat.lt_of_lt_of_le hA (Nat.pow_le_pow_right (by decide) (by omega))), Nat.testBit_lt_two_pow (Nat.lt_of_lt_of_le hB (Nat.pow_le_pow_right (by decide) (by omega)))]
theorem natB_bytesL (A n : Nat) (hA : A < 2 ^ (8 * n)) : natB (bytesL A n) = A := by
  have hl := natB_lt (bytesL A n)
  rw [bytesL_length] at hl
  refine eq_of_byt _ _ n hl hA fun k hk => ?_
  rw [natB_byt (bytesL A n) k (by rw [bytesL_length]; exact hk), bytesL_get, UInt8.toNat_ofNat_of_lt' (byt_lt _ _), bytesL_length, show n - 1 - (n - 1 - k) = k by omega]
theorem byt_top (A n : Nat) (h1 : 2 ^ (8 * n) ≤ A) (h2 : A < 2 ^ (8 * (n + 1))) : byt A n ≠ 0 := by
  unfold byt
  rw [Nat.mod_eq_of_lt (Nat.div_lt_of_lt_mul (by rw [show 2 ^ (8 * n) * 256 = 2 ^ (8 * (n + 1)) by rw [show 8 * (n + 1) = 8 * n + 8 by omega, Nat.pow_add]]; exact h2))]
  have := (Nat.le_div_iff_mul_le (Nat.two_pow_pos (8 * n))).2 (show 1 * 2 ^ (8 * n) ≤ A by omega)
  omega
theorem need_lo (A : Nat) (h : 0 < need A) : 2 ^ (8 * (need A - 1)) ≤ A := by
  have hs := bitLen_spec A
  have h0 : A ≠ 0 := by
    intro e
    subst e
    have : need 0 = 0 := rfl
    omega
  refine Nat.le_trans (Nat.pow_le_pow_right (by decide) ?_) (hs.2 h0)
  unfold need at *
  omega
theorem bytesOf_size (A : Nat) : (bytesOf A).size = need A := bytesL_length A (need A)
theorem bad_bytesOf (A : Nat) (hA : A < 2 ^ 256) : badB (bytesOf A) = false := by
  have hn := need_le A hA
  rcases badB_cases (bytesOf A) with ⟨h, _⟩ | ⟨_, h⟩ | ⟨_, h2, ⟨h3, _⟩ | ⟨_, h⟩⟩
  · rw [bytesOf_size] at h; omega
  · exact h
  · rw [bytesOf_size] at h2
    have hg : (bytesOf A)[0] = UInt8.ofNat (byt A (need A - 1)) := by
      have := bytesL_get A (need A) 0 (by rw [bytesL_length]; exact h2)
      exact this
    rw [hg] at h3
    have h4 := congrArg UInt8.toNat h3
    rw [UInt8.toNat_ofNat_of_lt' (byt_lt _ _)] at h4
    have h5 := byt_top A (need A - 1) (need_lo A h2) (by rw [show need A - 1 + 1 = need A by omega]; exact lt_need A)
    exact absurd h4 h5
  · exact h
theorem take_bytesOf (A : Nat) (hA : A < 2 ^ 256) : takeN (bytesOf A) = A ∧ takeE (bytesOf A) = 0 := by
  have hb := bad_bytesOf A hA
  unfold takeN takeE
  rw [hb]
  exact ⟨natB_bytesL A (need A) (lt_need A), rfl⟩
theorem takeN_lt (s : ByteArray) : takeN s < 2 ^ 256 := by
  unfold takeN
  rcases badB_cases s with ⟨_, hb⟩ | ⟨h1, hb⟩ | ⟨h1, _, ⟨_, hb⟩ | ⟨_, hb⟩⟩ <;> rw [hb]
  · exact Nat.two_pow_pos _
  · refine Nat.lt_of_lt_of_le (natB_lt s.data.toList) (Nat.pow_le_pow_right (by decide) ?_)
    show 8 * s.size ≤ 256
    omega
  · exact Nat.two_pow_pos _
  · refine Nat.lt_of_lt_of_le (natB_lt s.data.toList) (Nat.pow_le_pow_right (by decide) ?_)
    show 8 * s.size ≤ 256
    omega
/-- How many bytes the natural of bytes needs. -/
theorem need_natB (l : List UInt8) (h : l = [] ∨ ∃ h0 : 0 < l.length, l[0] ≠ 0) : need (natB l) = l.length := by
  rcases h with rfl | ⟨h0, hne⟩
  · rfl
  · have hlt := natB_lt l
    have hle : 2 ^ (8 * (l.length - 1)) ≤ natB l := by
      have hb := natB_byt l (l.length - 1) (by omega)
      have e : l[l.length - 1 - (l.length - 1)]'(by omega) = l[0] := by congr 1; omega
      rw [e] at hb
      have hn0 : byt (natB l) (l.length - 1) ≠ 0 := by
        rw [hb]
        intro hz
        exact hne (UInt8.toNat_inj.1 (by simpa using hz))
      refine Nat.le_of_not_lt fun hl => hn0 ?_
      unfold byt
      rw [Nat.div_eq_of_lt hl]
    have h1 := bitLen_lo _ _ hle
    have h2 := bitLen_le _ _ hlt
    unfold need
    omega
theorem bytesL_natB (l : List UInt8) : bytesL (natB l) l.length = l := by
  apply List.ext_getElem
  · rw [bytesL_length]
  · intro j h1 h2
    rw [bytesL_get]
    apply UInt8.toNat_inj.1
    rw [UInt8.toNat_ofNat_of_lt' (byt_lt _ _), natB_byt l (l.length - 1 - j) (by omega)]
    congr 2
    omega
theorem bytes_take (s : ByteArray) (h : takeE s = 0) : bytesOf (takeN s) = s := by
  have hb : badB s = false := by
    unfold takeE at h
    cases hq : badB s with
    | false => rfl
    | true => rw [hq] at h; exact absurd h (by decide)
  unfold takeN bytesOf
  rw [hb, if_neg (by decide)]
  have hl : need (natB s.data.toList) = s.data.toList.length := by
    refine need_natB _ ?_
    rcases badB_cases s with ⟨_, h2⟩ | ⟨h1, _⟩ | ⟨_, h0, ⟨_, h2⟩ | ⟨h3, _⟩⟩
    · rw [hb] at h2; cases h2
    · exact .inl (List.length_eq_zero_iff.1 h1)
    · rw [hb] at h2; cases h2
    · exact .inr ⟨h0, h3⟩
  rw [hl, bytesL_natB]
end Go.Proofs.Ythccjmhpmbbblaa
