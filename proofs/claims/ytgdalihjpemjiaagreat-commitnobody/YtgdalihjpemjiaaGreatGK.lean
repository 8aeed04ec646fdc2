import Derived.Test.YtgdalihjpemjiaaGreatGI
import Derived.Test.YtgdalihjpemjiaaGreatGF
import Derived.Test.YtgdalihjpemjiaaGreatGJ
namespace Go.Proofs.YtgdalihjpemjiaaGreat
set_option linter.unusedVariables false
theorem odd_two (M n : Nat) (h : M % 2 = 1) : Nat.gcd (2 ^ n) M = 1 := by
 have h2 : Nat.Coprime 2 M := by
  unfold Nat.Coprime
  rw [Nat.gcd_rec, h]; rfl
 exact Nat.Coprime.pow_left n h2
def ri (M : Nat) : Nat := invZ (2 ^ 256) M
theorem ri_is (M : Nat) (h : M % 2 = 1) (h2 : 2 ≤ M) : ri M * 2 ^ 256 % M = 1 := (inv_is (2 ^ 256) M h2 (odd_two M 256 h)).2
def mt (A B M : Nat) : Nat := A * B * ri M % M
theorem mt_unique (A B M t : Nat) (h : M % 2 = 1) (h2 : 2 ≤ M) (ht : t < M) (he : t * 2 ^ 256 % M = A * B % M) : t = mt A B M := by
 unfold mt
 rw [Nat.mul_mod (A * B), ← he, ← Nat.mul_mod, Nat.mul_assoc, Nat.mul_comm (2 ^ 256), Nat.mul_mod, ri_is M h h2, Nat.mul_one, Nat.mod_mod, Nat.mod_eq_of_lt ht]
theorem mt_lt (A B M : Nat) (h2 : 2 ≤ M) : mt A B M < M := Nat.mod_lt _ (by omega)
theorem mt_form (A B M : Nat) (h : M % 2 = 1) (h2 : 2 ≤ M) : mt A (B * 2 ^ 256 % M) M = A * B % M := by
 refine (mt_unique A (B * 2 ^ 256 % M) M (A * B % M) h h2 (Nat.mod_lt _ (by omega)) ?_).symm
 rw [Nat.mod_mul_mod, Nat.mul_mod A (B * 2 ^ 256 % M), Nat.mod_mod, ← Nat.mul_mod, Nat.mul_assoc]
def Mi (A B M k L v : Nat) : Prop := L < 2 ^ 256 ∧ ∃ q, q < 2 ^ (64 * k) ∧ (L + 2 ^ 256 * v) * 2 ^ (64 * k) = A % 2 ^ (64 * k) * B + q * M
theorem mi_first (A B M : Nat) : Mi A B M 0 0 0 := ⟨by decide, 0, by decide, by rw [Nat.mul_zero, Nat.pow_zero, Nat.mod_one]; simp⟩
theorem mi_lt (A B M k L v : Nat) (hB : B < 2 ^ 256) (hM : M < 2 ^ 256) (h : Mi A B M k L v) : v ≤ 1 := by
 obtain ⟨_, q, hq, e⟩ := h
 have hP := Nat.two_pow_pos (64 * k)
 have ha := Nat.mod_lt A hP
 generalize 2 ^ (64 * k) = P at *
 have h1 : A % P * B ≤ P * B := Nat.mul_le_mul_right _ (by omega)
 have h2 : q * M ≤ P * M := Nat.mul_le_mul_right _ (by omega)
 have h3 : (L + 2 ^ 256 * v) * P ≤ (B + M) * P := by rw [e, Nat.add_mul, Nat.mul_comm B, Nat.mul_comm M]; omega
 have h4 := Nat.le_of_mul_le_mul_right h3 hP
 omega
theorem mi_next (A B M k L v a S L' c v' ov o X c2 l3 ov2 : Nat) (h : Mi A B M k L v) (ha : a = lm A k) (hS : S = B * a + L) (hL' : L' = S % 2 ^ 256) (hc : c = S / 2 ^ 256)
  (hv' : v' = (v + c) % 18446744073709551616) (hov : ov = (v + c) / 18446744073709551616) (ho : o < 18446744073709551616) (hX : X = M * o + L') (hX0 : X % 18446744073709551616 = 0) (hc2 : c2 = X / 2 ^ 256)
  (hl3 : l3 = (v' + c2) % 18446744073709551616) (hov2 : ov2 = (v' + c2) / 18446744073709551616) :
  Mi A B M (k + 1) (X / 18446744073709551616 % 2 ^ 192 + 2 ^ 192 * l3) (ov + ov2) := by
 obtain ⟨_, q, hq, e⟩ := h
 have hx2 : X / 18446744073709551616 = X / 18446744073709551616 % 2 ^ 192 + 2 ^ 192 * c2 := by
  rw [hc2, show 2 ^ 256 = 18446744073709551616 * 2 ^ 192 from rfl, ← Nat.div_div_eq_div_mul]
  have := Nat.mod_add_div (X / 18446744073709551616) (2 ^ 192)
  omega
 refine ⟨?_, q + o * 2 ^ (64 * k), ?_, ?_⟩
 ·have : X / 18446744073709551616 % 2 ^ 192 < 2 ^ 192 := Nat.mod_lt _ (by decide)
  have : l3 < 18446744073709551616 := by rw [hl3]; exact Nat.mod_lt _ (by decide)
  omega
 ·rw [pow_limb]
  generalize 2 ^ (64 * k) = P at *
  have : (o + 1) * P ≤ 18446744073709551616 * P := Nat.mul_le_mul_right _ (by omega)
  rw [Nat.add_mul, Nat.one_mul] at this
  rw [Nat.mul_comm P]
  omega
 ·have key : (X / 18446744073709551616 % 2 ^ 192 + 2 ^ 192 * l3 + 2 ^ 256 * (ov + ov2)) * 18446744073709551616 = L + 2 ^ 256 * v + B * a + M * o := by
   generalize X / 18446744073709551616 % 2 ^ 192 = y at *
   omega
  rw [mod_limb, pow_limb, Nat.mul_comm (2 ^ (64 * k)) 18446744073709551616, ← Nat.mul_assoc, key, ← ha, Nat.add_mul, Nat.add_mul, e, Nat.add_mul, Nat.add_mul]
  generalize 2 ^ (64 * k) = P at *
  have e1 : P * a * B = B * a * P := by rw [Nat.mul_comm, ← Nat.mul_assoc, Nat.mul_comm (B * P), Nat.mul_left_comm, ← Nat.mul_assoc]
  have e2 : o * P * M = M * o * P := by rw [Nat.mul_comm (o * P), Nat.mul_assoc]
  rw [e1, e2]
  omega
theorem mi_last (A B M L v : Nat) (h : M % 2 = 1) (h2 : 2 ≤ M) (hM : M < 2 ^ 256) (hA : A < 2 ^ 256) (hB : B < 2 ^ 256) (hAB : A < M ∨ B < M) (hI : Mi A B M 4 L v) :
  (v = 0 ∧ L < M → L = mt A B M) ∧ (¬ (v = 0 ∧ L < M) → less L M % 2 ^ 256 = mt A B M) := by
 obtain ⟨hL, q, hq, e⟩ := hI
 rw [show 64 * 4 = 256 from rfl, Nat.mod_eq_of_lt hA] at e
 rw [show 64 * 4 = 256 from rfl] at hq
 have hab : A * B < 2 ^ 256 * M := by
  rcases hAB with h1 | h1
  ·rw [Nat.mul_comm A]
   rcases Nat.eq_zero_or_pos A with h0 | h0
   ·rw [h0, Nat.mul_zero]; exact Nat.mul_pos (by decide) (by omega)
   ·exact Nat.mul_lt_mul_of_lt_of_lt hB h1
  ·rcases Nat.eq_zero_or_pos B with h0 | h0
   ·rw [h0, Nat.mul_zero]; exact Nat.mul_pos (by decide) (by omega)
   ·exact Nat.mul_lt_mul_of_lt_of_lt hA h1
 have hqm : q * M ≤ (2 ^ 256 - 1) * M := Nat.mul_le_mul_right _ (by omega)
 have hT : L + 2 ^ 256 * v < 2 * M := by
  have h3 : (L + 2 ^ 256 * v) * 2 ^ 256 < 2 * M * 2 ^ 256 := by
   rw [e, Nat.mul_comm (2 * M)]
   have : (2 ^ 256 - 1) * M + M = 2 ^ 256 * M := by
    rw [← Nat.succ_mul]
   omega
  exact Nat.lt_of_mul_lt_mul_right h3
 have hmod : ∀ t z, t + z * M = L + 2 ^ 256 * v → t * 2 ^ 256 % M = A * B % M := fun t z hz => by
  have h4 : t * 2 ^ 256 + z * 2 ^ 256 * M = A * B + q * M := by
   rw [← e, ← hz, Nat.add_mul, Nat.mul_assoc z, Nat.mul_assoc z, Nat.mul_comm M]
  have h5 : (t * 2 ^ 256 + z * 2 ^ 256 * M) % M = t * 2 ^ 256 % M := Nat.add_mul_mod_self_right _ _ _
  have h6 : (A * B + q * M) % M = A * B % M := Nat.add_mul_mod_self_right _ _ _
  rw [← h5, h4, h6]
 refine ⟨fun ⟨h0, hl⟩ => ?_, fun hn => ?_⟩
 ·exact mt_unique A B M L h h2 hl (hmod L 0 (by rw [h0]; omega))
 ·have hge : M ≤ L + 2 ^ 256 * v := by
   rcases Nat.eq_zero_or_pos v with h0 | h0
   ·have : ¬ L < M := fun hl => hn ⟨h0, hl⟩
    omega
   ·omega
  have hless : less L M % 2 ^ 256 = L + 2 ^ 256 * v - M := by
   unfold less
   rcases Nat.eq_zero_or_pos v with h0 | h0
   ·subst h0
    rw [show L + (2 ^ 256 - M) = L + 2 ^ 256 * 0 - M + 2 ^ 256 * 1 by omega, Nat.add_mul_mod_self_left, Nat.mod_eq_of_lt (by omega)]
   ·have : v = 1 := by omega
    subst this
    rw [show L + (2 ^ 256 - M) = L + 2 ^ 256 * 1 - M by omega, Nat.mod_eq_of_lt (by omega)]
  rw [hless]
  exact mt_unique A B M _ h h2 (by omega) (hmod _ 1 (by omega))
def mixL (S L j : Nat) : Nat := S % 2 ^ (64 * j) + 2 ^ (64 * j) * (L / 2 ^ (64 * j))
theorem mixL_zero (S L : Nat) : mixL S L 0 = L := by unfold mixL; rw [Nat.mul_zero, Nat.pow_zero, Nat.mod_one, Nat.div_one]; omega
theorem lm_mixL (S L j i : Nat) : lm (mixL S L j) i = if i < j then lm S i else lm L i := by
 unfold mixL
 have hlt := Nat.mod_lt S (Nat.two_pow_pos (64 * j))
 rw [Nat.add_comm, Nat.two_pow_add_eq_or_of_lt hlt]
 apply Nat.eq_of_testBit_eq
 intro b
 rw [lm_testBit, Nat.testBit_or, Nat.testBit_two_pow_mul, Nat.testBit_mod_two_pow, Nat.testBit_div_two_pow]
 by_cases hb : b < 64
 ·by_cases hi : i < j
  ·rw [if_pos hi, lm_testBit]
   simp [hb, show 64 * i + b < 64 * j by omega, show ¬ 64 * j ≤ 64 * i + b by omega]
  ·rw [if_neg hi, lm_testBit]
   simp [hb, show ¬ 64 * i + b < 64 * j by omega, show 64 * j ≤ 64 * i + b by omega]
 ·split <;> rw [lm_testBit] <;> simp [hb]
theorem mixL_step (S L j v : Nat) (hj : j < 4) (hv : v = lm S j) : (natC (mixL S L j)).setIfInBounds j (.int .u64 v) = natC (mixL S L (j + 1)) := by
 subst hv
 refine natC_set _ _ _ _ hj ?_ ?_
 ·rw [lm_mixL, if_pos (by omega)]
 ·intro i _ hne
  rw [lm_mixL, lm_mixL]
  by_cases h : i < j
  ·rw [if_pos (by omega), if_pos h]
  ·rw [if_neg (by omega), if_neg h]
theorem mixL_four (S L : Nat) (hL : L < 2 ^ 256) : mixL S L 4 = S % 2 ^ 256 := by
 unfold mixL
 rw [show 64 * 4 = 256 from rfl, Nat.div_eq_of_lt hL, Nat.mul_zero, Nat.add_zero]
theorem lm_down1 (X j : Nat) : lm (X / 18446744073709551616) j = lm X (j + 1) := by
 unfold lm
 rw [Nat.div_div_eq_div_mul, show 18446744073709551616 = 2 ^ 64 from rfl, ← Nat.pow_add, show 64 + 64 * j = 64 * (j + 1) by omega]
theorem mixL_top (S L l3 : Nat) (h3 : l3 < 18446744073709551616) : (natC (mixL S L 3)).setIfInBounds 3 (.int .u64 l3) = natC (S % 2 ^ 192 + 2 ^ 192 * l3) := by
 have hl : ∀ i, lm (S % 2 ^ 192 + 2 ^ 192 * l3) i = if i < 3 then lm S i else lm (2 ^ 192 * l3) i := fun i => by
  have := lm_mixL S (2 ^ 192 * l3) 3 i
  unfold mixL at this
  rw [show 64 * 3 = 192 from rfl, Nat.mul_div_cancel_left _ (by decide)] at this
  exact this
 refine natC_set _ _ _ _ (by decide) ?_ ?_
 ·rw [hl, if_neg (by decide)]
  unfold lm
  rw [show 64 * 3 = 192 from rfl, Nat.mul_div_cancel_left _ (by decide), Nat.mod_eq_of_lt h3]
 ·intro i hi hne
  rw [hl, lm_mixL, if_pos (by omega), if_pos (by omega)]
theorem low_zero (M L mi : Nat) (hmi : mi * M % 18446744073709551616 = 18446744073709551615) : (M * (lm L 0 * mi % 18446744073709551616) + L) % 18446744073709551616 = 0 := by
 have hl : lm L 0 = L % 18446744073709551616 := by unfold lm; rw [Nat.mul_zero, Nat.pow_zero, Nat.div_one]
 rw [hl, Nat.add_mod, Nat.mul_mod, Nat.mod_mod, ← Nat.mul_mod, Nat.mul_comm M, Nat.mul_assoc, Nat.mul_mod, hmi, Nat.mod_mod]
 omega
open Go.RowKit
theorem info_a4 : (Tryz.prog.info? 39).map (fun i => (i.zero, i.size)) = some (some (.agg (natC 0)), 4) := by kernel_rfl
theorem zero_a4 (w : World) : (zeroValue 39).run Tryz.prog w = .ok (.agg (natC 0)) w := (zero_of_info info_a4).1 w
theorem size_a4 : (Tryz.prog.info? 39).map (·.size) = some 4 := (zero_of_info info_a4).2
def rgC (M mi one sq : Nat) : Array Value := #[.int .u64 (lm M 0), .int .u64 (lm M 1), .int .u64 (lm M 2), .int .u64 (lm M 3), .int .u64 mi, .int .u64 (lm one 0), .int .u64 (lm one 1), .int .u64 (lm one 2), .int .u64 (lm one 3), .int .u64 (lm sq 0), .int .u64 (lm sq 1), .int .u64 (lm sq 2), .int .u64 (lm sq 3)]
theorem natC_list (N : Nat) : (natC N).toList = [.int .u64 (lm N 0), .int .u64 (lm N 1), .int .u64 (lm N 2), .int .u64 (lm N 3)] := rfl
theorem part4 {cs : Array Value} {off N : Nat} (h0 : cs[off + 0]? = some (.int .u64 (lm N 0))) (h1 : cs[off + 1]? = some (.int .u64 (lm N 1))) (h2 : cs[off + 2]? = some (.int .u64 (lm N 2))) (h3 : cs[off + 3]? = some (.int .u64 (lm N 3))) :
  ∀ j v, (natC N).toList[j]? = some v → cs[off + j]? = some v := by
 intro j v hv
 rw [natC_list] at hv
 match j, hv with
 | 0, hv => rw [h0]; exact hv
 | 1, hv => rw [h1]; exact hv
 | 2, hv => rw [h2]; exact hv
 | 3, hv => rw [h3]; exact hv
 | j + 4, hv => simp at hv
theorem rg_m (M mi one sq : Nat) : ∀ j v, (natC M).toList[j]? = some v → (rgC M mi one sq)[0 + j]? = some v := part4 rfl rfl rfl rfl
theorem rg_one (M mi one sq : Nat) : ∀ j v, (natC one).toList[j]? = some v → (rgC M mi one sq)[5 + j]? = some v := part4 rfl rfl rfl rfl
theorem rg_sq (M mi one sq : Nat) : ∀ j v, (natC sq).toList[j]? = some v → (rgC M mi one sq)[9 + j]? = some v := part4 rfl rfl rfl rfl
theorem rg_cell (M mi one sq j : Nat) (hj : j < 4) : (rgC M mi one sq)[j]? = some (.int .u64 (lm M j)) := by
 match j, hj with
 | 0, _ => rfl
 | 1, _ => rfl
 | 2, _ => rfl
 | 3, _ => rfl
theorem exec_add_un {P : Program} {o : Oper} {ρ : Operand → Value} (t : TypeId) (x y : Operand) (u : TypeId) (ho : o.op = .binOp .add t x y u) (n m : Nat) (hx : ρ x = .int .u64 n) (hy : ρ y = .int .u64 m) (h : n + m < 18446744073709551616) (w : World) :
  (execOp ρ o).run P w = .ok (.value (.int .u64 ((n + m : Nat) : Int))) w := by
 unfold execOp
 simp only [ho, hx, hy]
 simp [go_sem]
 rw [IntKind.wrap_u64]
 omega
theorem exec_mul_un {P : Program} {o : Oper} {ρ : Operand → Value} (t : TypeId) (x y : Operand) (u : TypeId) (ho : o.op = .binOp .mul t x y u) (n m : Nat) (hx : ρ x = .int .u64 n) (hy : ρ y = .int .u64 m) (w : World) :
  (execOp ρ o).run P w = .ok (.value (.int .u64 ((n * m % 18446744073709551616 : Nat) : Int))) w := by
 unfold execOp
 simp only [ho, hx, hy]
 simp [go_sem]
 rw [IntKind.wrap_u64]
set_option maxRecDepth 100000 in
set_option maxHeartbeats 1000000 in
theorem tmore_core (a b m c hi lo x1 y1 x2 y2 : Nat) (w : World) (hb1 : hi + y1 < 18446744073709551616) (hb2 : hi + y1 + y2 < 18446744073709551616) (e1 : x1 = addV lo m 0) (e2 : y1 = addC lo m 0) (e3 : x2 = addV x1 c 0) (e4 : y2 = addC x1 c 0)
  (hmu : ∀ w', Calls Tryz.prog 108 #[.int .u64 a, .int .u64 b] w' fun e w2 => e = .returned (.tuple #[.int .u64 hi, .int .u64 lo]) ∧ Below w'.heap.size w' w2) :
  Calls Tryz.prog 148 #[.int .u64 a, .int .u64 b, .int .u64 m, .int .u64 c] w fun e w' => e = .returned (.tuple #[.int .u64 x2, .int .u64 ((hi + y1 + y2 : Nat) : Int)]) ∧ Below w.heap.size w w' := by
 go_enter Tryz.func148, Tryz.ntmps148
 iterate 2 go_step
 apply wp_region_mixq [] [_, _] trivial List.nodup_nil rfl
 intro p
 refine mx_val (.int .u64 0) (fun _ => rfl) ?_
 simp only [pv]
 refine mx_val (.int .u64 0) (fun _ => rfl) ?_
 simp only [pv]
 refine mx_end ?_
 intro vw1 hkw hrw hnew hdis
 have sb := k_b hkw
 clear hkw hrw hnew hdis
 iterate 3 go_step
 apply wp_region_mixq [] [_, _, _, _, _, _, _, _] trivial List.nodup_nil rfl
 intro p
 refine m_m ?_
 refine m_m ?_
 simp only [pv]
 refine mx_call 108 _ _ rfl Tryz.func108 (by kernel_rfl) #[.int .u64 a, .int .u64 b] rfl _ hmu ?_
 refine m_m ?_
 refine m_e ?_
 refine m_e ?_
 refine m_a ?_
 simp only [pv]
 refine m_a ?_
 simp only [pv]
 refine mx_end ?_
 intro vw2 hkw hrw hnew hdis
 replace sb := kk sb hkw
 clear hkw hrw hnew hdis
 iterate 3 go_step
 apply wp_region_mixq [] [_, _, _, _, _, _, _, _] trivial List.nodup_nil rfl
 intro p
 refine m_m ?_
 refine m_m ?_
 simp only [pv]
 refine mx_val (.tuple #[.int .u64 x1, .int .u64 y1]) (fun w' => (exec_extern 149 _ _ rfl Tryz.func149 (by kernel_rfl) (by kernel_rfl) next_add64 find_add64 #[.int .u64 lo, .int .u64 m, .int .u64 (0 : Nat)] rfl _ (run_add64_nat _ _ _ (by omega) _)).trans (by rw [e1, e2])) ?_
 refine m_m ?_
 refine m_e ?_
 refine m_e ?_
 refine m_a ?_
 simp only [pv]
 refine m_a ?_
 simp only [pv]
 refine mx_end ?_
 intro vw3 hkw hrw hnew hdis
 replace sb := kk sb hkw
 clear hkw hrw hnew hdis
 iterate 3 go_step
 apply wp_region_mixq [] [_, _, _, _] trivial List.nodup_nil rfl
 intro p
 refine m_m ?_
 refine m_m ?_
 simp only [pv]
 refine mx_val (.int .u64 ((hi + y1 : Nat) : Int)) (exec_add_un _ _ _ _ rfl hi y1 rfl rfl hb1) ?_
 refine m_a ?_
 simp only [pv]
 refine mx_end ?_
 intro vw4 hkw hrw hnew hdis
 replace sb := kk sb hkw
 clear hkw hrw hnew hdis
 iterate 3 go_step
 apply wp_region_mixq [] [_, _, _, _, _, _, _, _] trivial List.nodup_nil rfl
 intro p
 refine m_m ?_
 refine m_m ?_
 simp only [pv]
 refine mx_val (.tuple #[.int .u64 x2, .int .u64 y2]) (fun w' => (exec_extern 149 _ _ rfl Tryz.func149 (by kernel_rfl) (by kernel_rfl) next_add64 find_add64 #[.int .u64 x1, .int .u64 c, .int .u64 (0 : Nat)] rfl _ (run_add64_nat _ _ _ (by omega) _)).trans (by rw [e3, e4])) ?_
 refine m_m ?_
 refine m_e ?_
 refine m_e ?_
 refine m_a ?_
 simp only [pv]
 refine m_a ?_
 simp only [pv]
 refine mx_end ?_
 intro vw5 hkw hrw hnew hdis
 replace sb := kk sb hkw
 clear hkw hrw hnew hdis
 iterate 3 go_step
 apply wp_region_mixq [] [_, _, _, _, _, _] trivial List.nodup_nil rfl
 intro p
 refine m_m ?_
 refine m_m ?_
 refine m_m ?_
 simp only [pv]
 refine mx_val (.int .u64 ((hi + y1 + y2 : Nat) : Int)) (exec_add_un _ _ _ _ rfl (hi + y1) y2 rfl rfl hb2) ?_
 refine m_a ?_
 refine m_a ?_
 simp only [pv]
 refine mx_end ?_
 intro vw6 hkw hrw hnew hdis
 replace sb := kk sb hkw
 clear hkw hrw hnew hdis
 -- the rows that stand: 
 go_wp2
 go_ret2
 exact ⟨rfl, sb⟩
theorem tmore_any (a b m c : Nat) (w : World) (ha : a < 18446744073709551616) (hb : b < 18446744073709551616) (hm : m < 18446744073709551616) (hc : c < 18446744073709551616) :
  Calls Tryz.prog 148 #[.int .u64 a, .int .u64 b, .int .u64 m, .int .u64 c] w fun e w' => e = .returned (.tuple #[.int .u64 ((a * b + m + c) % 18446744073709551616 : Nat), .int .u64 ((a * b + m + c) / 18446744073709551616 : Nat)]) ∧ Below w.heap.size w w' := by
 obtain ⟨t1, t2, t3, t4⟩ := tl_code (a * b) m c (mul_limbs_le a b ha hb) hm hc
 have := tmore_core a b m c (a * b / 18446744073709551616) (a * b % 18446744073709551616) _ _ _ _ w t2 (by rw [t3]; exact t4) rfl rfl rfl rfl (mul64_any a b ha hb)
 rw [t1, t3] at this
 exact this
end Go.Proofs.YtgdalihjpemjiaaGreat
