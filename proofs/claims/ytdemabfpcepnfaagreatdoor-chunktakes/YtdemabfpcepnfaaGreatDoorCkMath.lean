/- Plain mathematics of layer 11: a value's bytes, its parts, their numbers; what numbers tell. -/
import Derived.Test.YtdemabfpcepnfaaGreatDoorTakeB
namespace Go.Proofs.YtdemabfpcepnfaaGreatDoor
/-- How many parts so many bytes fill. -/
def pN (n z : Nat) : Nat := (n + z - 1) / z
theorem pN_ge {n z : Nat} (hz : 0 < z) : n ≤ pN n z * z := by
 unfold pN
 have h := Nat.div_add_mod (n + z - 1) z
 have h2 := Nat.mod_lt (n + z - 1) hz
 rw [Nat.mul_comm] at h
 omega
theorem pN_lt {n z : Nat} (hz : 0 < z) : pN n z * z < n + z := by
 unfold pN
 have h := Nat.div_mul_le_self (n + z - 1) z
 omega
theorem pN_le {n z : Nat} (hz : 0 < z) : pN n z ≤ n := by
 have h := pN_lt (n := n) hz
 by_cases hn : n = 0
 ·subst hn
  have : pN 0 z * z < 1 * z := by omega
  have := Nat.lt_of_mul_lt_mul_right this
  omega
 ·unfold pN
  refine Nat.le_of_lt_succ ((Nat.div_lt_iff_lt_mul hz).2 ?_)
  have e : (n - 1) * 1 ≤ (n - 1) * z := Nat.mul_le_mul_left _ hz
  have e2 : (n + 1) * z = (n - 1) * z + z + z := by
   obtain ⟨m, rfl⟩ : ∃ m, n = m + 1 := ⟨n - 1, by omega⟩
   rw [Nat.add_sub_cancel, Nat.add_mul, Nat.add_mul]
   omega
  show n + z - 1 < (n + 1) * z
  omega
theorem pN_pos {n z : Nat} (hz : 0 < z) (hn : 0 < n) : 0 < pN n z := by
 have := pN_ge (n := n) hz
 rcases Nat.eq_zero_or_pos (pN n z) with h | h
 ·rw [h] at this; omega
 ·exact h
/-- A value's bytes, none's. -/
def ckL (v : List UInt8) (t : Bool) : List UInt8 := bif t then UInt8.ofNat (v.length + 1) :: v else [0]
theorem ckL_pos (v : List UInt8) (t : Bool) : 0 < (ckL v t).length := by cases t <;> simp [ckL]
theorem ckL_len {v : List UInt8} (t : Bool) (h : v.length ≤ 24) : (ckL v t).length ≤ 25 := by cases t <;> simp [ckL]; exact h
theorem ckL_none (v : List UInt8) : ckL v false = [0] := rfl
theorem ckL_some (v : List UInt8) : ckL v true = UInt8.ofNat (v.length + 1) :: v := rfl
/-- Bytes, and noughts behind that fill the last part. -/
def padz (s : List UInt8) (z : Nat) : List UInt8 := s ++ List.replicate (pN s.length z * z - s.length) 0
theorem padz_length {s : List UInt8} {z : Nat} (hz : 0 < z) : (padz s z).length = pN s.length z * z := by
 have := pN_ge (n := s.length) hz
 simp [padz]
 omega
/-- A part, its number. -/
def prt (s : List UInt8) (z k : Nat) : List UInt8 := ((padz s z).drop (k * z)).take z
def ckF (s : List UInt8) (z k : Nat) : Nat := natB (prt s z k)
theorem prt_length {s : List UInt8} {z k : Nat} (hz : 0 < z) (hk : k < pN s.length z) : (prt s z k).length = z := by
 have h : (k + 1) * z ≤ pN s.length z * z := Nat.mul_le_mul_right _ hk
 rw [Nat.add_mul] at h
 simp [prt, padz_length hz]
 omega
theorem prt_le (s : List UInt8) (z k : Nat) : (prt s z k).length ≤ z := by simp [prt]; omega
theorem ckF_lt (s : List UInt8) (z k : Nat) : ckF s z k < 2 ^ (8 * z) :=
 Nat.lt_of_lt_of_le (natB_lt _) (Nat.pow_le_pow_right (by decide) (by have := prt_le s z k; omega))
theorem ckF_256 {z : Nat} (s : List UInt8) (k : Nat) (hz : z ≤ 32) : ckF s z k < 2 ^ 256 :=
 Nat.lt_of_lt_of_le (ckF_lt s z k) (Nat.pow_le_pow_right (by decide) (by omega))
/-- A number's bytes, filled up. -/
def flz (z A : Nat) : List UInt8 := List.replicate (z - need A) 0 ++ bytesL A (need A)
theorem flz_length (z A : Nat) : z ≤ (flz z A).length := by
 simp [flz, bytesL_length]
 omega
theorem need_to {A z : Nat} (h : A < 2 ^ (8 * z)) : need A ≤ z := by
 have := bitLen_le A (8 * z) h
 unfold need
 omega
theorem lt_need (A : Nat) : A < 2 ^ (8 * need A) := by
 have h : A < 2 ^ bitLen A := by
  unfold bitLen
  split
  ·rename_i h; subst h; decide
  ·exact Nat.lt_log2_self
 exact Nat.lt_of_lt_of_le h (Nat.pow_le_pow_right (by decide) (by unfold need; omega))
theorem byt_over {A i : Nat} (h : need A ≤ i) : byt A i = 0 := by
 unfold byt
 rw [Nat.div_eq_of_lt (Nat.lt_of_lt_of_le (lt_need A) (Nat.pow_le_pow_right (by decide) (by omega)))]
theorem flz_fit {z A : Nat} (h : A < 2 ^ (8 * z)) : flz z A = bytesL A z := by
 have hn := need_to h
 unfold flz bytesL
 apply List.ext_getElem
 ·simp; omega
 ·intro i h1 h2
  simp at h1 h2
  by_cases hi : i < z - need A
  ·rw [List.getElem_append_left (by simpa using hi)]
   simp
   rw [byt_over (by omega)]
   rfl
  ·rw [List.getElem_append_right (by simpa using hi)]
   simp
   congr 2
   omega
theorem bytes_natB (l : List UInt8) : bytesL (natB l) l.length = l := by
 apply List.ext_getElem
 ·rw [bytesL_length]
 ·intro i h1 h2
  rw [bytesL_get _ _ _ h1, natB_byt l _ (by omega)]
  simp [show l.length - 1 - (l.length - 1 - i) = i by omega]
/-- The bytes of numbers, one behind the other. -/
def jn (z : Nat) (f : Nat → Nat) : Nat → List UInt8
 | 0 => []
 | n + 1 => jn z f n ++ flz z (f n)
theorem jn_length (z : Nat) (f : Nat → Nat) : ∀ n, n * z ≤ (jn z f n).length
 | 0 => by simp
 | n + 1 => by
  have h1 := jn_length z f n
  have h2 := flz_length z (f n)
  rw [jn, List.length_append, Nat.add_mul]
  omega
theorem flz_le {z A : Nat} (hz : z ≤ 32) (hA : A < 2 ^ 256) : (flz z A).length ≤ 32 := by
 have := need_le A hA
 simp [flz, bytesL_length]
 omega
theorem jn_le {z : Nat} {f : Nat → Nat} (hz : z ≤ 32) (hf : ∀ k, f k < 2 ^ 256) : ∀ n, (jn z f n).length ≤ 32 * n
 | 0 => by simp [jn]
 | n + 1 => by
  have h1 := jn_le hz hf n
  have h2 := flz_le hz (hf n)
  rw [jn, List.length_append]
  omega
theorem jn_congr {z : Nat} {f g : Nat → Nat} : ∀ n, (∀ k, k < n → f k = g k) → jn z f n = jn z g n
 | 0, _ => rfl
 | n + 1, h => by rw [jn, jn, jn_congr n fun k hk => h k (by omega), h n (by omega)]
theorem jn_parts {s : List UInt8} {z : Nat} (hz : 0 < z) : ∀ k, k ≤ pN s.length z → jn z (ckF s z) k = (padz s z).take (k * z)
 | 0, _ => by simp [jn]
 | k + 1, h => by
  have hl := prt_length hz (show k < pN s.length z by omega)
  rw [jn, jn_parts hz k (by omega), flz_fit (ckF_lt _ _ _)]
  have : bytesL (ckF s z k) z = prt s z k := by
   have h := bytes_natB (prt s z k)
   rw [hl] at h
   exact h
  rw [this, prt, Nat.add_mul, Nat.one_mul, List.take_add]
theorem jn_all {s : List UInt8} {z : Nat} (hz : 0 < z) : jn z (ckF s z) (pN s.length z) = padz s z := by
 rw [jn_parts hz _ (Nat.le_refl _), List.take_of_length_le (by rw [padz_length hz]; exact Nat.le_refl _)]
/-- What bytes tell. -/
def tdT (s : List UInt8) : Bool := !decide ((s.getD 0 0).toNat = 0)
def tdV (s : List UInt8) : List UInt8 := bif tdT s then (s.take (min (s.getD 0 0).toNat s.length)).drop 1 else []
theorem td_pd {v : List UInt8} {t : Bool} {z : Nat} (h : v.length ≤ 24) (ht : t = false → v = []) : tdT (padz (ckL v t) z) = t ∧ tdV (padz (ckL v t) z) = v := by
 cases t with
 | false =>
  have e : tdT (padz (ckL v false) z) = false := rfl
  refine ⟨e, ?_⟩
  unfold tdV
  rw [e, ht rfl]
  rfl
 | true =>
  have e0 : (UInt8.ofNat (v.length + 1)).toNat = v.length + 1 := by
   rw [UInt8.toNat_ofNat']
   omega
  have e1 : ((padz (ckL v true) z).getD 0 0).toNat = v.length + 1 := e0
  have e : tdT (padz (ckL v true) z) = true := by
   unfold tdT
   rw [e1]
   simp
  refine ⟨e, ?_⟩
  unfold tdV
  rw [e, e1]
  have hl : v.length + 1 ≤ (padz (ckL v true) z).length := by simp [padz, ckL]
  rw [Nat.min_eq_left hl]
  show ((UInt8.ofNat (v.length + 1) :: v ++ List.replicate _ 0).take (v.length + 1)).drop 1 = v
  rw [List.cons_append, List.take_succ_cons, List.drop_one, List.tail_cons, List.take_left]
/-- Are these a value's numbers, or none's? -/
def ckIs (z n : Nat) (f : Nat → Nat) (v : List UInt8) (t : Bool) : Prop := v.length ≤ 24 ∧ n = pN (ckL v t).length z ∧ ∀ k, k < n → f k = ckF (ckL v t) z k
open Classical in
/-- What numbers tell. -/
noncomputable def tkR (z n : Nat) (f : Nat → Nat) : Option (List UInt8 × Bool) := if ckIs z n f (tdV (jn z f n)) (tdT (jn z f n)) then some (tdV (jn z f n), tdT (jn z f n)) else none
theorem ckIs_jn {z n : Nat} {f : Nat → Nat} {v : List UInt8} {t : Bool} (hz : 0 < z) (h : ckIs z n f v t) : jn z f n = padz (ckL v t) z := by
 obtain ⟨_, hn, hf⟩ := h
 rw [jn_congr n hf, hn, jn_all hz]
theorem tkR_of {z n : Nat} {f : Nat → Nat} {v : List UInt8} {t : Bool} (hz : 0 < z) (h : ckIs z n f v t) (ht : t = false → v = []) : tkR z n f = some (v, t) := by
 have hj := ckIs_jn hz h
 obtain ⟨e1, e2⟩ := td_pd (z := z) h.1 ht
 unfold tkR
 rw [hj, e1, e2, if_pos h]
theorem tdV_no {s : List UInt8} (h : tdT s = false) : tdV s = [] := by
 unfold tdV
 rw [h]
 rfl
theorem tkR_is {z n : Nat} {f : Nat → Nat} {v : List UInt8} {t : Bool} (h : tkR z n f = some (v, t)) : ckIs z n f v t ∧ (t = false → v = []) := by
 unfold tkR at h
 split at h
 ·rename_i hc
  cases h
  exact ⟨hc, tdV_no⟩
 ·cases h
theorem tkR_not {z n : Nat} {f : Nat → Nat} (h : ¬ ckIs z n f (tdV (jn z f n)) (tdT (jn z f n))) : tkR z n f = none := by
 unfold tkR
 rw [if_neg h]
theorem ckIs_pos {z n : Nat} {f : Nat → Nat} {v : List UInt8} {t : Bool} (hz : 0 < z) (h : ckIs z n f v t) : 0 < n ∧ n ≤ 25 := by
 obtain ⟨h1, h2, _⟩ := h
 subst h2
 exact ⟨pN_pos hz (ckL_pos v t), Nat.le_trans (pN_le hz) (ckL_len t h1)⟩
theorem tkR_few {z n : Nat} {f : Nat → Nat} (hz : 0 < z) (h : n = 0 ∨ 25 < n) : tkR z n f = none :=
 tkR_not fun hc => by have := ckIs_pos hz hc; omega
theorem tkR_big {z n : Nat} {f : Nat → Nat} {i : Nat} (hi : i < n) (h : ¬ f i < 2 ^ (8 * z)) : tkR z n f = none :=
 tkR_not fun hc => h (by rw [hc.2.2 i hi]; exact ckF_lt _ _ _)
theorem tkR_over {z n : Nat} {f : Nat → Nat} (hz : 0 < z) (h : (jn z f n).length < ((jn z f n).getD 0 0).toNat ∨ 25 < ((jn z f n).getD 0 0).toNat) : tkR z n f = none := by
 cases hr : tkR z n f with
 | none => rfl
 | some y =>
  exfalso
  obtain ⟨v, t⟩ := y
  obtain ⟨hc, ht⟩ := tkR_is hr
  have hj := ckIs_jn hz hc
  rw [hj] at h
  cases t with
  | false =>
   have e1 : ((padz (ckL v false) z).getD 0 0).toNat = 0 := rfl
   rw [e1] at h
   omega
  | true =>
   have hv := hc.1
   have e0 : (UInt8.ofNat (v.length + 1)).toNat = v.length + 1 := by
    rw [UInt8.toNat_ofNat']
    omega
   have e1 : ((padz (ckL v true) z).getD 0 0).toNat = v.length + 1 := e0
   have hl : v.length + 1 ≤ (padz (ckL v true) z).length := by simp [padz, ckL]
   rw [e1] at h
   omega
noncomputable def tkV (z n : Nat) (f : Nat → Nat) : List UInt8 := match tkR z n f with | none => [] | some y => y.1
noncomputable def tkT (z n : Nat) (f : Nat → Nat) : Bool := match tkR z n f with | none => false | some y => y.2
noncomputable def tkE (z n : Nat) (f : Nat → Nat) : Int := match tkR z n f with | none => 4 | some _ => 0
theorem tk_none {z n : Nat} {f : Nat → Nat} (h : tkR z n f = none) : tkV z n f = [] ∧ tkT z n f = false ∧ tkE z n f = 4 := by
 unfold tkV tkT tkE
 rw [h]
 exact ⟨rfl, rfl, rfl⟩
theorem tk_some {z n : Nat} {f : Nat → Nat} {v : List UInt8} {t : Bool} (h : tkR z n f = some (v, t)) : tkV z n f = v ∧ tkT z n f = t ∧ tkE z n f = 0 := by
 unfold tkV tkT tkE
 rw [h]
 exact ⟨rfl, rfl, rfl⟩
/-- How many numbers so many bytes need. -/
def ckN (z : Nat) (n : Int) : Int := if 0 ≤ n ∧ n ≤ 24 then (pN (n.toNat + 1) z : Nat) else 0
end Go.Proofs.YtdemabfpcepnfaaGreatDoor
