/- HMAC as plain mathematics over SHA-256; two texts held against each other. -/
import Derived.Test.YtdanmnhknmepiaaDoorSMath
namespace Go.Proofs.YtdanmnhknmepiaaDoor
set_option linter.unusedVariables false
/-- A key, or its digest. -/
def keyL (k : List UInt8) : List UInt8 := if 64 < k.length then sha k else k
/-- So many bytes, each turned by a number. -/
def trnL (B : Nat → Nat) (b : Nat) : List UInt8 := (List.range 64).map fun i => UInt8.ofNat (B i ^^^ b)
def turnL (k : List UInt8) (b : Nat) : List UInt8 := trnL (bf (keyL k)) b
/-- The tag. -/
def hm (k s : List UInt8) : List UInt8 := sha (turnL k 92 ++ sha (turnL k 54 ++ s))
theorem xor8 {x y : Nat} (hx : x < 256) (hy : y < 256) : x ^^^ y < 256 := Nat.xor_lt_two_pow (n := 8) hx hy
theorem trnL_length (B : Nat → Nat) (b : Nat) : (trnL B b).length = 64 := by simp [trnL]
theorem turnL_length (k : List UInt8) (b : Nat) : (turnL k b).length = 64 := trnL_length _ _
theorem trnL_get (B : Nat → Nat) (b i : Nat) (hi : i < 64) (hB : B i < 256) (hb : b < 256) : bf (trnL B b) i = B i ^^^ b := by
 unfold bf trnL
 rw [List.getD_eq_getElem?_getD, List.getElem?_map, List.getElem?_range hi]
 show (UInt8.ofNat _).toNat = _
 exact UInt8.toNat_ofNat_of_lt' (xor8 hB hb)
theorem trnL_take (B : Nat → Nat) (b i : Nat) (hi : i < 64) : (trnL B b).take i ++ [UInt8.ofNat (B i ^^^ b)] = (trnL B b).take (i + 1) := by
 rw [List.take_succ_eq_append_getElem (by rw [trnL_length]; exact hi)]
 congr 1
 simp [trnL]
theorem trnL_congr {B C : Nat → Nat} (b : Nat) (h : ∀ i, i < 64 → B i = C i) : trnL B b = trnL C b := by
 unfold trnL
 refine List.map_congr_left fun i hi => ?_
 rw [h i (List.mem_range.1 hi)]
theorem keyL_short {k : List UInt8} (h : ¬ 64 < k.length) : keyL k = k := if_neg h
theorem keyL_long {k : List UInt8} (h : 64 < k.length) : keyL k = sha k := if_pos h
theorem keyL_length (k : List UInt8) : (keyL k).length ≤ 64 := by
 by_cases h : 64 < k.length
 ·rw [keyL_long h]; unfold sha; rw [outL_length]; omega
 ·rw [keyL_short h]; omega
/-- The bytes so far. -/
def trn (B : Nat → Nat) (b i j : Nat) : Nat := if j < i then B j ^^^ b else B j
theorem trn_zero (B : Nat → Nat) (b : Nat) : trn B b 0 = B := by funext j; unfold trn; rw [if_neg (by omega)]
theorem trn_self (B : Nat → Nat) (b i : Nat) : trn B b i i = B i := if_neg (by omega)
theorem trn_put (B : Nat → Nat) (b i n : Nat) : ∀ j, j < n → trn B b (i + 1) j = if j = i then B i ^^^ b else trn B b i j := by
 intro j _
 unfold trn
 by_cases e : j = i
 ·subst e; rw [if_pos rfl, if_pos (by omega)]
 ·rw [if_neg e]
  by_cases h : j < i
  ·rw [if_pos h, if_pos (by omega)]
  ·rw [if_neg h, if_neg (by omega)]
theorem trn_done (B : Nat → Nat) (b j : Nat) (hj : j < 64) (hB : B j < 256) (hb : b < 256) : bf (trnL B b) j = trn B b 64 j := by
 rw [trnL_get B b j hj hB hb]; unfold trn; rw [if_pos hj]
theorem bf_beyond (l : List UInt8) (k : Nat) (h : l.length ≤ k) : bf l k = 0 := by
 unfold bf
 rw [List.getD_eq_getElem?_getD, List.getElem?_eq_none h]
 rfl
/-- Noughts behind. -/
def padL (k : List UInt8) (n : Nat) : List UInt8 := k ++ List.replicate n 0
theorem bf_pad (k : List UInt8) (n i : Nat) : bf (padL k n) i = bf k i := by
 unfold padL
 by_cases h : i < k.length
 ·exact bf_left k _ i h
 ·rw [show i = k.length + (i - k.length) by omega, bf_right, bf_beyond k _ (by omega)]
  unfold bf
  rw [List.getD_eq_getElem?_getD, List.getElem?_replicate]
  split <;> rfl
theorem padL_length (k : List UInt8) (n : Nat) : (padL k n).length = k.length + n := by simp [padL]
theorem padL_zero (k : List UInt8) : padL k 0 = k := by simp [padL]
theorem padL_succ (k : List UInt8) (n : Nat) : padL k n ++ [0] = padL k (n + 1) := by
 unfold padL
 rw [List.append_assoc, ← List.replicate_succ']
theorem hm_pad (k s : List UInt8) (n : Nat) (h : k.length + n ≤ 64) : hm (padL k n) s = hm k s := by
 have e : ∀ b, turnL (padL k n) b = turnL k b := fun b => by
  unfold turnL
  rw [keyL_short (show ¬ 64 < (padL k n).length by rw [padL_length]; omega), keyL_short (show ¬ 64 < k.length by omega)]
  exact trnL_congr b fun i _ => bf_pad k n i
 unfold hm
 rw [e, e]
/-- Whether two texts differ, up to a place. -/
def dfr (a b : List UInt8) : Nat → Nat
 | 0 => a.length ^^^ b.length
 | k + 1 => dfr a b k ||| (bf a k ^^^ bf b k)
theorem or_zero_iff (x y : Nat) : x ||| y = 0 ↔ x = 0 ∧ y = 0 := by
 constructor
 ·intro h
  have h1 : x ≤ x ||| y := Nat.left_le_or
  have h2 : y ≤ x ||| y := Nat.right_le_or
  omega
 ·rintro ⟨rfl, rfl⟩; rfl
theorem xor_zero_iff (x y : Nat) : x ^^^ y = 0 ↔ x = y := by
 constructor
 ·intro h
  apply Nat.eq_of_testBit_eq
  intro i
  have := congrArg (fun n => n.testBit i) h
  simp only [Nat.testBit_xor, Nat.zero_testBit] at this
  cases hx : x.testBit i <;> cases hy : y.testBit i <;> simp_all
 ·rintro rfl; exact Nat.xor_self x
theorem dfr_zero (a b : List UInt8) : ∀ k, dfr a b k = 0 ↔ a.length = b.length ∧ ∀ j, j < k → bf a j = bf b j
 | 0 => by unfold dfr; rw [xor_zero_iff]; exact ⟨fun h => ⟨h, fun j hj => by omega⟩, fun h => h.1⟩
 | k + 1 => by
  unfold dfr
  rw [or_zero_iff, xor_zero_iff, dfr_zero a b k]
  constructor
  ·rintro ⟨⟨h1, h2⟩, h3⟩
   refine ⟨h1, fun j hj => ?_⟩
   by_cases e : j = k
   ·subst e; exact h3
   ·exact h2 j (by omega)
  ·rintro ⟨h1, h2⟩
   exact ⟨⟨h1, fun j hj => h2 j (by omega)⟩, h2 k (by omega)⟩
theorem dfr_lt (a b : List UInt8) (ha : a.length < 4611686018427387904) (hb : b.length < 4611686018427387904) : ∀ k, dfr a b k < 4611686018427387904
 | 0 => Nat.xor_lt_two_pow (n := 62) ha hb
 | k + 1 => Nat.or_lt_two_pow (n := 62) (dfr_lt a b ha hb k) (Nat.lt_of_lt_of_le (xor8 (bf_lt a k) (bf_lt b k)) (by decide))
theorem same_of_bf {a b : List UInt8} (hl : a.length = b.length) (h : ∀ j, j < a.length → bf a j = bf b j) : a = b := by
 apply List.ext_getElem hl
 intro i h1 h2
 have := h i h1
 unfold bf at this
 rw [List.getD_eq_getElem?_getD, List.getD_eq_getElem?_getD, List.getElem?_eq_getElem h1, List.getElem?_eq_getElem h2] at this
 exact UInt8.toNat_inj.1 this
theorem dfr_same (a b : List UInt8) (m : Nat) (hm : a.length ≤ m) : decide (dfr a b m = 0) = decide (a = b) := by
 refine decide_eq_decide.2 ?_
 rw [dfr_zero]
 constructor
 ·rintro ⟨h1, h2⟩
  exact same_of_bf h1 fun j hj => h2 j (by omega)
 ·rintro rfl; exact ⟨rfl, fun _ _ => rfl⟩
theorem hm_length (k s : List UInt8) : (hm k s).length = 32 := outL_length _
end Go.Proofs.YtdanmnhknmepiaaDoor
