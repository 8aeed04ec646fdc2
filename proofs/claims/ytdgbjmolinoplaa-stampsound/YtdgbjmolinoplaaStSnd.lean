/- What liars can do to what is vouched for: plain mathematics; arrays of seven ints; the law's lied. -/
import Derived.Test.YtdgbjmolinoplaaStAwake
import Derived.Test.YtdgbjmolinoplaaStOpen
namespace Go.Proofs.Ytdgbjmolinoplaa
open Go.ChangeShapes Go.WideShapes Go.ChangeAt Go.RowKit
set_option linter.unusedVariables false
set_option linter.unusedSectionVars false
set_option linter.unusedSimpArgs false
/-- How many of the first k are such. -/
def cb (b : Nat → Bool) : Nat → Nat
 | 0 => 0
 | k + 1 => if b k = true then cb b k + 1 else cb b k
theorem cb_yes {b : Nat → Bool} {k : Nat} (h : b k = true) : cb b (k + 1) = cb b k + 1 := if_pos h
theorem cb_no {b : Nat → Bool} {k : Nat} (h : b k = false) : cb b (k + 1) = cb b k := if_neg (by rw [h]; exact Bool.false_ne_true)
theorem cb_le (b : Nat → Bool) : ∀ n, cb b n ≤ n
 | 0 => Nat.le_refl _
 | n + 1 => by
  have := cb_le b n
  unfold cb
  split <;> omega
theorem cb_up (b : Nat → Bool) (n : Nat) : cb b n ≤ cb b (n + 1) ∧ cb b (n + 1) ≤ cb b n + 1 := by
 cases e : b n with
 | true => rw [cb_yes e]; omega
 | false => rw [cb_no e]; omega
theorem cb_sub {b c : Nat → Bool} : ∀ n, (∀ j, j < n → b j = true → c j = true) → cb b n ≤ cb c n
 | 0, _ => Nat.le_refl _
 | n + 1, h => by
  have h1 := cb_sub n (fun j hj => h j (by omega))
  cases e : b n with
  | false =>
   rw [cb_no e]
   have := cb_up c n
   omega
  | true => rw [cb_yes e, cb_yes (h n (Nat.lt_succ_self n) e)]; omega
theorem cb_two {b c : Nat → Bool} : ∀ n, (∀ j, j < n → b j = true → c j = false) → cb b n + cb c n ≤ n
 | 0, _ => Nat.le_refl _
 | n + 1, h => by
  have h1 := cb_two n (fun j hj => h j (by omega))
  cases e : b n with
  | true => rw [cb_yes e, cb_no (h n (Nat.lt_succ_self n) e)]; omega
  | false =>
   rw [cb_no e]
   have := cb_up c n
   omega
theorem ct_cb (p : Int → Bool) (Z : Nat → Int) : ∀ n, ct p Z n = cb (fun j => decide (0 ≤ Z j) && p (Z j)) n
 | 0 => rfl
 | n + 1 => by
  show (if (decide (0 ≤ Z n) && p (Z n)) = true then ct p Z n + 1 else ct p Z n) = if (decide (0 ≤ Z n) && p (Z n)) = true then _ else _
  rw [ct_cb p Z n]
/-- Bits of ints. -/
def an (x c : Int) : Int := bits .and .i64 x c
section
variable {P : Program} {o : Oper} {ρ : Operand → Value}
theorem x_an (t : TypeId) (x y : Operand) (u : TypeId) (ho : o.op = .binOp .and t x y u) (n m r : Int) (hx : ρ x = .int .i64 n) (hy : ρ y = .int .i64 m) (hr : an n m = r) (w : World) :
  (execOp ρ o).run P w = .ok (.value (.int .i64 r)) w := by
 subst hr
 exact x_andz t x y u ho n m hx hy w
theorem x_shz (t : TypeId) (x y : Operand) (u : TypeId) (ho : o.op = .binOp .shr t x y u) (n : Int) (s : Nat) (r : Int) (hx : ρ x = .int .i64 n) (hy : ρ y = .int .u64 (s : Nat)) (hs : s < 64) (hr : n / 2 ^ s = r) (w : World) :
  (execOp ρ o).run P w = .ok (.value (.int .i64 r)) w := by
 subst hr
 unfold execOp
 simp only [ho, hx, hy]
 simp [go_sem]
end
theorem an1 (t : Int) : ∃ b : Nat, b ≤ 1 ∧ an t 1 = b := by
 refine ⟨(BitVec.ofInt 64 t &&& BitVec.ofInt 64 1).toNat, ?_, ?_⟩
 ·rw [BitVec.toNat_and, show (BitVec.ofInt 64 1).toNat = 2 ^ 1 - 1 by decide, Nat.and_two_pow_sub_one_eq_mod]
  omega
 ·show IntKind.i64.wrap ((BitVec.ofInt 64 t &&& BitVec.ofInt 64 1).toNat : Int) = _
  have : (BitVec.ofInt 64 t &&& BitVec.ofInt 64 1).toNat ≤ 1 := by
   rw [BitVec.toNat_and, show (BitVec.ofInt 64 1).toNat = 2 ^ 1 - 1 by decide, Nat.and_two_pow_sub_one_eq_mod]
   omega
  exact wrap_sm _ (by omega) (by omega)
/-- What a server holds; does it tell nothing; does it look like a liar; what it would tell. -/
def hv (H : Nat → Int) (i : Nat) : Int := an (H i) 1048575
def hzb (H : Nat → Int) (i : Nat) : Bool := decide (an (H i / 2 ^ 20) 3 = 0)
def lqb (L : Nat → Int) (i : Nat) : Bool := decide (an (L i) 7 = 0)
def lieV (L : Nat → Int) (i : Nat) : Int := L i / 2 ^ 3
def lie (L : Nat → Int) (f : Nat) (i : Nat) : Bool := lqb L i && decide (cb (lqb L) i < f)
def lnum (L : Nat → Int) (f k : Nat) : Nat := min (cb (lqb L) k) f
def tl (H L : Nat → Int) (f i : Nat) : Int := if lie L f i = true then lieV L i else if hzb H i = true then -1 else hv H i
def mst (H L : Nat → Int) (f : Nat) : Nat → Int
 | 0 => -1
 | k + 1 => if lie L f k = false ∧ 0 ≤ tl H L f k then max (mst H L f k) (hv H k) else mst H L f k
theorem lnum_yes {L : Nat → Int} {f k : Nat} (h : lqb L k = true) (h2 : lnum L f k < f) : lie L f k = true ∧ lnum L f (k + 1) = lnum L f k + 1 := by
 unfold lnum at *
 have h3 : cb (lqb L) k < f := by omega
 refine ⟨by unfold lie; rw [h, decide_eq_true h3]; rfl, ?_⟩
 rw [cb_yes h]
 omega
theorem lnum_no {L : Nat → Int} {f k : Nat} (h : lqb L k = false) : lie L f k = false ∧ lnum L f (k + 1) = lnum L f k := by
 refine ⟨by unfold lie; rw [h]; rfl, ?_⟩
 unfold lnum
 rw [cb_no h]
theorem lnum_full {L : Nat → Int} {f k : Nat} (h : lqb L k = true) (h2 : ¬ lnum L f k < f) : lie L f k = false ∧ lnum L f (k + 1) = lnum L f k := by
 unfold lnum at *
 have h3 : ¬ cb (lqb L) k < f := by omega
 refine ⟨by unfold lie; rw [decide_eq_false h3, Bool.and_false], ?_⟩
 rw [cb_yes h]
 omega
theorem cb_lie (L : Nat → Int) (f : Nat) : ∀ k, cb (lie L f) k = lnum L f k
 | 0 => by unfold lnum; show 0 = min 0 f; omega
 | k + 1 => by
  have h0 := cb_lie L f k
  cases h : lqb L k with
  | false => rw [cb_no (lnum_no h).1, (lnum_no h).2, h0]
  | true =>
   by_cases h2 : lnum L f k < f
   ·rw [cb_yes (lnum_yes h h2).1, (lnum_yes h h2).2, h0]
   ·rw [cb_no (lnum_full h h2).1, (lnum_full h h2).2, h0]
theorem lnum_le (L : Nat → Int) (f k : Nat) : lnum L f k ≤ f := Nat.min_le_right _ _
theorem mst_ge (H L : Nat → Int) (f : Nat) : ∀ k, -1 ≤ mst H L f k
 | 0 => Int.le_refl _
 | k + 1 => by
  have := mst_ge H L f k
  unfold mst
  split <;> omega
theorem mst_is (H L : Nat → Int) (f : Nat) : ∀ k j, j < k → lie L f j = false → 0 ≤ tl H L f j → hv H j ≤ mst H L f k
 | 0, j, hj, _, _ => absurd hj (by omega)
 | k + 1, j, hj, h1, h2 => by
  by_cases e : j = k
  ·subst e
   rw [show mst H L f (j + 1) = max (mst H L f j) (hv H j) from if_pos ⟨h1, h2⟩]
   omega
  ·have := mst_is H L f k j (by omega) h1 h2
   unfold mst
   split <;> omega
/-- Who does not lie and tells a number tells what it holds. -/
theorem tl_true {H L : Nat → Int} {f j : Nat} (h1 : lie L f j = false) (h2 : 0 ≤ tl H L f j) : tl H L f j = hv H j := by
 unfold tl at *
 rw [h1, if_neg Bool.false_ne_true] at *
 by_cases h : hzb H j = true
 ·rw [if_pos h] at h2
  omega
 ·rw [if_neg h]
def rcb (H L : Nat → Int) (f : Nat) (x : Int) (j : Nat) : Bool := !lie L f j && decide (x ≤ hv H j)
theorem snd_most {H L : Nat → Int} {f n : Nat} (h : voB f n (tl H L f) = true) : 0 ≤ voV f n (tl H L f) ∧ voV f n (tl H L f) ≤ mst H L f n := by
 obtain ⟨h1, h2, h3, h4, h5, j, h6, h7, h8⟩ := vo_ge h
 have hv' : voV f n (tl H L f) = gre (tl H L f) n f n := if_pos h
 rw [hv']
 refine ⟨h5, ?_⟩
 rw [h7] at h5 ⊢
 by_cases e : ∃ i, i < n ∧ lie L f i = false ∧ 0 ≤ tl H L f i ∧ tl H L f j ≤ tl H L f i
 ·obtain ⟨i, e1, e2, e3, e4⟩ := e
  have := mst_is H L f n i e1 e2 e3
  have := tl_true e2 e3
  omega
 ·exfalso
  have hs : cb (fun i => decide (0 ≤ tl H L f i) && upZ (tl H L f j) (tl H L f i)) n ≤ cb (lie L f) n := cb_sub n fun i hi hb => by
   rw [Bool.and_eq_true, decide_eq_true_iff] at hb
   cases hl : lie L f i with
   | true => rfl
   | false => exact absurd ⟨i, hi, hl, hb.1, of_decide_eq_true hb.2⟩ e
  rw [ct_cb] at h8
  rw [cb_lie] at hs
  have := lnum_le L f n
  omega
theorem snd_least {H L : Nat → Int} {f n : Nat} {x : Int} (h : voB f n (tl H L f) = true) (hr : f + 1 ≤ cb (rcb H L f x) n) : x ≤ voV f n (tl H L f) := by
 obtain ⟨h1, h2, h3, h4, h5, _⟩ := vo_ge h
 have hv' : voV f n (tl H L f) = gre (tl H L f) n f n := if_pos h
 rw [hv']
 generalize gre (tl H L f) n f n = v at *
 by_cases e : ∃ i, i < n ∧ rcb H L f x i = true ∧ (decide (0 ≤ tl H L f i) && dnZ v (tl H L f i)) = true
 ·obtain ⟨i, e1, e2, e3⟩ := e
  unfold rcb at e2
  rw [Bool.and_eq_true, decide_eq_true_iff] at e2 e3
  have e4 : tl H L f i ≤ v := of_decide_eq_true e3.2
  have := tl_true (by simpa using e2.1) e3.1
  omega
 ·exfalso
  have hs := cb_two (b := rcb H L f x) (c := fun i => decide (0 ≤ tl H L f i) && dnZ v (tl H L f i)) n fun i hi hb => by
   cases hl : (decide (0 ≤ tl H L f i) && dnZ v (tl H L f i)) with
   | false => rfl
   | true => exact absurd ⟨i, hi, hb, hl⟩ e
  rw [ct_cb] at h4
  omega
theorem zC_size (n : Nat) (Z : Nat → Int) : (zC n Z).size = n := vsC_size _ _
theorem zC_get {n : Nat} (Z : Nat → Int) {i : Nat} (hi : i < n) : (zC n Z)[i]? = some (.int .i64 (Z i)) := vsC_get _ hi
theorem zC_get1 {n : Nat} (Z : Nat → Int) {i : Nat} (hi : i < n) : (zC n Z)[0 + i * 1]? = some (.int .i64 (Z i)) := by rw [Nat.zero_add, Nat.mul_one]; exact vsC_get _ hi
def updZ (Z : Nat → Int) (k : Nat) (v : Int) (i : Nat) : Int := if i = k then v else Z i
theorem updZ_at (Z : Nat → Int) (k : Nat) (v : Int) : updZ Z k v k = v := if_pos rfl
theorem updZ_two (Z : Nat → Int) (k : Nat) (a b : Int) : updZ (updZ Z k a) k b = updZ Z k b := by
 funext i
 unfold updZ
 split <;> rfl
theorem zC_upd {n : Nat} (Z : Nat → Int) {k : Nat} (hk : k < n) (v : Int) : (zC n Z).setIfInBounds (0 + k * 1) (.int .i64 v) = zC n (updZ Z k v) := by
 rw [Nat.zero_add, Nat.mul_one]
 exact vsC_put hk (by rw [updZ_at]) fun j _ hne => by unfold updZ; rw [if_neg hne]
def tlK (H L : Nat → Int) (f k i : Nat) : Int := if i < k then tl H L f i else 0
theorem tlK_succ (H L : Nat → Int) (f k : Nat) : updZ (tlK H L f k) k (tl H L f k) = tlK H L f (k + 1) := by
 funext i
 unfold updZ tlK
 by_cases e : i = k
 ·subst e
  rw [if_pos rfl, if_pos (Nat.lt_succ_self i)]
 ·rw [if_neg e]
  by_cases h : i < k
  ·rw [if_pos h, if_pos (by omega)]
  ·rw [if_neg h, if_neg (by omega)]
theorem tlK_0 (H L : Nat → Int) (f n : Nat) : isC n (fun _ => 0) = zC n (tlK H L f 0) := by
 have : tlK H L f 0 = fun _ => 0 := by
  funext i
  exact if_neg (by omega)
 rw [this]
 rfl
theorem info_i7 : (Try.prog.info? 35).map (·.size) = some 7 := by kernel_rfl
theorem cells_i7 : Try.prog.cellsOf 35 = 7 := by kernel_rfl
theorem open_i7 {H : Type} {enc : TypeId × Value → H} {W : World} {base : Nat} {v0 : Value} {d0 : DataW H} {p0 : List MemPlace}
  (hv : Value.okWide Try.prog W .any base 35 v0) (h0 : DataW.Trod enc Try.prog W 0 (fun _ => true) true 35 v0 d0 p0) :
  ∃ L : Nat → Int, v0 = .agg (zC 7 L) := by
 obtain ⟨cs, rfl, hsz, _⟩ : ∃ cs, v0 = .agg cs ∧ cs.size = Try.prog.cellsOf 35 ∧ Row.okWide Try.prog W .any base 35 cs := by
  simpa [Value.okWide, Try.underlying35] using hv
 rw [cells_i7] at hsz
 obtain ⟨fuel, hf⟩ := h0
 obtain ⟨xs, m, _, _, _, hl, hg⟩ := DataW.trod_array Try.underlying35 hf
 have hs : ∀ i, i < 7 → ∃ z : Int, cs[i]? = some (.int .i64 z) := by
  intro i hi
  have h1 := hg i hi
  rw [cells_z1] at h1
  have e0 : xs[i]? = some xs[i] := List.getElem?_eq_getElem (by omega)
  obtain ⟨z, i0, _, _⟩ := DataW.trod_int Try.underlying3 (h1.trans e0)
  refine ⟨z, ?_⟩
  have h2 : (((Value.agg cs).cells.toList.drop (i * 1)).take 1)[0]? = some (.int .i64 z) := by rw [i0]; rfl
  rw [List.getElem?_take_of_lt (by omega), List.getElem?_drop] at h2
  simpa [Value.cells] using h2
 obtain ⟨L, hL⟩ := Deep.choose_lt hs
 refine ⟨L, ?_⟩
 congr 1
 apply Array.ext_getElem?
 intro i
 by_cases hi : i < 7
 ·rw [hL i hi, zC_get L hi]
 ·rw [Array.getElem?_eq_none (by omega), Array.getElem?_eq_none (by rw [zC_size]; omega)]
end Go.Proofs.Ytdgbjmolinoplaa
