/- One of the three given groups, picked by the lowest eight bits of a number: as a slice of parameters. -/
import Derived.Test.YtcgeimbfijpocaaGRefL
namespace Go.Proofs.Ytcgeimbfijpocaa
open Go.RowKit
/-- One of three. -/
def pk {α : Type} (m : Nat) (a b c : α) : α := if m = 0 then a else if m = 1 then b else c
theorem info_pax : (Try.prog.info? 27).map (fun i => (i.zero, i.size)) = some (some (.agg #[.slice none 0 0, .int .u64 0, .int .u64 0, .int .u64 0, .int .u64 0]), 5) := by kernel_rfl
theorem info_pa' : ∃ i, Try.prog.info? 27 = some i ∧ i.zero = some (Value.agg #[.slice none 0 0, .int .u64 0, .int .u64 0, .int .u64 0, .int .u64 0]) ∧ i.size = 5 := by
 cases hi : Try.prog.info? 27 with
 | none => have := info_pax; rw [hi] at this; cases this
 | some i =>
  have h := info_pax
  rw [hi] at h
  simp only [Option.map_some, Option.some.injEq, Prod.mk.injEq] at h
  exact ⟨i, rfl, h.1, h.2⟩
/-- Three parameters one behind the other. -/
def pasC (x y z : Option Addr) (n m l X Y Z : Nat) : Array Value := #[.slice x n n, .int .u64 (lm X 0), .int .u64 (lm X 1), .int .u64 (lm X 2), .int .u64 (lm X 3), .slice y m m, .int .u64 (lm Y 0), .int .u64 (lm Y 1), .int .u64 (lm Y 2), .int .u64 (lm Y 3), .slice z l l, .int .u64 (lm Z 0), .int .u64 (lm Z 1), .int .u64 (lm Z 2), .int .u64 (lm Z 3)]
set_option maxRecDepth 100000 in
theorem lit_pas (x y z : Option Addr) (n m l X Y Z : Nat) (k : Nat) (hk : k = 5) : Instr.fill (fun i => some (i * k, k)) ((Array.range (3 * k)).map ((Value.agg #[.slice none 0 0, .int .u64 0, .int .u64 0, .int .u64 0, .int .u64 0]).cells[· % (Value.agg #[.slice none 0 0, .int .u64 0, .int .u64 0, .int .u64 0, .int .u64 0]).cells.size]!)) [(0, .agg (paC x n n X)), (1, .agg (paC y m m Y)), (2, .agg (paC z l l Z))] = some (pasC x y z n m l X Y Z) := by
 subst hk
 unfold paC pasC
 generalize lm X 0 = a0
 generalize lm X 1 = a1
 generalize lm X 2 = a2
 generalize lm X 3 = a3
 generalize lm Y 0 = b0
 generalize lm Y 1 = b1
 generalize lm Y 2 = b2
 generalize lm Y 3 = b3
 generalize lm Z 0 = c0
 generalize lm Z 1 = c1
 generalize lm Z 2 = c2
 generalize lm Z 3 = c3
 kernel_rfl
theorem list_five {c0 c1 c2 c3 c4 : Value} {cs : Array Value} {off : Nat} (h0 : cs[off]? = some c0) (h1 : cs[off + 1]? = some c1) (h2 : cs[off + 2]? = some c2) (h3 : cs[off + 3]? = some c3) (h4 : cs[off + 4]? = some c4) : ∀ j v, [c0, c1, c2, c3, c4][j]? = some v → cs[off + j]? = some v := by
 intro j v hv
 match j, hv with
 | 0, hv => rw [← hv]; exact h0
 | 1, hv => rw [← hv]; exact h1
 | 2, hv => rw [← hv]; exact h2
 | 3, hv => rw [← hv]; exact h3
 | 4, hv => rw [← hv]; exact h4
 | j + 5, hv => simp at hv
theorem pas_part (x y z n m l X Y Z : Nat) (k : Nat) (hk : k < 3) : ∀ j v, (paC (some ⟨pk k x y z, 0, none⟩) (pk k n m l) (pk k n m l) (pk k X Y Z)).toList[j]? = some v → (pasC (some ⟨x, 0, none⟩) (some ⟨y, 0, none⟩) (some ⟨z, 0, none⟩) n m l X Y Z)[0 + k * 5 + j]? = some v := by
 match k, hk with
 | 0, _ => exact list_five rfl rfl rfl rfl rfl
 | 1, _ => exact list_five rfl rfl rfl rfl rfl
 | 2, _ => exact list_five rfl rfl rfl rfl rfl
theorem pk_row {w : World} {x y z : Nat} {a b c : Array Value} {t : TypeId} (k : Nat) (h1 : Row w x a t) (h2 : Row w y b t) (h3 : Row w z c t) : Row w (pk k x y z) (pk k a b c) t := by
 unfold pk
 split
 ·exact h1
 ·split
  ·exact h2
  ·exact h3
/-- The lowest eight bits. -/
def ly8 (x : Int) : Nat := (x % 256).toNat
theorem ly8_lt (x : Int) : ly8 x < 256 := by unfold ly8; omega
theorem and_ly8 (x : Int) : bits .and .i64 x 255 = ((ly8 x : Nat) : Int) := by
 show IntKind.i64.wrap ((BitVec.ofInt 64 x &&& BitVec.ofInt 64 255).toNat : Int) = _
 have h255 : (BitVec.ofInt 64 255).toNat = 2 ^ 8 - 1 := by decide
 rw [BitVec.toNat_and, h255, Nat.and_two_pow_sub_one_eq_mod, BitVec.toNat_ofInt]
 have e : (x % ((2 ^ 64 : Nat) : Int)).toNat % 2 ^ 8 = ly8 x := by
  unfold ly8
  omega
 rw [e]
 exact wrap_i64 _ (by have := ly8_lt x; omega)
theorem pk_gr (m : Nat) : grN (pk m 3 3 5) (lN (pk m leL otL grL)) twoA (pk m leG otG grG) = true ∧ (∀ i, i < pk m 3 3 5 → lN (pk m leL otL grL) i < 2 ^ 256) ∧ pk m leG otG grG < 2 ^ 256 ∧ 2 ≤ pk m 3 3 5 ∧ pk m 3 3 5 < 9223372036854775808 ∧ pk m (lksC 3 (lN leL) twoA) (lksC 3 (lN otL) twoA) (lksC 5 (lN grL) twoA) = lksC (pk m 3 3 5) (lN (pk m leL otL grL)) twoA := by
 unfold pk
 split
 ·exact ⟨least_is, le_lt, by decide, by decide, by decide, rfl⟩
 ·split
  ·exact ⟨other_is, ot_lt, by decide, by decide, by decide, rfl⟩
  ·exact ⟨great_is, gr_lt, by decide, by decide, by decide, rfl⟩
theorem lt_of_mod (x M : Nat) (h0 : 0 < M) (hM : M < 2 ^ 256) : x % M < 2 ^ 256 := Nat.lt_trans (Nat.mod_lt _ h0) hM
end Go.Proofs.Ytcgeimbfijpocaa
