/- Links that are the same. -/
import Derived.Test.YtcgeimbfijpocaaGTypes
import Derived.Test.YtcgeimbfijpocaaGWalk
import Derived.Test.YtcgeimbfijpocaaGD
import Derived.Test.YtcgeimbfijpocaaPSmall
import Derived.Test.YtcgeimbfijpocaaMProd
namespace Go.Proofs.Ytcgeimbfijpocaa
open Go.RowKit
set_option maxHeartbeats 1000000 in
theorem equal_natR (d X : Nat) (w : World) : (Op.equalIn (d + 1 + 1) 24 (.agg (natC X)) (.agg (natC X))).run Try.prog w = .ok true w := by
 have u3 := Try.underlying22
 have a3 := Try.isAgg22
 have z3 := Try.sizeOf22
 unfold natC
 rw [Op.equalIn]
 simp only [Sem.run_bind, run_underlying Try.underlying24, Result.andThen_ok]
 simp only [Std.Legacy.Range.forIn_eq_forIn_range', Std.Legacy.Range.size, Nat.sub_zero, Nat.add_sub_cancel, Nat.div_one, List.range'_succ, List.range'_zero, List.forIn_cons, List.forIn_nil]
 go_simp
theorem part_lkn (N : Nat) (z : Int) (w : World) : (part 24 (lkC N z) 0).run Try.prog w = .ok (.agg (natC N)) w := by
 unfold lkC natC
 kernel_rfl
theorem part_lkz (N : Nat) (z : Int) (w : World) : (part 3 (lkC N z) 4).run Try.prog w = .ok (.int .i64 z) w := by
 unfold lkC
 kernel_rfl
theorem equal_link (N : Nat) (z : Int) (w : World) : (Op.equalIn 10000 69 (.agg (lkC N z)) (.agg (lkC N z))).run Try.prog w = .ok true w := by
 rw [run_equalIn_struct w 9999 _ _ _ (by kernel_rfl) (by kernel_rfl)]
 simp only [Program.fieldsOf, Try.underlying69, Op.eqFields]
 simp [Sem.run_bind, part_lkn, part_lkz, equal_natR, run_equalIn_int _ _ _ _ _ _ _ Try.underlying3]
theorem exec_neq_link {o : Oper} {ρ : Operand → Value} (x y : Operand) (u : TypeId) (ho : o.op = .binOp .neq 69 x y u) (N : Nat) (z : Int) (hx : ρ x = .agg (lkC N z)) (hy : ρ y = .agg (lkC N z)) (w : World) :
  (execOp ρ o).run Try.prog w = .ok (.value (.bool false)) w := by
 unfold execOp
 simp only [ho, hx, hy]
 simp [run_eqGuard_agg _ _ _ _ _ _ _ (show Try.prog.eqGuardType Try.prog.depth 69 = false by kernel_rfl), run_neq_struct, equal_link]
end Go.Proofs.Ytcgeimbfijpocaa
/- group's decimal: the natural of decimal digits. -/
namespace Go.Proofs.Ytcgeimbfijpocaa
open Go.RowKit
/-- The natural of digits, by tens. -/
def dcN (l : List UInt8) : Nat → Nat
 | 0 => 0
 | k + 1 => dcN l k * 2 ^ 3 + dcN l k * 2 ^ 1 + (yb l k - 48)
theorem wrap_byte (n : Nat) (h : n < 256) : IntKind.i64.wrap (n : Int) = (n : Int) := by rw [IntKind.wrap_i64]; omega
end Go.Proofs.Ytcgeimbfijpocaa
/- group's written: parameters by their digits; the three groups that are given. -/
namespace Go.Proofs.Ytcgeimbfijpocaa
open Go.RowKit
/-- Texts one behind the other. -/
def sxC (n : Nat) (f : Nat → List UInt8) : Array Value := Array.ofFn (n := n) fun i => .string ⟨(f i).toArray⟩
theorem sxC_get (n : Nat) (f : Nat → List UInt8) (i off : Nat) (h : i < n) (ho : off = i) : (sxC n f)[off]? = some (.string ⟨(f i).toArray⟩) := by subst ho; simp [sxC, h]
theorem info_lkx : (Try.prog.info? 69).map (fun i => (i.zero, i.size, i.bytes)) = some (some (.agg #[.int .u64 0, .int .u64 0, .int .u64 0, .int .u64 0, .int .i64 0]), 5, 40) := by kernel_rfl
theorem info_lkb : ∃ i, Try.prog.info? 69 = some i ∧ i.zero = some (.agg #[.int .u64 0, .int .u64 0, .int .u64 0, .int .u64 0, .int .i64 0]) ∧ i.size = 5 ∧ i.bytes = 40 := by
 cases hi : Try.prog.info? 69 with
 | none => have := info_lkx; rw [hi] at this; cases this
 | some i =>
  have h := info_lkx
  rw [hi] at h
  simp only [Option.map_some, Option.some.injEq, Prod.mk.injEq] at h
  exact ⟨i, rfl, h.1, h.2.1, h.2.2⟩
theorem info_strx : (Try.prog.info? 9).map (fun i => (i.zero, i.size)) = some (some (.string ⟨#[]⟩), 1) := by kernel_rfl
theorem info_str' : ∃ i, Try.prog.info? 9 = some i ∧ i.zero = some (.string ⟨#[]⟩) ∧ i.size = 1 := by
 cases hi : Try.prog.info? 9 with
 | none => have := info_strx; rw [hi] at this; cases this
 | some i =>
  have h := info_strx
  rw [hi] at h
  simp only [Option.map_some, Option.some.injEq, Prod.mk.injEq] at h
  exact ⟨i, rfl, h.1, h.2⟩
theorem size1tint : (Try.prog.info? 3).map (·.size) = some 1 := by kernel_rfl
/-- Up to a place, and nothing behind it. -/
def upN (V : Nat → Nat) (k i : Nat) : Nat := if i < k then V i else 0
def upZ (V : Nat → Int) (k i : Nat) : Int := if i < k then V i else 0
theorem upN_next (V : Nat → Nat) (k i : Nat) : upN V (k + 1) i = if i = k then V k else upN V k i := by
 unfold upN
 by_cases h : i = k
 ·subst h; rw [if_pos (by omega), if_pos rfl]
 ·rw [if_neg h]
  by_cases h2 : i < k
  ·rw [if_pos h2, if_pos (by omega)]
  ·rw [if_neg h2, if_neg (by omega)]
theorem upZ_next (V : Nat → Int) (k i : Nat) : upZ V (k + 1) i = if i = k then V k else upZ V k i := by
 unfold upZ
 by_cases h : i = k
 ·subst h; rw [if_pos (by omega), if_pos rfl]
 ·rw [if_neg h]
  by_cases h2 : i < k
  ·rw [if_pos h2, if_pos (by omega)]
  ·rw [if_neg h2, if_neg (by omega)]
/-- Digits alone, and not too many. -/
def DigS (l : List UInt8) : Prop := l.length < 9223372036854775808 ∧ ∀ i, i < l.length → 48 ≤ yb l i
def dig? (l : List UInt8) : Bool := l.all fun b => decide (48 ≤ b.toNat)
theorem digS_of (l : List UInt8) (hl : l.length < 9223372036854775808) (h : dig? l = true) : DigS l := by
 refine ⟨hl, fun i hi => ?_⟩
 unfold dig? at h
 rw [List.all_eq_true] at h
 have := h l[i] (List.getElem_mem hi)
 unfold yb
 simpa [hi] using this
end Go.Proofs.Ytcgeimbfijpocaa
