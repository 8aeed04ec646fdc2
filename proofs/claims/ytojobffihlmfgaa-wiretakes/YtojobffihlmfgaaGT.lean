/- mont's Exp: a power. -/
import Derived.Test.YtojobffihlmfgaaMP
import Derived.Test.YtojobffihlmfgaaGO
namespace Go.Proofs.Ytojobffihlmfgaa
open Go.RowKit
section
variable {P : Program} {olds : Olds} {p : Nat → Nat} {W : World} {F : Act → Ct → Prop} {n : Nat} {l : List Oper} {pl : List Sp} {a : Act} {ct : Ct} {o : Oper}
end
theorem info_natz : (Try.prog.info? 51).map (fun i => (i.zero, i.size, i.bytes)) = some (some (.agg #[.int .u64 0, .int .u64 0, .int .u64 0, .int .u64 0]), 4, 32) := by kernel_rfl
theorem info_nat' : ∃ i, Try.prog.info? 51 = some i ∧ i.zero = some (.agg #[.int .u64 0, .int .u64 0, .int .u64 0, .int .u64 0]) ∧ i.size = 4 ∧ i.bytes = 32 := by
 cases hi : Try.prog.info? 51 with
 | none => have := info_natz; rw [hi] at this; cases this
 | some i =>
  have h := info_natz
  rw [hi] at h
  simp only [Option.map_some, Option.some.injEq, Prod.mk.injEq] at h
  exact ⟨i, rfl, h.1, h.2.1, h.2.2⟩
theorem lit_one (A k : Nat) (hk : k = 4) : Instr.fill (fun i => some (i * k, k)) ((Array.range (1 * k)).map ((Value.agg #[.int .u64 0, .int .u64 0, .int .u64 0, .int .u64 0]).cells[· % (Value.agg #[.int .u64 0, .int .u64 0, .int .u64 0, .int .u64 0]).cells.size]!)) [(0, .agg (natC A))] = some (natC A) := by
 subst hk
 unfold natC
 generalize lm A 0 = a0
 generalize lm A 1 = a1
 generalize lm A 2 = a2
 generalize lm A 3 = a3
 kernel_rfl
/-- Two naturals. -/
def two2 (A B i : Nat) : Nat := if i = 0 then A else B
end Go.Proofs.Ytojobffihlmfgaa
/- What must come, whatever the arguments are: the check of the laws of layer 3. -/
namespace Go.Proofs.Ytojobffihlmfgaa
open Go.RowKit
/-- A ring that New made. -/
structure RgQ (M : Nat) : Prop where
 m : M < 2 ^ 256
 odd : M % 2 = 1
 two : 2 ≤ M
end Go.Proofs.Ytojobffihlmfgaa
/- The document's functions of layer 3 that need no loop: May and Form. -/
namespace Go.Proofs.Ytojobffihlmfgaa
open Go.RowKit
end Go.Proofs.Ytojobffihlmfgaa
