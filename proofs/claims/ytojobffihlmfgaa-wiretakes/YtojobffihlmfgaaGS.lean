/- mont's powers: what it lays, and the closure that it hands back. -/
import Derived.Test.YtojobffihlmfgaaGR
import Derived.Test.YtojobffihlmfgaaGB
namespace Go.Proofs.Ytojobffihlmfgaa
open Go.RowKit
end Go.Proofs.Ytojobffihlmfgaa
/- mont's digitCount: how many digits the longest of naturals has. -/
namespace Go.Proofs.Ytojobffihlmfgaa
open Go.RowKit
theorem exec_len_s {P : Program} {o : Oper} {ρ : Operand → Value} (t : TypeId) (x : Operand) (ho : o.op = .call { callee := .builtin .len, args := #[x], argTypes := #[t] }) (ab : Option Addr) (n c : Nat) (hx : ρ x = .slice ab n c) (hu : P.underlying t = some (.slice (P.elem t))) (w : World) :
  (execOp ρ o).run P w = .ok (.value (.int .i64 n)) w := by
 unfold execOp
 simp only [ho]
 simp [resolve, invoke, builtin, hx, run_len_slice w t _ ab n c hu, goInt]
theorem exec_sub_in {P : Program} {o : Oper} {ρ : Operand → Value} (t : TypeId) (x y : Operand) (u : TypeId) (ho : o.op = .binOp .sub t x y u) (n m : Nat) (hx : ρ x = .int .i64 n) (hy : ρ y = .int .i64 m) (hm : m ≤ n) (h : n < 9223372036854775808) (w : World) :
  (execOp ρ o).run P w = .ok (.value (.int .i64 ((n - m : Nat) : Int))) w := by
 unfold execOp
 simp only [ho, hx, hy]
 simp [go_sem]
 rw [IntKind.wrap_i64]
 omega
/-- The naturals that a slice tells. -/
structure NatsAt (w : World) (ab : Option Addr) (n : Nat) (e : Nat → Nat) (gb ob : Nat) (bcs : Array Value) (tb : TypeId) : Prop where
 at' : n = 0 ∨ (ab = some ⟨gb, ob, none⟩ ∧ RowR w gb bcs tb ∧ ∀ i, i < n → ∀ j v, (natC (e i)).toList[j]? = some v → bcs[ob + i * 4 + j]? = some v)
 lt : ∀ i, i < n → e i < 2 ^ 256
theorem NatsAt.on {w w2 : World} {ab : Option Addr} {n : Nat} {e : Nat → Nat} {gb ob : Nat} {bcs : Array Value} {tb : TypeId} (h : NatsAt w ab n e gb ob bcs tb) {S : List Nat} (hk : Kept S w w2) (hS : ∀ x ∈ S, w.heap.size ≤ x) : NatsAt w2 ab n e gb ob bcs tb :=
 ⟨h.at'.imp id fun ⟨h1, h2, h3⟩ => ⟨h1, hk.rowR h2 fun hm => Nat.lt_irrefl _ (Nat.lt_of_lt_of_le h2.lt (hS _ hm)), h3⟩, h.lt⟩
theorem NatsAt.below {w w2 : World} {ab : Option Addr} {n : Nat} {e : Nat → Nat} {gb ob : Nat} {bcs : Array Value} {tb : TypeId} (h : NatsAt w ab n e gb ob bcs tb) (hb : Below w.heap.size w w2) : NatsAt w2 ab n e gb ob bcs tb :=
 ⟨h.at'.imp id fun ⟨h1, h2, h3⟩ => ⟨h1, h2.belowAll hb, h3⟩, h.lt⟩
/-- The bits of the longest. -/
def mxL (e : Nat → Nat) : Nat → Nat
 | 0 => 0
 | k + 1 => max (mxL e k) (bitLen (e k))
end Go.Proofs.Ytojobffihlmfgaa
/- Plain mathematics: a product of powers, digit by digit. -/
namespace Go.Proofs.Ytojobffihlmfgaa
/-- A product. -/
def prd (f : Nat → Nat) : Nat → Nat
 | 0 => 1
 | k + 1 => prd f k * f k
/-- The form of a natural. -/
def fm (M X : Nat) : Nat := X * 2 ^ 256 % M
/-- The product behind t turns, of c digits. -/
def xo (b e : Nat → Nat) (n c t : Nat) : Nat := prd (fun i => b i ^ (e i / 2 ^ (4 * (c - t)))) n
/-- The product inside a turn. -/
def xi (b e : Nat → Nat) (n c t k : Nat) : Nat := xo b e n c t ^ 16 * prd (fun i => b i ^ (e i / 2 ^ (4 * (c - 1 - t)) % 16)) k
end Go.Proofs.Ytojobffihlmfgaa
/- Plain mathematics of the laws of layer 3: powers, what is left of them by M. -/
namespace Go.Proofs.Ytojobffihlmfgaa
/-- The exponents of MontAdds: two limbs, the higher one without its lowest 8 bits. -/
def ex2 (a b : Nat) : Nat := a + b / 256 * 18446744073709551616
end Go.Proofs.Ytojobffihlmfgaa
