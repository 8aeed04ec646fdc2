/- wide.InvMod. -/
import Derived.Test.YteddgjoailpgaabGI
import Derived.Test.YteddgjoailpgaabGH
namespace Go.Proofs.Yteddgjoailpgaab
open Go.RowKit
/-- The rows that InvMod's loop holds on to. -/
structure Held (wr w : World) (g3 g4 g6 g7 g8 g9 g10 M L S b f : Nat) : Prop where
 m : Row wr g3 (natC M) 24
 z : Row wr g4 (natC 0) 24
 one : Row wr g6 (natC 1) 24
 l : Row wr g7 (natC L) 24
 s : Row wr g8 (natC S) 24
 b : Row wr g9 (natC b) 24
 f : Row wr g10 (natC f) 24
 below : Below w.heap.size w wr
theorem neq_true {S X : Nat} (h : S ≠ X) (hS : S < 2 ^ 256) (hX : X < 2 ^ 256) : (!decide (S % 2 ^ 256 = X % 2 ^ 256)) = true := by
 rw [Nat.mod_eq_of_lt hS, Nat.mod_eq_of_lt hX, decide_eq_false h]; rfl
theorem eql_false {S X : Nat} (h : S ≠ X) (hS : S < 2 ^ 256) (hX : X < 2 ^ 256) : decide (S % 2 ^ 256 = X % 2 ^ 256) = false := by
 rw [Nat.mod_eq_of_lt hS, Nat.mod_eq_of_lt hX, decide_eq_false h]
end Go.Proofs.Yteddgjoailpgaab
/- InvMod of any two naturals; a natural written by its four limbs. -/
namespace Go.Proofs.Yteddgjoailpgaab
open Go.RowKit
theorem sub_back (A B M : Nat) (h0 : 0 < M) : subZ ((A + B) % M) B M = A % M := by
 unfold subZ
 rw [if_neg (by omega), Nat.mod_mod]
 have hb := Nat.mod_lt B h0
 have hd := Nat.div_add_mod B M
 rw [Nat.mod_add_mod, show A + B + (M - B % M) = A + M * (B / M + 1) by rw [Nat.mul_add]; omega, Nat.add_mul_mod_self_left]
theorem over_sum (A B C M : Nat) : (C * A % M + C * B % M) % M = C * ((A + B) % M) % M := by
 rw [← Nat.add_mod, ← Nat.mul_add, Nat.mul_mod C ((A + B) % M), Nat.mod_mod, ← Nat.mul_mod]
theorem exec_lit4 {o : Oper} {ρ : Operand → Value} {x0 x1 x2 x3 : Operand} {C : Nat} (ho : o.op = .build 24 #[(0, x0), (1, x1), (2, x2), (3, x3)]) (a b c d : Nat) (h0 : ρ x0 = .int .u64 a) (h1 : ρ x1 = .int .u64 b) (h2 : ρ x2 = .int .u64 c) (h3 : ρ x3 = .int .u64 d)
  (hC : natC C = #[.int .u64 a, .int .u64 b, .int .u64 c, .int .u64 d]) (w : World) : (execOp ρ o).run Try.prog w = .ok (.value (.agg (natC C))) w := by
 unfold execOp
 simp only [ho, List.map_toArray, List.map_cons, List.map_nil, h0, h1, h2, h3, Sem.run_bind]
 rw [run_build w 24 _ (natC C) (by rw [hC]; kernel_rfl)]
 rfl
end Go.Proofs.Yteddgjoailpgaab
