/- InvMod of any two naturals; a natural written by its four limbs. -/
import Derived.Test.YtcgeimbfijpocaaWInv
import Derived.Test.YtcgeimbfijpocaaGH
namespace Go.Proofs.Ytcgeimbfijpocaa
open Go.RowKit
theorem winv_any (A M : Nat) (w : World) (hA : A < 2 ^ 256) (hM : M < 2 ^ 256) :
  Calls Try.prog 45 #[.agg (natC A), .agg (natC M)] w fun e w' => e = .returned (.tuple #[.agg (natC (invZ A M)), .int .i64 (errV A M)]) ∧ Below w.heap.size w w' := by
 by_cases h2 : M < 2
 ·unfold invZ errV
  rw [if_pos h2, if_pos h2]
  exact winv_arg A M w h2
 ·exact winv_more A M w hA hM (by omega)
theorem sub_back (A B M : Nat) (h0 : 0 < M) : subZ ((A + B) % M) B M = A % M := by
 unfold subZ
 rw [if_neg (by omega), Nat.mod_mod]
 have hb := Nat.mod_lt B h0
 have hd := Nat.div_add_mod B M
 rw [Nat.mod_add_mod, show A + B + (M - B % M) = A + M * (B / M + 1) by rw [Nat.mul_add]; omega, Nat.add_mul_mod_self_left]
theorem over_sum (A B C M : Nat) : (C * A % M + C * B % M) % M = C * ((A + B) % M) % M := by
 rw [← Nat.add_mod, ← Nat.mul_add, Nat.mul_mod C ((A + B) % M), Nat.mod_mod, ← Nat.mul_mod]
theorem exec_lit4 {o : Oper} {ρ : Operand → Value} {x0 x1 x2 x3 : Operand} {C : Nat} (ho : o.op = .build 24 #[(0, x0), (1, x1), (2, x2), (3, x3)]) (a b c d : Nat) (h0 : ρ x0 = .int .u64 a) (h1 : ρ x1 = .int .u64 b) (h2 : ρ x2 = .int .u64 c) (h3 : ρ x3 = .int .u64 d)
  (hC : natC C = #[.int .u64 a, .int .u64 b, .int .u64 c, .int .u64 d]) (w : World) : (execOp ρ o).run Try.prog w = .ok (.value (.agg (natC C))) w := by
 unfold execOp
 simp only [ho, List.map_toArray, List.map_cons, List.map_nil, h0, h1, h2, h3, Sem.run_bind]
 rw [run_build w 24 _ (natC C) (by rw [hC]; kernel_rfl)]
 rfl
end Go.Proofs.Ytcgeimbfijpocaa
