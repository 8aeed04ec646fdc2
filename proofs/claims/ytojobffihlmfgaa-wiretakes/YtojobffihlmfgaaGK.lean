/- Plain mathematics: Montgomery's product. -/
import Derived.Test.YtojobffihlmfgaaGH
import Derived.Test.YtojobffihlmfgaaGF
import Derived.Test.YtojobffihlmfgaaGJ
import Derived.Test.YtojobffihlmfgaaGB
namespace Go.Proofs.Ytojobffihlmfgaa
/-- The inverse of 2^256. -/
def ri (M : Nat) : Nat := invZ (2 ^ 256) M
/-- A product, divided by 2^256. -/
def mt (A B M : Nat) : Nat := A * B * ri M % M
/-- What holds behind k turns. -/
def Mi (A B M k L v : Nat) : Prop := L < 2 ^ 256 ∧ ∃ q, q < 2 ^ (64 * k) ∧ (L + 2 ^ 256 * v) * 2 ^ (64 * k) = A % 2 ^ (64 * k) * B + q * M
/-- The lower limbs of one number, the upper ones of another one. -/
def mixL (S L j : Nat) : Nat := S % 2 ^ (64 * j) + 2 ^ (64 * j) * (L / 2 ^ (64 * j))
end Go.Proofs.Ytojobffihlmfgaa
/- A ring as a row of 13 cells; timesMore. -/
namespace Go.Proofs.Ytojobffihlmfgaa
open Go.RowKit
/-- The cells of a ring: the natural, what makes the lowest limb one less than 2^64, the form of 1, the form of 2^256. -/
def rgC (M mi one sq : Nat) : Array Value := #[.int .u64 (lm M 0), .int .u64 (lm M 1), .int .u64 (lm M 2), .int .u64 (lm M 3), .int .u64 mi, .int .u64 (lm one 0), .int .u64 (lm one 1), .int .u64 (lm one 2), .int .u64 (lm one 3), .int .u64 (lm sq 0), .int .u64 (lm sq 1), .int .u64 (lm sq 2), .int .u64 (lm sq 3)]
theorem natC_list (N : Nat) : (natC N).toList = [.int .u64 (lm N 0), .int .u64 (lm N 1), .int .u64 (lm N 2), .int .u64 (lm N 3)] := rfl
theorem part4 {cs : Array Value} {off N : Nat} (h0 : cs[off + 0]? = some (.int .u64 (lm N 0))) (h1 : cs[off + 1]? = some (.int .u64 (lm N 1))) (h2 : cs[off + 2]? = some (.int .u64 (lm N 2))) (h3 : cs[off + 3]? = some (.int .u64 (lm N 3))) :
  ∀ j v, (natC N).toList[j]? = some v → cs[off + j]? = some v := by
 intro j v hv
 rw [natC_list] at hv
 match j, hv with
 | 0, hv => rw [h0]; exact hv
 | 1, hv => rw [h1]; exact hv
 | 2, hv => rw [h2]; exact hv
 | 3, hv => rw [h3]; exact hv
 | j + 4, hv => simp at hv
end Go.Proofs.Ytojobffihlmfgaa
/- mont's times: a product, divided by 2^256, in the ring. -/
namespace Go.Proofs.Ytojobffihlmfgaa
open Go.RowKit
theorem exec_add_in {P : Program} {o : Oper} {ρ : Operand → Value} (t : TypeId) (x y : Operand) (u : TypeId) (ho : o.op = .binOp .add t x y u) (n m : Nat) (hx : ρ x = .int .i64 n) (hy : ρ y = .int .i64 m) (h : n + m < 9223372036854775808) (w : World) :
  (execOp ρ o).run P w = .ok (.value (.int .i64 ((n + m : Nat) : Int))) w := by
 unfold execOp
 simp only [ho, hx, hy]
 simp [go_sem]
 rw [IntKind.wrap_i64]
 omega
theorem exec_eql_k {P : Program} {o : Oper} {ρ : Operand → Value} (k : IntKind) (t : TypeId) (x y : Operand) (u : TypeId) (ho : o.op = .binOp .eql t x y u) (n m : Int) (hx : ρ x = .int k n) (hy : ρ y = .int k m) (b : Bool) (hb : decide (n = m) = b) (w : World) :
  (execOp ρ o).run P w = .ok (.value (.bool b)) w := by
 subst hb
 unfold execOp
 simp only [ho, hx, hy]
 simp [eqGuard, go_sem]
 rfl
end Go.Proofs.Ytojobffihlmfgaa
