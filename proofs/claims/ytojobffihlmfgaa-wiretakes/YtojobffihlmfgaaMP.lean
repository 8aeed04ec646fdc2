/- bits.Div64 for any divisor, with what is left; bits.LeadingZeros64 of any. -/
import Derived.Test.YtojobffihlmfgaaWDiv64
import Derived.Test.YtojobffihlmfgaaGS
namespace Go.Proofs.Ytojobffihlmfgaa
open Go.RowKit
section
variable {P : Program} {o : Oper} {ρ : Operand → Value}
end
end Go.Proofs.Ytojobffihlmfgaa
/- mont's Prod: a product of powers. -/
namespace Go.Proofs.Ytojobffihlmfgaa
open Go.RowKit
theorem exec_neq_k {P : Program} {o : Oper} {ρ : Operand → Value} (k : IntKind) (t : TypeId) (x y : Operand) (u : TypeId) (ho : o.op = .binOp .neq t x y u) (n m : Int) (hx : ρ x = .int k n) (hy : ρ y = .int k m) (b : Bool) (hb : (!decide (n = m)) = b) (w : World) :
  (execOp ρ o).run P w = .ok (.value (.bool b)) w := by
 subst hb
 unfold execOp
 simp only [ho, hx, hy]
 simp [eqGuard, go_sem]
 rfl
theorem exec_gt_i {P : Program} {o : Oper} {ρ : Operand → Value} (t : TypeId) (x y : Operand) (u : TypeId) (ho : o.op = .binOp .gtr t x y u) (n m : Int) (hx : ρ x = .int .i64 n) (hy : ρ y = .int .i64 m) (b : Bool) (hb : decide (m < n) = b) (w : World) :
  (execOp ρ o).run P w = .ok (.value (.bool b)) w := by
 subst hb
 unfold execOp
 simp only [ho, hx, hy]
 simp [go_sem]
/-- Where the rows lie. -/
structure PrF (hs g0 g6 g9 gr gv gq gp gu gw : Nat) : Prop where
 n0 : g0 ∉ [gu, gq, g9]
 nr : gr ∉ [gu, gq, g9]
 nv : gv ∉ [gu, gq, g9]
 np : gp ∉ [gu, gq, g9]
 nw : gw ∉ [gu, gq, g9]
 n6 : g6 ∉ [gu, gq, g9]
 u9 : gu ∉ [g9]
 q9 : gq ∉ [g9]
 uq : gu ≠ gq
 nd : [gu, gq, g9].Nodup
 new : ∀ x ∈ [gu, gq, g9], hs ≤ x
 l0 : g0 < hs
 l6 : hs ≤ g6
section
variable {wr w w2 : World} {n M : Nat} {b u u' : Nat → Nat} {P P' g0 g6 g9 gr gv gq gp gu gw : Nat} {bv : Value}
end
/-- What Prod is asked. -/
structure PrQ (n M : Nat) (b e : Nat → Nat) (ab ae : Option Addr) (gb ob ge oe : Nat) (bcs ecs : Array Value) (tb te : TypeId) (w : World) : Prop where
 n64 : n ≤ 64
 m : M < 2 ^ 256
 odd : M % 2 = 1
 two : 2 ≤ M
 bases : NatsAt w ab n b gb ob bcs tb
 exps : NatsAt w ae n e ge oe ecs te
end Go.Proofs.Ytojobffihlmfgaa
