/- One operation on integers, by its value: for the walk of a drawn region. -/
import Derived.Test.YtchiiphmpkmloaaMixLaws
import Derived.Test.YtchiiphmpkmloaaVal
namespace Go.Proofs.Ytchiiphmpkmloaa
open Go.RowKit
section
variable {P : Program} {o : Oper} {ρ : Operand → Value}
theorem exec_quo_i (t : TypeId) (x y : Operand) (u : TypeId) (ho : o.op = .binOp .quo t x y u) (n m : Nat) (hx : ρ x = .int .i64 n) (hy : ρ y = .int .i64 m) (hm : 0 < m) (hn : n < 9223372036854775808) (w : World) :
  (execOp ρ o).run P w = .ok (.value (.int .i64 ((n / m : Nat) : Int))) w := by
 have h0 : ¬ (m = 0) := by omega
 have h2 : n / m ≤ n := Nat.div_le_self _ _
 have h3 := wrap_i64 (n / m) (by omega)
 rw [Int.natCast_ediv] at h3 ⊢
 unfold execOp
 simp only [ho, hx, hy]
 simp [go_sem]
 rw [if_neg h0, h3]
theorem exec_rem_i (t : TypeId) (x y : Operand) (u : TypeId) (ho : o.op = .binOp .rem t x y u) (n m : Nat) (hx : ρ x = .int .i64 n) (hy : ρ y = .int .i64 m) (hm : 0 < m) (w : World) :
  (execOp ρ o).run P w = .ok (.value (.int .i64 ((n % m : Nat) : Int))) w := by
 have h0 : ¬ (m = 0) := by omega
 unfold execOp
 simp only [ho, hx, hy]
 simp [go_sem]
 rw [if_neg h0, Int.tmod_eq_emod_of_nonneg (by omega)]
theorem exec_shr_i (t : TypeId) (x y : Operand) (u : TypeId) (ho : o.op = .binOp .shr t x y u) (n s : Nat) (hx : ρ x = .int .i64 n) (hy : ρ y = .int .i64 s) (hs : s < 64) (w : World) :
  (execOp ρ o).run P w = .ok (.value (.int .i64 ((n / 2 ^ s : Nat) : Int))) w := by
 unfold execOp
 simp only [ho, hx, hy]
 simp [go_sem]
theorem exec_bits_i (b : BinOp) (t : TypeId) (x y : Operand) (u : TypeId) (hb : b = .and ∨ b = .or) (ho : o.op = .binOp b t x y u) (n m : Int) (hx : ρ x = .int .i64 n) (hy : ρ y = .int .i64 m) (w : World) :
  (execOp ρ o).run P w = .ok (.value (.int .i64 (bits b .i64 n m))) w := by
 unfold execOp
 simp only [ho, hx, hy]
 rcases hb with rfl | rfl
 ·simp [go_sem]
 ·simp [go_sem]
theorem exec_shl_i (t : TypeId) (x y : Operand) (u : TypeId) (ho : o.op = .binOp .shl t x y u) (n s : Nat) (hx : ρ x = .int .i64 n) (hy : ρ y = .int .i64 s) (hs : s < 64) (w : World) :
  (execOp ρ o).run P w = .ok (.value (.int .i64 (IntKind.i64.wrap ((n : Int) * 2 ^ s)))) w := by
 unfold execOp
 simp only [ho, hx, hy]
 simp [go_sem]
theorem exec_add_i (t : TypeId) (x y : Operand) (u : TypeId) (ho : o.op = .binOp .add t x y u) (n m : Int) (hx : ρ x = .int .i64 n) (hy : ρ y = .int .i64 m) (w : World) :
  (execOp ρ o).run P w = .ok (.value (.int .i64 (IntKind.i64.wrap (n + m)))) w := by
 unfold execOp
 simp only [ho, hx, hy]
 simp [go_sem]
theorem exec_mul_i (t : TypeId) (x y : Operand) (u : TypeId) (ho : o.op = .binOp .mul t x y u) (n m : Int) (hx : ρ x = .int .i64 n) (hy : ρ y = .int .i64 m) (w : World) :
  (execOp ρ o).run P w = .ok (.value (.int .i64 (IntKind.i64.wrap (n * m)))) w := by
 unfold execOp
 simp only [ho, hx, hy]
 simp [go_sem]
theorem exec_not (t : TypeId) (x : Operand) (ho : o.op = .unOp .not t x) (b : Bool) (hx : ρ x = .bool b) (w : World) : (execOp ρ o).run P w = .ok (.value (.bool (!b))) w := by
 unfold execOp
 simp only [ho, hx]
 simp [go_sem]
end
end Go.Proofs.Ytchiiphmpkmloaa
