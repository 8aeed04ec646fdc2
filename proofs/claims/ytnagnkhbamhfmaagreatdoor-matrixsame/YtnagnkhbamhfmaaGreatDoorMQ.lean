import Derived.Test.YtnagnkhbamhfmaaGreatDoorGT
namespace Go.Proofs.YtnagnkhbamhfmaaGreatDoor
set_option linter.all false
open Go.RowKit
theorem Z4 {P:Program}{o:Oper}{ρ:Operand->Value}(t:TypeId)(x y:Operand)(u:TypeId)(ho:o.op= .binOp .geq t x y u)(n m:Int)(hx:ρ x= .int .i64 n)(hy:ρ y= .int .i64 m)(b:Bool)(hb:decide (m<=n)=b)(w:World):
  (execOp ρ o).run P w= .ok (.value (.bool b)) w:=by
 subst hb;unfold execOp;simp only[ho,hx,hy];simp[go_sem]
theorem NG (z:Int)(h1: -9223372036854775808<=z)(h2:z<9223372036854775808):IntKind.i64.wrap z=z:=by
 rw[IntKind.wrap_i64];omega
theorem RX (M:Nat)(h:M<9223372036854775808):MH M=(M:Int)/\MJ M=true:=by
 unfold MH MJ;rw[if_pos h,decide_eq_true h];exact⟨rfl,rfl⟩
end Go.Proofs.YtnagnkhbamhfmaaGreatDoor
