import Derived.Test.YtobblihganocoaaGreatDoorGT
namespace Go.Proofs.YtobblihganocoaaGreatDoor
set_option linter.unusedVariables false
open Go.RowKit
theorem ZR {P:Program}{o:Oper}{ρ:Operand->Value}(t:TypeId)(x y:Operand)(u:TypeId)(ho:o.op= .binOp .geq t x y u)(n m:Int)(hx:ρ x= .int .i64 n)(hy:ρ y= .int .i64 m)(b:Bool)(hb:decide (m<=n)=b)(w:World):
  (execOp ρ o).run P w= .ok (.value (.bool b)) w:=by
 subst hb
 unfold execOp
 simp only[ho,hx,hy]
 simp[go_sem]
theorem QB (M:Nat)(h:M<9223372036854775808):Lp M=(M:Int)/\Lq M=true:=by
 unfold Lp Lq
 rw[if_pos h,decide_eq_true h]
 exact⟨rfl,rfl⟩