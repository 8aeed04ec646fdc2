import Derived.Test.YtijgjbbihgjkmaaGreatDoorGT
namespace Go.Proofs.YtijgjbbihgjkmaaGreatDoor
set_option linter.unusedVariables false
open Go.RowKit
theorem exec_geq_i {P:Program}{o:Oper}{ρ:Operand->Value}(t:TypeId)(x y:Operand)(u:TypeId)(ho:o.op= .binOp .geq t x y u)(n m:Int)(hx:ρ x= .int .i64 n)(hy:ρ y= .int .i64 m)(b:Bool)(hb:decide (m<=n)=b)(w:World):
  (execOp ρ o).run P w= .ok (.value (.bool b)) w:=by
 subst hb
 unfold execOp
 simp only[ho,hx,hy]
 simp[go_sem]
theorem low_small (M:Nat)(h:M<9223372036854775808):lowI M=(M:Int)/\lowB M=true:=by
 unfold lowI lowB
 rw[if_pos h,decide_eq_true h]
 exact⟨rfl,rfl⟩
end Go.Proofs.YtijgjbbihgjkmaaGreatDoor
