import Derived.Test.YtnagnkhbamhfmaaGreatDoorSB
import Derived.Test.YtnagnkhbamhfmaaGreatDoorCW
import Derived.Test.YtnagnkhbamhfmaaGreatDoorWX
namespace Go.Proofs.YtnagnkhbamhfmaaGreatDoor
set_option linter.all false
open Go.RowKit
theorem Fz:Tryz.prog.underlying 30=some (.slice (Tryz.prog.elem 30)):=by kernel_rfl
theorem xL (w:World):(zeroValue 3).run Tryz.prog w= .ok (.int .i64 0) w:=by kernel_rfl
theorem wZ (w:World):(zeroValue 22).run Tryz.prog w= .ok (.slice none 0 0) w:=by kernel_rfl
section
variable {P:Program}{ops:Array Oper}{C:World->Prop}{Q:Act->World->Prop}{fn:Nat->Bool}{i:Nat}{L:DL}{a:Act}{w:World}{o:Oper}
end
structure VsAt (w:World)(ab:Option Addr)(n:Nat)(S:Nat->Value)(gb ob:Nat)(bcs:Array Value)(tb:TypeId):Prop where
 at':n=0∨(ab=some ⟨gb,ob,none⟩/\WV w gb bcs tb/\ ∀i,i<n->bcs[ob+i*1]?=some (S i))
theorem VsAt.below {w w2:World}{ab:Option Addr}{n:Nat}{S:Nat->Value}{gb ob:Nat}{bcs:Array Value}{tb:TypeId}(h:VsAt w ab n S gb ob bcs tb)(hb:Below w.heap.size w w2):VsAt w2 ab n S gb ob bcs tb:=
 ⟨h.at'.imp id fun⟨h1,h2,h3⟩=>⟨h1,h2.belowAll hb,h3⟩⟩
def rsO (n r:Nat):Nat:=if n=r then 0 else 0+r*1
def M4 (w:World)(v:Value)(n:Nat)(F:Nat->Nat):Prop:= ∃ab c gb ob bcs tb,v= .slice ab n c/\NatsAt w ab n F gb ob bcs tb
theorem M4.below {w w2:World}{v:Value}{n:Nat}{F:Nat->Nat}(h:M4 w v n F)(hb:Below w.heap.size w w2):M4 w2 v n F:=by
 obtain⟨ab,c,gb,ob,bcs,tb,h1,h2⟩:=h;exact⟨ab,c,gb,ob,bcs,tb,h1,h2.below hb⟩
section
variable {Q:Nat}[NeZero Q]{g gr gf P G:Nat}{w:World}
end
end Go.Proofs.YtnagnkhbamhfmaaGreatDoor
