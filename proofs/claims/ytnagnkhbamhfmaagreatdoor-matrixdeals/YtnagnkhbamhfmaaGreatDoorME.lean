import Derived.Test.YtnagnkhbamhfmaaGreatDoorMD
set_option maxRecDepth 100000
set_option maxHeartbeats 8000000
namespace Go.Proofs.YtnagnkhbamhfmaaGreatDoor
set_option linter.all false
open Go.RowKit
theorem Md {w:World}{base b2:Nat}{e:TypeId}{k:Nat}{v:Value}{n:Nat}{xs:List Value}(h:w.ownsRow base e k v n xs)(hb:b2<=base):w.ownsRow b2 e k v n xs:=by
 obtain⟨hl,h1|⟨g,cap,cur,e1,h2,h3⟩⟩:=h
 ·exact⟨hl,.inl h1⟩
 ·exact⟨hl,.inr ⟨g,cap,cur,e1,f_ hb h2,h3⟩⟩
def wj {Q:Nat}[NeZero Q](w:World)(base:Nat)(v:Value)(L:List (Fin Q)):Prop:=SB w base v L.length (fun i=>(pco L i).val)
theorem wj.below {Q:Nat}[NeZero Q]{w w':World}{base:Nat}{v:Value}{L:List (Fin Q)}(h:wj w base v L)(hb:Below w.heap.size w w'):wj w' base v L:=own_below h hb
theorem yO (a:Option Addr)(n c k:Nat)(hk:k=1):Instr.fill (fun i=>some (i*k,k)) ((Array.range (1*k)).map ((Value.slice none 0 0).cells[· %(Value.slice none 0 0).cells.size]!)) [(0,.slice a n c)]=some #[.slice a n c]:=by
 subst hk
 kernel_rfl
def upS (P:Nat->Value)(m:Nat)(v:Value):Nat->Value:=fun j=>if j=m then v else P j
theorem Rd (P:Nat->Value)(m:Nat)(v:Value):upS P m v m=v:=j_ rfl
theorem Px (P:Nat->Value){m j:Nat}{v:Value}(h:j<m):upS P m v j=P j:=i_ (by omega)
def Ly (w:World)(base:Nat)(S:Nat->Value)(N:Nat->Nat)(V:Nat->Nat->Nat)(m:Nat)(v:Value):Prop:=
 ∀j,j<m->SB w base (S j) (N j) (V j)/\ ∀b,v.ownBlock=some b->(S j).ownBlock≠some b
section
variable {w w':World}{base m:Nat}{S:Nat->Value}{N:Nat->Nat}{V:Nat->Nat->Nat}{v v':Value}
theorem Ly.below (h:Ly w base S N V m v)(hb:Below w.heap.size w w'):Ly w' base S N V m v:=fun j hj=>⟨own_below (h j hj).1 hb,(h j hj).2⟩
theorem Ly.add (h:Ly w base S N V m v){x:Value}(hx:SB w base x (N m) (V m))(hd: ∀b,v.ownBlock=some b->x.ownBlock≠some b):Ly w base (upS S m x) N V (m+1) v:=fun j hj=>by
 by_cases e:j=m
 ·subst e;rw[Rd];exact⟨hx,hd⟩
 ·rw[Px S (show j<m by omega)];exact h j (by omega)
end
theorem AD {k:Nat}{e:TypeId}{w:World}{bs:Nat}{v:Value}{n:Nat}{C D:Nat->Array Value}(h:Te k e w bs v n C)(he: ∀i,i<n->C i=D i):Te k e w bs v n D:=by
 unfold Te;rw[<-Vl he];exact h
open Go.ChangeShapes Go.WideShapes Go.ChangeAt Go.RowKit
structure PtX where
 z:Int
 ay:Option Addr
 ny:Nat
 cy:Nat
 Y:Nat->Nat
 gy:Nat
 oy:Nat
 ycs:Array Value
 ty:TypeId
instance:Inhabited PtX:=⟨⟨0,none,0,0,fun _=>0,0,0,#[],0⟩⟩
section
variable {Q:Nat}[NeZero Q]{g gr gf P G:Nat}{w:World}
end
section
variable {Q:Nat}[NeZero Q]{P G:Nat}
end
end Go.Proofs.YtnagnkhbamhfmaaGreatDoor
