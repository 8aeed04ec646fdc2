import Derived.Test.YtnagnkhbamhfmaaGreatDoorMD
set_option maxRecDepth 100000
set_option maxHeartbeats 8000000
namespace Go.Proofs.YtnagnkhbamhfmaaGreatDoor
set_option linter.all false
open Go.RowKit
def zQ {Q:Nat}[NeZero Q](w:World)(base:Nat)(v:Value)(L:List (Fin Q)):Prop:=Mn w base v L.length (fun i=>(pco L i).val)
theorem zQ.below {Q:Nat}[NeZero Q]{w w':World}{base:Nat}{v:Value}{L:List (Fin Q)}(h:zQ w base v L)(hb:Below w.heap.size w w'):zQ w' base v L:=own_below h hb
def upS (P:Nat->Value)(m:Nat)(v:Value):Nat->Value:=fun j=>if j=m then v else P j
theorem At (P:Nat->Value)(m:Nat)(v:Value):upS P m v m=v:=if_pos rfl
theorem Au (P:Nat->Value){m j:Nat}{v:Value}(h:j<m):upS P m v j=P j:=if_neg (by omega)
def Mk (w:World)(base:Nat)(S:Nat->Value)(N:Nat->Nat)(V:Nat->Nat->Nat)(m:Nat)(v:Value):Prop:=
 ∀j,j<m->Mn w base (S j) (N j) (V j)/\ ∀b,v.ownBlock=some b->(S j).ownBlock≠some b
section
variable {w w':World}{base m:Nat}{S:Nat->Value}{N:Nat->Nat}{V:Nat->Nat->Nat}{v v':Value}
theorem Mk.below (h:Mk w base S N V m v)(hb:Below w.heap.size w w'):Mk w' base S N V m v:=fun j hj=>⟨own_below (h j hj).1 hb,(h j hj).2⟩
theorem Mk.add (h:Mk w base S N V m v){x:Value}(hx:Mn w base x (N m) (V m))(hd: ∀b,v.ownBlock=some b->x.ownBlock≠some b):Mk w base (upS S m x) N V (m+1) v:=fun j hj=>by
 by_cases e:j=m
 ·subst e;rw[At];exact⟨hx,hd⟩
 ·rw[Au S (show j<m by omega)];exact h j (by omega)
end
theorem Cx {k:Nat}{e:TypeId}{w:World}{bs:Nat}{v:Value}{n:Nat}{C D:Nat->Array Value}(h:Ux k e w bs v n C)(he: ∀i,i<n->C i=D i):Ux k e w bs v n D:=by
 unfold Ux;rw[<-VL he];exact h
open Go.ChangeShapes Go.WideShapes Go.ChangeAt Go.RowKit
structure PtX where
 z:Int
 ay:Option Addr
 ny:Nat
 cy:Nat
 Y:Nat->Nat
 gy:Nat
 oy:Nat
 ycs:Array Value
 ty:TypeId
instance:Inhabited PtX:=⟨⟨0,none,0,0,fun _=>0,0,0,#[],0⟩⟩
theorem Cy {I:Nat->Int}{HB:Nat->Bool}{e:Nat}: ∀q,(∀j,j<(hsL I HB e q).length->(hsL I HB e q).getD j 0<q/\HB ((hsL I HB e q).getD j 0)=true)/\ ∀i j,i<j->j<(hsL I HB e q).length->I ((hsL I HB e q).getD i 0)≠I ((hsL I HB e q).getD j 0)
 |0=>⟨fun j hj=>absurd hj (Nat.not_lt_zero _),fun i j _ hj=>absurd hj (Nat.not_lt_zero _)⟩
 |q+1=>by
  obtain⟨h1,h2⟩:=Cy q;rw[hsL]
  split
  ·rename_i hc
   simp only[Bool.and_eq_true,Bool.not_eq_true',decide_eq_false_iff_not]at hc;obtain⟨_,ha,hb⟩:=hc;obtain⟨L,hL⟩: ∃L,hsL I HB e q=L:=⟨_,rfl⟩
   rw[hL]at h1 h2 ha ⊢
   have hlt: ∀j,j<L.length->(L++[q]).getD j 0=L.getD j 0:=fun j hj=>by
    rw[List.getD_eq_getElem?_getD,List.getD_eq_getElem?_getD,List.getElem?_append_left hj]
   have hla:(L++[q]).getD L.length 0=q:=by
    rw[List.getD_eq_getElem?_getD,List.getElem?_append_right (Nat.le_refl _),Nat.sub_self];rfl
   have hlen:(L++[q]).length=L.length+1:=by rw[List.length_append];rfl
   have hne: ∀i,i<L.length->I (L.getD i 0)≠I q:=fun i hi he=>by
    have:=FM (B:=fun j=>decide (I (L.getD j 0)=I q)) hi (decide_eq_true he);rw[ha]at this;cases this
   refine⟨fun j hj=>?_,fun i j hij hj=>?_⟩
   ·rw[hlen]at hj;by_cases e1:j<L.length
    ·rw[hlt j e1];exact⟨Nat.lt_succ_of_lt (h1 j e1).1,(h1 j e1).2⟩
    ·obtain rfl:j=L.length:=by omega
     rw[hla];exact⟨Nat.lt_succ_self _,hb⟩
   ·rw[hlen]at hj;by_cases e1:j<L.length
    ·rw[hlt j e1,hlt i (by omega)];exact h2 i j hij e1
    ·obtain rfl:j=L.length:=by omega
     rw[hla,hlt i hij];exact hne i hij
  ·exact⟨fun j hj=>⟨Nat.lt_succ_of_lt (h1 j hj).1,(h1 j hj).2⟩,h2⟩
section
variable {Q:Nat}[NeZero Q]{g gr gf P G:Nat}{w:World}
theorem Cz (f:GF P Q G)(h:GrpAt w g gr gf P Q G)(ab:Option Addr)(n c t:Nat)(S:Nat->Value)(gb ob:Nat)(bcs:Array Value)(tb:TypeId)(N:Nat->Nat)(M:Nat->Nat->Nat)(hna:VsAt w ab n S gb ob bcs tb)(hS: ∀i,i<n->Mo w (S i) (N i) (M i)):
  Calls Tryz.prog 26 #[.pointer (some ⟨g,0,none⟩),.int .i64 (t:Nat),.slice ab n c] w (Rt (.bool (Cw t P Q N M n)) w):=by
 by_cases h1:1<=t
 ·by_cases h2:t<=2
  ·by_cases hc:ccB n ((t+1:Nat):Int)=true
   ·have hc2:=hc;simp only[ccB,Bool.and_eq_true,decide_eq_true_eq]at hc2;refine(OX _ ab n c t S gb ob bcs tb N (fun k=>K0 P Q (M k) (N k)) w h1 h2 hc hna fun k hk=>?_).mono ?_
    ·obtain⟨ai,ci,gi,oi,bi,ti,e,hn⟩:=hS k hk;exact⟨ai,ci,e,fun w' hb=>S9 f (h.below hb) (hn.below hb)⟩
    ·rintro e w' ⟨rfl,hb⟩;refine⟨?_,hb⟩
     have e1:anB (fun k=> !(decide ((N k:Int)=((t+1:Nat):Int))&&K0 P Q (M k) (N k))) n=anB (fun k=> !As t P Q N M k) n:=TD fun j _=>by
      unfold As;rw[show decide ((N j:Int)=((t+1:Nat):Int))=decide (N j=t+1)from decide_eq_decide.2 (by omega)]
     unfold Cw;rw[e1,decide_eq_true h1,decide_eq_true h2,decide_eq_true (show 1<=n by omega),decide_eq_true (show n<=25 by omega),Bool.and_self,Bool.and_self,Bool.and_self,Bool.and_true]
   ·rw[Bool.not_eq_true]at hc;refine(DU _ ab n c t w h1 h2 hc).mono ?_;rintro e w' ⟨rfl,hb⟩;refine⟨?_,hb⟩
    have: ¬(1<=n/\n<=25):=fun⟨a,b⟩=>by
     have:ccB n ((t+1:Nat):Int)=true:=by
      simp only[ccB,Bool.and_eq_true,decide_eq_true_eq];omega
     rw[hc]at this;cases this
    unfold Cw;rw[show(decide (1<=n)&&decide (n<=25))=false by rw[Bool.and_eq_false_iff,decide_eq_false_iff_not,decide_eq_false_iff_not];omega,Bool.and_false,Bool.and_false,Bool.and_false]
  ·refine(Ji _ ab n c t w (by unfold lrB;rw[decide_eq_false (show ¬(t:Int)<=2 by omega),Bool.and_false])).mono ?_;rintro e w' ⟨rfl,hb⟩;exact⟨by unfold Cw;rw[decide_eq_false h2,Bool.false_and,Bool.and_false,Bool.and_false],hb⟩
 ·refine(Ji _ ab n c t w (by unfold lrB;rw[decide_eq_false (show ¬1<=(t:Int) by omega),Bool.false_and])).mono ?_;rintro e w' ⟨rfl,hb⟩;exact⟨by unfold Cw;rw[decide_eq_false h1,Bool.false_and,Bool.and_false],hb⟩
theorem JG (f:GF P Q G)(h:GrpAt w g gr gf P Q G)(ab:Option Addr)(n c:Nat)(S:Nat->Value)(gb ob:Nat)(bcs:Array Value)(tb:TypeId)(N:Nat->Nat)(M:Nat->Nat->Nat)(hna:VsAt w ab n S gb ob bcs tb)(hS: ∀i,i<n->Mo w (S i) (N i) (M i))(h1:1<=n)(h2:n<=25)(i:Int)(ay:Option Addr)(ny cy:Nat)(Y:Nat->Nat)(gy oy:Nat)(ycs:Array Value)(ty:TypeId)(hY:NatsAt w ay ny Y gy oy ycs ty):
  Calls Tryz.prog 23 #[.pointer (some ⟨g,0,none⟩),.slice ab n c,.agg (ptC i (.slice ay ny cy))] w (Rt (.bool (CH P Q G N M n i ny Y)) w):=by
 have hgr: ∀w',Below w.heap.size w w'->Calls Tryz.prog 58 #[.pointer (some ⟨g,0,none⟩)] w' (Rt (.bool true) w'):=fun w' hb=>UC _ (some ⟨gf,0,none⟩) _ _ _ (some ⟨gr,0,none⟩) w' (h.below hb).kn
 unfold CH;by_cases e:ny=n
 ·rw[decide_eq_true e,decide_eq_true h1,decide_eq_true h2,Bool.true_and,Bool.true_and,Bool.true_and];refine Jj _ ab n c S gb ob bcs tb i ay ny cy Y gy oy ycs ty (fun k=>Hw P Q G (M k) (N k) i (Y k)) w (by omega) e hna hY hgr fun k hk=>?_
  obtain⟨ai,ci,gi,oi,bi,ti,e2,hn⟩:=hS k hk;exact⟨ai,_,ci,e2,fun w' hb=>OO f (h.below hb) (hn.below hb) i (Y k) (hY.lt k (by omega))⟩
 ·rw[decide_eq_false e,Bool.false_and];exact DV _ ab n c i ay ny cy w e hgr
end
section
variable {Q:Nat}[NeZero Q]{P G:Nat}
end
end Go.Proofs.YtnagnkhbamhfmaaGreatDoor
