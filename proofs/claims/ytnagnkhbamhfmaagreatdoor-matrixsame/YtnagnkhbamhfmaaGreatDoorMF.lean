import Derived.Test.YtnagnkhbamhfmaaGreatDoorME
namespace Go.Proofs.YtnagnkhbamhfmaaGreatDoor
set_option linter.all false
open Go.RowKit
def cnH (B:Nat->Bool):Nat->Nat
 |0=>0
 |k+1=>cnH B k+(if B k=true then 1 else 0)
theorem Rh {B B':Nat->Bool}: ∀n,(∀k,k<n->B k=true->B' k=true)->cnH B n<=cnH B' n
 |0,_=>Nat.le_refl _
 |n+1,h=>by
  have ih:=Rh n (fun k hk=>h k (by omega));show cnH B n+(if B n=true then 1 else 0)<=cnH B' n+(if B' n=true then 1 else 0)
  by_cases e:B n=true
  ·rw[if_pos e,if_pos (h n (by omega) e)];omega
  ·rw[if_neg e];omega
theorem FN {I:Nat->Int}{HB:Nat->Bool}{e:Nat}: ∀q,(∀i j,i<q->j<q->I i=I j->i=j)->(hsL I HB e q).length=min e (cnH HB q)
 |0,_=>by show 0=min e 0;omega
 |q+1,hI=>by
  have ih:=FN (I:=I) (HB:=HB) (e:=e) q (fun i j hi hj=>hI i j (by omega) (by omega));obtain⟨ho,_⟩:=Cy (I:=I) (HB:=HB) (e:=e) q
  have ha:anB (fun j=>decide (I ((hsL I HB e q).getD j 0)=I q)) (hsL I HB e q).length=false:=by
   cases h:anB (fun j=>decide (I ((hsL I HB e q).getD j 0)=I q)) (hsL I HB e q).length with
   |false=>rfl
   |true=>
    obtain⟨j,hj,h2⟩:=(X3 _ _).1 h;have h3:=(ho j hj).1;have h4:=hI _ _ (by omega) (by omega) (of_decide_eq_true h2);omega
  rw[hsL,ha];show _=min e (cnH HB q+(if HB q=true then 1 else 0))
  by_cases hb:HB q=true
  ·rw[hb,if_pos rfl];by_cases hl:(hsL I HB e q).length=e
   ·rw[decide_eq_true hl,if_neg (by decide)];omega
   ·rw[decide_eq_false hl,if_pos (by decide),List.length_append];show _+1=_
    omega
  ·rw[Bool.not_eq_true]at hb;rw[hb,Bool.and_false,Bool.and_false,if_neg (by decide),if_neg (by decide)];exact ih
theorem CA {P Q G:Nat}[NeZero Q](f:GF P Q G)(L:Nat->List (Fin Q))(t n:Nat)(ht:t+1<=7)(h1:1<=n)(h2:n<=25)(hL: ∀k,k<n->(L k).length<=t+1)(i:Nat)(hi1:1<=i)(hi7:i<=7)(Y:Nat->Nat):
  CH P Q G (fun _=>t+1) (fun k j=>G^(pco (L k) j).val%P) n ((i:Nat):Int) n Y= !anB (fun k=> !decide (Y k=(pev (fi i) (L k)).val)) n:=by
 unfold CH;rw[decide_eq_true rfl,decide_eq_true h1,decide_eq_true h2,Bool.true_and,Bool.true_and,Bool.true_and];refine congrArg (fun b=> !b) (TD fun k hk=>?_);rw[OP f (L k) (t+1) (by omega) ht (hL k hk) i (Y k) hi1 hi7]
theorem TF {P Q G:Nat}[NeZero Q](f:GF P Q G)(L:Nat->List (Fin Q))(t n:Nat)(ht:t+1<=7)(h1:1<=n)(h2:n<=25)(hL: ∀k,k<n->(L k).length<=t+1)(i:Nat)(hi1:1<=i)(hi7:i<=7)(Y:Nat->Nat):
  CH P Q G (fun _=>t+1) (fun k j=>G^(pco (L k) j).val%P) n ((i:Nat):Int) n Y=true↔ ∀k,k<n->Y k=(pev (fi i) (L k)).val:=by
 rw[CA f L t n ht h1 h2 hL i hi1 hi7 Y,Bool.not_eq_true'];constructor
 ·intro h k hk;by_cases e:Y k=(pev (fi i) (L k)).val
  ·exact e
  ·have:=FM (B:=fun k=> !decide (Y k=(pev (fi i) (L k)).val)) hk (by rw[decide_eq_false e];rfl);rw[h]at this;cases this
 ·intro h
  cases h3:anB (fun k=> !decide (Y k=(pev (fi i) (L k)).val)) n with
  |false=>rfl
  |true=>
   obtain⟨k,hk,h4⟩:=(X3 _ _).1 h3;rw[decide_eq_true (h k hk)]at h4;cases h4
section
variable {Q:Nat}[NeZero Q]{P G:Nat}
theorem CB (f:GF P Q G)(L:Nat->List (Fin Q))(t n:Nat)(t1:1<=t)(t2:t<=2)(h1:1<=n)(h2:n<=25)(hL: ∀k,k<n->(L k).length<=t+1):
  Cw t P Q (fun _=>t+1) (fun k j=>G^(pco (L k) j).val%P) n=true:=by
 have hc: ∀k,k<n->K0 P Q (fun j=>G^(pco (L k) j).val%P) (t+1)=true:=fun k hk=>by
  have h:=OP f (L k) (t+1) (by omega) (by omega) (hL k hk) 1 (pev (fi 1) (L k)).val (by decide) (by decide);rw[decide_eq_true rfl]at h;unfold Hw at h;simp only[Bool.and_eq_true]at h;exact h.2.2
 unfold Cw;rw[decide_eq_true t1,decide_eq_true t2,decide_eq_true h1,decide_eq_true h2,Bool.and_self,Bool.and_self,Bool.and_self,Bool.and_true,Bool.not_eq_true']
 cases h3:anB (fun k=> !As t P Q (fun _=>t+1) (fun k j=>G^(pco (L k) j).val%P) k) n with
 |false=>rfl
 |true=>
  obtain⟨k,hk,h4⟩:=(X3 _ _).1 h3;unfold As at h4;rw[hc k hk,decide_eq_true rfl]at h4;cases h4
theorem GQ (f:GF P Q G)(ab:Option Addr)(n c t:Nat)(S:Nat->Value)(gb ob:Nat)(bcs:Array Value)(tb:TypeId)(L:Nat->List (Fin Q))(al:Option Addr)(q cl:Nat)(X:Nat->PtX)(gl ol:Nat)(lcs:Array Value)(tl:TypeId)(w:World)
  (t1:1<=t)(t2:t<=2)(n1:1<=n)(n2:n<=25)(hq:q<=7)(hLl: ∀k,k<n->(L k).length<=t+1)(hz: ∀k,k<q->(X k).z=((k+1:Nat):Int))(hny: ∀k,k<q->(X k).ny=n)
  (hna:VsAt w ab n S gb ob bcs tb)(hS: ∀i,i<n->Mo w (S i) (t+1) (fun j=>G^(pco (L i) j).val%P))(hla:ElsAt 2 w al q (fun k=>ptC (X k).z (.slice (X k).ay (X k).ny (X k).cy)) gl ol lcs tl)(hXY: ∀k,k<q->NatsAt w (X k).ay (X k).ny (X k).Y (X k).gy (X k).oy (X k).ycs (X k).ty)
  (HB:Nat->Bool)(hHB: ∀k,k<q->(HB k=true↔ ∀i,i<n->(X k).Y i=(pev (fi (k+1)) (L i)).val)):
  (cnH HB q<=t/\ ∀w' g gr gf,Below w.heap.size w w'->GrpAt w' g gr gf P Q G->Calls Tryz.prog 15 #[.pointer (some ⟨g,0,none⟩),.int .i64 (t:Nat),.slice ab n c,.slice al q cl] w' (Rt (.tuple #[.slice none 0 0,.int .i64 3]) w'))∨
  (t<cnH HB q/\ ∀w' g gr gf,Below w.heap.size w w'->GrpAt w' g gr gf P Q G->Calls Tryz.prog 15 #[.pointer (some ⟨g,0,none⟩),.int .i64 (t:Nat),.slice ab n c,.slice al q cl] w' fun e w2=> ∃gP PR,e= .returned (.tuple #[.slice (some ⟨gP,0,none⟩) n n,.int .i64 0])/\w'.heap.size<=gP/\Row w2 gP (vsC n (fun j=>.slice (some ⟨PR j,0,none⟩) (t+1) (t+1))) 22/\FamAt w2 w'.heap.size (t+1) PR (fun k j=>(pco (L k) j).val) n/\Below w'.heap.size w' w2):=by
 have hm1: ∀w' g gr gf,Below w.heap.size w w'->GrpAt w' g gr gf P Q G-> ∀w2,Below w'.heap.size w' w2->Calls Tryz.prog 26 #[.pointer (some ⟨g,0,none⟩),.int .i64 (t:Nat),.slice ab n c] w2 (Rt (.bool true) w2):=fun w' g gr gf hb hg w2 hb2=>by
  have:=Cz f (hg.below hb2) ab n c t S gb ob bcs tb (fun _=>t+1) (fun i j=>G^(pco (L i) j).val%P) ((hna.below hb).below hb2) (fun i hi=>((hS i hi).below hb).below hb2);rw[CB f L t n t1 t2 n1 n2 hLl]at this;exact this
 obtain⟨I,hI⟩: ∃I:Nat->Int,I=fun k=>(X k).z:=⟨_,rfl⟩
 have hla':ElsAt 2 w al q (fun k=>ptC (I k) (.slice (X k).ay (X k).ny (X k).cy)) gl ol lcs tl:=by rw[hI];exact hla
 have hh1: ∀w' g gr gf,Below w.heap.size w w'->GrpAt w' g gr gf P Q G-> ∀w2,Below w'.heap.size w' w2->_:=fun w' g gr gf hb hg w2 hb2=>
  Nb (some ⟨g,0,none⟩) ab al n c q cl (t+1) I (fun k=>(X k).ay) (fun k=>(X k).ny) (fun k=>(X k).cy) HB gl ol lcs tl w2 (by omega) (by omega) ((hla'.below hb).below hb2) fun k hk w3 hb3=>by
   have hb4:=Zk (Zk hb (Nat.le_refl _) hb2) (Nat.le_refl _) hb3;have h:=JG f ((hg.below hb2).below hb3) ab n c S gb ob bcs tb (fun _=>t+1) (fun i j=>G^(pco (L i) j).val%P) (hna.below hb4) (fun i hi=>(hS i hi).below hb4) n1 n2 (X k).z (X k).ay (X k).ny (X k).cy _ _ _ _ _ ((hXY k hk).below hb4)
   have e:CH P Q G (fun _=>t+1) (fun i j=>G^(pco (L i) j).val%P) n (X k).z (X k).ny (X k).Y=HB k:=by
    rw[hz k hk,hny k hk];refine Bool.eq_iff_iff.2 ?_;rw[TF f L t n (by omega) n1 n2 hLl (k+1) (by omega) (by omega),hHB k hk]
   rw[e]at h;rw[hI];exact h
 have hinj: ∀i j,i<q->j<q->I i=I j->i=j:=fun i j hi hj h=>by
  rw[hI]at h
  dsimp only at h
  rw[hz i hi,hz j hj]at h;omega
 have hlen:=FN (I:=I) (HB:=HB) (e:=t+1) q hinj;obtain⟨ho1,ho2⟩:=Cy (I:=I) (HB:=HB) (e:=t+1) q;obtain⟨H,hH⟩: ∃H,hsL I HB (t+1) q=H:=⟨_,rfl⟩
 rw[hH]at hlen ho1 ho2;simp only[hH]at hh1;by_cases hlt:H.length<=t
 ·exact .inl ⟨by omega,fun w' g gr gf hb hg=>Mg _ ab al n c q cl t H.length _ w' t2 hlt (hm1 w' g gr gf hb hg) (hh1 w' g gr gf hb hg)⟩
 ·obtain hl:H.length=t+1:=by omega
  rw[hl]at ho1 ho2;simp only[hl]at hh1;obtain⟨D,hD⟩: ∃D:Nat->Nat,D=fun j=>H.getD j 0:=⟨_,rfl⟩
  have hDq: ∀j,j<t+1->D j<q:=fun j hj=>by rw[hD];exact(ho1 j hj).1
  have hDy: ∀j,j<t+1-> ∀i,i<n->(X (D j)).Y i=(pev (fi (D j+1)) (L i)).val:=fun j hj=>by
   have h:=(hHB (D j) (hDq j hj)).1 (by rw[hD];exact(ho1 j hj).2);exact h
  have hIn: ∀j,j<t+1->I (D j)=((D j+1:Nat):Int):=fun j hj=>by rw[hI];exact hz _ (hDq j hj)
  have hap:apB 0 (fun k=>((D k+1:Nat):Int)) (t+1)=true:=(Pv _ _ _).2 ⟨fun k hk=>⟨by omega,by have:=hDq k hk;omega⟩,fun j k hjk hk=>by
   have h3:=ho2 j k hjk hk
   have h4:I (D j)≠I (D k):=by rw[hD];exact h3
   rw[hIn j (by omega),hIn k hk]at h4
   exact h4⟩
  have hdd: ∀i j,i<t+1->j<t+1->i≠j->(fi (D i+1):Fin Q)≠fi (D j+1):=fun i j=>BM f (J:=fun k=>D k+1) hap i j
  have hYat: ∀{w'},Below w.heap.size w w'-> ∀j,j<t+1->NatsAt w' (X (D j)).ay n (X (D j)).Y (X (D j)).gy (X (D j)).oy (X (D j)).ycs (X (D j)).ty:=fun hb j hj=>by
   have:=(hXY (D j) (hDq j hj)).below hb;rw[hny _ (hDq j hj)]at this;exact this
  have hCC: ∀j,j<t+1->ptC (I (H.getD j 0)) (.slice (X (H.getD j 0)).ay (X (H.getD j 0)).ny (X (H.getD j 0)).cy)=ptC ((D j+1:Nat):Int) (.slice (X (D j)).ay n (X (D j)).cy):=fun j hj=>by
   have h3:=hIn j hj;have h4:=hny _ (hDq j hj);rw[<-h3,<-h4,hD]
  refine .inr ⟨by omega,fun w' g gr gf hb hg=>?_⟩;refine(Sf ab al n c q cl t (t+1) (fun j=>D j+1) (fun j=>(X (D j)).ay) (fun j=>(X (D j)).cy) (fun j=>(X (D j)).Y) (fun j=>(X (D j)).gy) (fun j=>(X (D j)).oy) (fun j=>(X (D j)).ycs) (fun j=>(X (D j)).ty) t1 t2 rfl n1 n2 (fun j hj=>by have:=hDq j hj;omega) hap hdd f.rQ hg (hYat hb) (hm1 w' g gr gf hb hg) fun w2 hb2=>?_).mono ?_
  ·refine(hh1 w' g gr gf hb hg w2 hb2).mono ?_;rintro e w3 ⟨ar,cr,rfl,hO,hb3⟩;exact⟨ar,cr,rfl,Cx hO hCC,hb3⟩
  ·rintro e w2 ⟨gP,PR,rfl,h3,h4,h5,h6⟩;refine⟨gP,PR,rfl,h3,h4,⟨fun k hk=>?_,h5.dis,h5.low⟩,h6⟩;have h7:=h5.row k hk;have e2:rcD Q (fun j=>D j+1) (fun j=>(X (D j)).Y) (t+1) k=fun j=>(pco (L k) j).val:=funext fun j=>Am f.rQ hdd (L k) (hLl k hk) (fun i hi=>hDy i hi k hk) j
   rw[e2]at h7;exact h7
end
end Go.Proofs.YtnagnkhbamhfmaaGreatDoor
