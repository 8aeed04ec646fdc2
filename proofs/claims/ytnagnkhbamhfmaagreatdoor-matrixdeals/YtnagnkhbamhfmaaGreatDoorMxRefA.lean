import Derived.Test.YtnagnkhbamhfmaaGreatDoorME
import Derived.Test.YtnagnkhbamhfmaaGreatDoorCoRefO
namespace Go.Proofs.YtnagnkhbamhfmaaGreatDoor
set_option linter.all false
open Go.RowKit
def WR (v x:Value):Prop:= ∀b,v.ownBlock=some b->x.ownBlock≠some b
theorem WR.symm {v x:Value}(h:WR v x):WR x v:=fun b hb hv=>h b hv hb
theorem WS {w:World}{base:Nat}{e:TypeId}{k n:Nat}{a x y:Value}{xs:List Value}(h:WR a x)(ha:w.ownsRow base e k a n xs)(hp:y.ownBlock=x.ownBlock∨y.ownBlock=some w.heap.size):WR a y:=fun b hb hy=>by
 rcases hp with e|e
 ·exact h b hb (e▸hy)
 ·have:=(gT0 ha b hb).2;rw[hy]at e;cases e
  omega
theorem Uv {w w2:World}{base b2:Nat}{e e2:TypeId}{k n k2 n2:Nat}{a x:Value}{xs ys:List Value}(ha:w.ownsRow base e k a n xs)(hx:w2.ownsRow b2 e2 k2 x n2 ys)(h:w.heap.size<=b2):WR a x:=fun b hb hx'=>by
 have h1:=(gT0 ha b hb).2;have h2:=(gT0 hx b hx').1;omega
theorem XC {v x:Value}(h:WR v x): ∀b,x.ownBlock=some b->b∉v.ownBlock.toList:=fun b hb hm=>h b (by simpa using hm) hb
theorem Uw {w:World}{base:Nat}{e:TypeId}{k n:Nat}{a:Value}{xs:List Value}{S:List Nat}(ha:w.ownsRow base e k a n xs)(hS: ∀g∈S,g<base): ∀b,a.ownBlock=some b->b∉S:=fun b hb hm=>by
 have h1:=(gT0 ha b hb).1;have:=hS b hm;omega
structure DlS (w:World)(base N t:Nat)(Y:Nat->Value)(c:Nat->Nat)(F:Nat->Nat->Nat)(v:Value)(m:Nat)(S:Nat->Value)(V:Nat->Nat->Nat):Prop where
 y: ∀j,j<N->Wt w base (Y j) (c j) (F j)
 yy: ∀j l,j<N->l<N->j≠l->WR (Y j) (Y l)
 o:Te 1 22 w base v m (fun j=>#[S j])
 s: ∀j,j<m->Wt w base (S j) (t+1) (V j)
 os: ∀j,j<m->WR v (S j)
 oy: ∀j,j<N->WR v (Y j)
 ys: ∀j l,j<N->l<m->WR (Y j) (S l)
 z:base<=w.heap.size
section
variable {w w':World}{base N t m:Nat}{Y S:Nat->Value}{c:Nat->Nat}{F V:Nat->Nat->Nat}{v v' x:Value}
theorem DlS.on (h:DlS w base N t Y c F v m S V){D:List Nat}(k:Kept D w w')(hD: ∀g∈D,g<base):DlS w' base N t Y c F v m S V:=
 ⟨fun j hj=>XD (h.y j hj) k (Uw (h.y j hj) hD),h.yy,XD h.o k (Uw h.o hD),fun j hj=>XD (h.s j hj) k (Uw (h.s j hj) hD),h.os,h.oy,h.ys,f_ h.z k.size⟩
theorem DlS.below (h:DlS w base N t Y c F v m S V)(hb:Below w.heap.size w w'):DlS w' base N t Y c F v m S V:=h.on (Kept.ofBelow hb) (by simp)
theorem AE (w:World)(base N t:Nat)(F V:Nat->Nat->Nat)(S:Nat->Value)(hz:base<=w.heap.size):DlS w base N t (fun _=>.slice none 0 0) (fun _=>0) F (.slice none 0 0) 0 S V:=
 ⟨fun j _=>NF _ _ _,fun j l _ _ _ b hb=>(by cases hb),RY _ _ _ _,fun j hj=>absurd hj (by omega),fun j hj=>absurd hj (by omega),fun j _ b hb=>(by cases hb),fun j l _ hl=>absurd hl (by omega),hz⟩
theorem DlS.addY (h:DlS w base N t Y c F v m S V){k:Nat}(hk:k<N)(hx:Wt w' base x (c k+1) (F k))(kp:Kept (Y k).ownBlock.toList w w')(hp:x.ownBlock=(Y k).ownBlock∨x.ownBlock=some w.heap.size)(c2:Nat->Nat)(h1:c2 k=c k+1)(h2: ∀j,j<N->j≠k->c2 j=c j):DlS w' base N t (fun j=>if j=k then x else Y j) c2 F v m S V:=by
 have hyx: ∀j,j<N->j≠k->WR (Y j) x:=fun j hj hjk=>WS (h.yy j k hj hk hjk) (h.y j hj) hp
 refine⟨fun j hj=>?_,fun j l hj hl hjl=>?_,XD h.o kp (XC (h.oy k hk).symm),fun j hj=>XD (h.s j hj) kp (XC (h.ys k j hk hj)),h.os,fun j hj=>?_,fun j l hj hl=>?_,f_ h.z kp.size⟩
 ·by_cases e:j=k
  ·subst e;rw[j_ rfl,h1];exact hx
  ·rw[i_ e,h2 j hj e];exact XD (h.y j hj) kp (XC (h.yy k j hk hj (Ne.symm e)))
 ·by_cases e:j=k
  ·subst e;rw[j_ rfl,i_ (Ne.symm hjl)];exact(hyx l hl (Ne.symm hjl)).symm
  ·rw[i_ e];by_cases e2:l=k
   ·subst e2;rw[j_ rfl];exact hyx j hj hjl
   ·rw[i_ e2];exact h.yy j l hj hl hjl
 ·by_cases e:j=k
  ·subst e;rw[j_ rfl];exact WS (h.oy j hj) h.o hp
  ·rw[i_ e];exact h.oy j hj
 ·by_cases e:j=k
  ·subst e;rw[j_ rfl];exact(WS (h.ys j l hj hl).symm (h.s l hl) hp).symm
  ·rw[i_ e];exact h.ys j l hj hl
theorem DlS.addS (h:DlS w base N t Y c F v m S V)(hx:Wt w base x (t+1) (V m))(hax: ∀j,j<N->WR (Y j) x)(hvx:WR v x)(hO:Te 1 22 w' base v' (m+1) (fun j=>#[upS S m x j]))(kp:Kept v.ownBlock.toList w w')(hp:v'.ownBlock=v.ownBlock∨v'.ownBlock=some w.heap.size):DlS w' base N t Y c F v' (m+1) (upS S m x) V:=by
 refine⟨fun j hj=>XD (h.y j hj) kp (XC (h.oy j hj)),h.yy,hO,fun j hj=>?_,fun j hj=>?_,fun j hj=>(WS (h.oy j hj).symm (h.y j hj) hp).symm,fun j l hj hl=>?_,f_ h.z kp.size⟩
 ·by_cases e:j=m
  ·subst e;rw[Rd];exact XD hx kp (XC hvx)
  ·rw[Px S (show j<m by omega)];exact XD (h.s j (by omega)) kp (XC (h.os j (by omega)))
 ·by_cases e:j=m
  ·subst e;rw[Rd];exact(WS hvx.symm hx hp).symm
  ·rw[Px S (show j<m by omega)];exact(WS (h.os j (by omega)).symm (h.s j (by omega)) hp).symm
 ·by_cases e:l=m
  ·subst e;rw[Rd];exact hax j hj
  ·rw[Px S (show l<m by omega)];exact h.ys j l hj (by omega)
end
section
variable {ops:Array Oper}{C:World->Prop}{Q:Act->World->Prop}{fn:Nat->Bool}{k:Nat}{L:DL}{a:Act}{w:World}{o:Oper}
theorem Es (hw:Region.wanted o (yielded ops a.tmps)=true)(s x:Operand)(ho:o.op= .call {callee:=.builtin .append,args:=#[s,x],argTypes:=#[22,22]})
  (base:Nat)(v:Value)(n:Nat)(f:Nat->Nat)(hs:a.eval s=v)(hown:Wt w base v n f)(gx ox m c:Nat)(hx:a.eval x= .slice (some ⟨gx,ox,none⟩) m c){ab:Option Addr}{bcs:Array Value}{tb:TypeId}(hna:NatsAt w ab m (fun i=>f (n+i)) gx ox bcs tb)(h0:0<m)(hn:n+m<=1000)(hbase:base<=w.heap.size)
  (h: ∀w2,Below w.heap.size w w2-> ∀v' w3,Wt w3 base v' (n+m) f->Kept v.ownBlock.toList w2 w3->(fn k=false->C w3)/\EW Tryz.prog ops C Q fn L (a.put o.dst v') w3):EW Tryz.prog ops C Q fn ((k,o,true)::L) a w:=by
 refine T2 hw fun w2 hb=>?_
 have own2:=own_below hown hb;have hna2:=hna.below hb;obtain⟨i,hi,hz,hsz,hby⟩:=Yn;obtain⟨v',w',hr,h2,h3,_⟩:=iA0 (P:=Tryz.prog) w2 base 22 o.type 57 i _ 4 32 Tryz.underlying22 hi hz hsz hby rfl (by decide) v n _ own2 ⟨gx,ox,none⟩ m c (nsC m (fun i=>f (n+i))).toList (by rw[A_,ZZ,t_]) (S8 hna2 h0) (Wf (OC _ _)) (by unfold maxLen;omega) (by omega) (f_ hbase hb.size);rw[Sf]at h2
 have hd:(execOp a.eval o).run Tryz.prog w2= .ok (.value v') w':=by
  unfold execOp;simp only[ho,resolve,invoke,builtin,p_,Y_,k_,cF0,dC0,eP0,hs,hx,hr]
 rw[hd]
 exact h w2 hb v' w' h2 ⟨h3.os,h3.tape,h3.output,h3.size,fun k hk hn=>h3.block k hk fun e=>by
  rw[<-e]at hn
  simp at hn⟩
end
theorem Et {w:World}{base g:Nat}{f:Nat->Nat}(r:Row w g (Zc (f 0)) 57)(hb:base<=g):Wt w base (.slice (some ⟨g,0,none⟩) 1 1) 1 f:=by
 have e:(nsC 1 f).toList=(Zc (f 0)).toList:=by
  have:=WQ 0 f;have h0:(nsC 0 f).toList=[]:=bK0 (by rw[A_,ZZ]);rw[h0,List.nil_append]at this;exact this.symm
 unfold Wt;rw[e];exact⟨by rw[A_,Zo],.inr ⟨g,1,Zc (f 0),rfl,hb,r,c_ _,by unfold maxLen;omega,by rw[Zo],by rw[gI0 (by rw[A_,Zo];decide)]⟩⟩
theorem IN {n:Nat}{C D:Nat->Array Value}(hC: ∀i,(C i).size=2)(hD: ∀i,(D i).size=2)(i:Nat)(hi:i<n)(j:Nat)(hj:j<2)(x:Value)(off:Nat)(ho:off=i*2+j)(h1:(D i)[j]?=some x)(h2: ∀l,l<2->l≠j->(D i)[l]?=(C i)[l]?)(hd: ∀l,l<n->l≠i->D l=C l):(esC 2 n C).setIfInBounds off x=esC 2 n D:=by
 subst ho;refine C_ fun l=>?_
 rw[U_];by_cases hl:l<n*2
 ·rw[Sb hD l hl];by_cases e:i*2+j=l
  ·subst e;rw[j_ rfl,j_ (by rw[YM];exact hl),show(i*2+j)/2=i by omega,show(i*2+j)%2=j by omega,h1]
  ·rw[i_ e,Sb hC l hl];by_cases e2:l/2=i
   ·rw[e2,h2 (l%2) (by omega) (by omega)]
   ·rw[hd (l/2) (by omega) e2]
 ·rw[i_ (by omega),h_ (by rw[YM];omega),h_ (by rw[YM];omega)]
end Go.Proofs.YtnagnkhbamhfmaaGreatDoor
