import Derived.Test.YtnagnkhbamhfmaaGreatDoorGM
import Derived.Test.YtnagnkhbamhfmaaGreatDoorGH
namespace Go.Proofs.YtnagnkhbamhfmaaGreatDoor
set_option linter.all false
open Go.Proofs.Tryz
open Go.RowKit
set_option maxRecDepth 100000 in
set_option maxHeartbeats 1000000 in
theorem Gs (N:Nat)(w:World):
  Calls prog 176 #[.agg (ZU N)] w fun e w'=>e= .returned (.tuple #[.agg (Zc N),.agg (Zc (N/2^256))])/\Below w.heap.size w w':=by
 have H:Hid (∀k,dg N (16+k)=dg (N/2^256) k):=Gk N;generalize N/2^256=T at*;have s0:Row (((((w.alloc (.cells (ZU N) 206)).alloc (.cells (Zc 0) 57)).alloc (.cells (Zc 0) 57)).alloc (.cells (Zc 0) 57)).alloc (.cells (Zc 0) 57)) w.heap.size (ZU N) 206:=(((((Row.here (by first|rfl|simp only[ZW])).alloc _).alloc _).alloc _).alloc _);have s1:Row (((((w.alloc (.cells (ZU N) 206)).alloc (.cells (Zc 0) 57)).alloc (.cells (Zc 0) 57)).alloc (.cells (Zc 0) 57)).alloc (.cells (Zc 0) 57)) (w.heap.size+1) (Zc 0) 57:=((((Row.here (by first|rfl|simp only[ZW])).alloc _).alloc _).alloc _);have s2:Row (((((w.alloc (.cells (ZU N) 206)).alloc (.cells (Zc 0) 57)).alloc (.cells (Zc 0) 57)).alloc (.cells (Zc 0) 57)).alloc (.cells (Zc 0) 57)) (w.heap.size+1+1) (Zc 0) 57:=(((Row.here (by first|rfl|simp only[ZW])).alloc _).alloc _);have s3:Row (((((w.alloc (.cells (ZU N) 206)).alloc (.cells (Zc 0) 57)).alloc (.cells (Zc 0) 57)).alloc (.cells (Zc 0) 57)).alloc (.cells (Zc 0) 57)) (w.heap.size+1+1+1) (Zc 0) 57:=((Row.here (by first|rfl|simp only[ZW])).alloc _);have s4:Row (((((w.alloc (.cells (ZU N) 206)).alloc (.cells (Zc 0) 57)).alloc (.cells (Zc 0) 57)).alloc (.cells (Zc 0) 57)).alloc (.cells (Zc 0) 57)) (w.heap.size+1+1+1+1) (Zc 0) 57:=(Row.here (by first|rfl|simp only[ZW]));have s4':=s4.setRow_far (w.heap.size+1+1+1) (Zc 0) (by omega);have sb:Below w.heap.size w (((((w.alloc (.cells (ZU N) 206)).alloc (.cells (Zc 0) 57)).alloc (.cells (Zc 0) 57)).alloc (.cells (Zc 0) 57)).alloc (.cells (Zc 0) 57)):=(by repeat(first|exact H_ _ _|refine dN0 ?_ (by simp<;>omega) _))
 go_enter func176,ntmps176
 go_wp2_with (first
  |refine Zl rfl 206 _ rfl _ rfl ?_
  |refine Zg rfl 57 rfl _ Zp ?_
  |refine Zv rfl 57 rfl _ ZA ?_
  |refine Zr rfl 57 _ _ rfl (w.heap.size+1+1+1) _ (by first|rfl|(unfold Act.eval Act.put;simp;done)|(unfold Act.eval;simp;done)) rfl s3 (by exact Zd) (by simp only[Zo]) (Zu _) ?_
  |refine Zr rfl 57 _ _ rfl (w.heap.size+1+1+1+1) _ (by first|rfl|(unfold Act.eval Act.put;simp;done)|(unfold Act.eval;simp;done)) rfl s4' (by exact Zd) (by simp only[Zo]) (Zu _) ?_)
 have t0:=(s0.setRow_far (w.heap.size+1+1+1) (Zc 0) (by omega)).setRow_far (w.heap.size+1+1+1+1) (Zc 0) (by omega);have t1:=(s1.setRow_far (w.heap.size+1+1+1) (Zc 0) (by omega)).setRow_far (w.heap.size+1+1+1+1) (Zc 0) (by omega);have t2:=(s2.setRow_far (w.heap.size+1+1+1) (Zc 0) (by omega)).setRow_far (w.heap.size+1+1+1+1) (Zc 0) (by omega);have t3:=(s3.setRow (Zc 0)).setRow_far (w.heap.size+1+1+1+1) (Zc 0) (by omega);have t4:=s4'.setRow (Zc 0);have tb:=Zq (Zq sb (g:=w.heap.size+1+1+1) (by omega) (Zc 0)) (g:=w.heap.size+1+1+1+1) (by omega) (Zc 0);clear s0 s1 s2 s3 s4 s4' sb;generalize (World.setRow (World.setRow (((((w.alloc (.cells (ZU N) 206)).alloc (.cells (Zc 0) 57)).alloc (.cells (Zc 0) 57)).alloc (.cells (Zc 0) 57)).alloc (.cells (Zc 0) 57)) (w.heap.size+1+1+1) (Zc 0)) (w.heap.size+1+1+1+1) (Zc 0))=W at*
 go_loopg [6] 16 (fun g s6 wr=> ∃k:Nat,k+g=16/\s6= .int .i64 k/\Row wr w.heap.size (ZU N) 206/\Row wr (w.heap.size+1) (Zc 0) 57/\Row wr (w.heap.size+1+1) (Zc 0) 57/\Row wr (w.heap.size+1+1+1) (Zc (N%2^(16*k))) 57/\Row wr (w.heap.size+1+1+1+1) (Zc (T%2^(16*k))) 57/\Below w.heap.size w wr)
 case atStart=>exact⟨0,by omega,rfl,t0,t1,t2,by rw[bE0,W_,aP0];exact t3,by rw[bE0,W_,aP0];exact t4,tb⟩
 case round=>
  obtain⟨k,hk,rfl,r0,r1,r2,r3,r4,hb⟩:=hrel;clear t0 t1 t2 t3 t4 tb
  cases gk with
  |zero=>
   obtain rfl:k=16:=by omega
   rw[show 16*16=256 from rfl,Yl]at r3 r4;clear hk H;have hx: ¬((16:Int)<16):=by omega
   go_wp2;apply Zi (by kernel_rfl) [(w.heap.size+1,57,Zc 0),(w.heap.size+1+1,57,Zc 0)] [_,_,_,_] ⟨r1,r2,trivial⟩ (by simp<;>omega)
   ·intro p;refine m_l r3 ?_;simp only[pv];refine m_l r4 ?_;simp only[pv];refine m_p 0 N ?_;simp only[Act.put];refine m_p 2 T ?_;simp only[Act.put];refine Zf ?_;intro w7 hkw hrw _ _;have e1:Row w7 (w.heap.size+1) (Zc N) 57:=hrw 0 _ rfl;have e2:Row w7 (w.heap.size+1+1) (Zc T) 57:=hrw 2 _ rfl;have b7:=hb.trans (hkw.below w.heap.size hb.size (by simp<;>omega));go_wp2;exact Ua rfl _ rfl e1 _ rfl e2 4 _ b_ (by exact Zd) (by exact Zd) rfl ⟨rfl,b7⟩
   ·kernel_rfl
  |succ g=>
   have hlt:(k:Int)<16:=by omega
   have hc0:=X2 r0 k (by omega);have hc0':=X2 r0 (16+k) (by omega);rw[H.out]at hc0';have hc3:=ZV r3 (k/4) (by omega);have hf3:=r3.frozen (k/4);have hc4:=ZV r4 (k/4) (by omega);have hf4:=r4.frozen (k/4);have h3:=Xj (N%2^(16*k)) (k/4);have h4:=Xj (T%2^(16*k)) (k/4);have d1:=RD N k;have d2:=RD T k;have R:Aside (Row wr w.heap.size (ZU N) 206/\Row wr (w.heap.size+1) (Zc 0) 57/\Row wr (w.heap.size+1+1) (Zc 0) 57/\Row wr (w.heap.size+1+1+1) (Zc (N%2^(16*k))) 57/\Row wr (w.heap.size+1+1+1+1) (Zc (T%2^(16*k))) 57/\Below w.heap.size w wr):=⟨r0,r1,r2,r3,r4,hb⟩;clear r0 r1 r2 r3 r4 hb;go_wp2
   go_region
   go_wp2
   go_region
   go_wp2;obtain⟨r0,r1,r2,r3,r4,hb⟩:=R.out
   go_roundg g
   case measure=>omega
   case rel=>
    rw[No _ _ _ h3 d1 (by omega),No _ _ _ h4 d2 (by omega)];refine⟨k+1,by omega,by go_num,((r0.setCell_far _ _ _ (by omega)).setCell_far _ _ _ (by omega)).drew.drew,((r1.setCell_far _ _ _ (by omega)).setCell_far _ _ _ (by omega)).drew.drew,((r2.setCell_far _ _ _ (by omega)).setCell_far _ _ _ (by omega)).drew.drew,?_,?_,(ZN (ZN hb (by omega) _ _) (by omega) _ _).drew.drew⟩
    ·have:=r3.setCell (k/4) (.int .u64 ((lm (N%2^(16*k)) (k/4)|||dg N k*2^(16*(k%4)):Nat):Int));rw[SR N k (by omega)]at this;exact(this.setCell_far _ _ _ (by omega)).drew.drew
    ·have:=(r4.setCell_far (w.heap.size+1+1+1) (k/4) (.int .u64 ((lm (N%2^(16*k)) (k/4)|||dg N k*2^(16*(k%4)):Nat):Int)) (by omega)).setCell (k/4) (.int .u64 ((lm (T%2^(16*k)) (k/4)|||dg T k*2^(16*(k%4)):Nat):Int));rw[SR T k (by omega)]at this;exact this.drew.drew
def putD (U m d:Nat):Nat:=U%2^(16*m)+2^(16*m)*(d+65536*(U/2^(16*m)/65536))
def Sm (A B i k U c:Nat):Prop:=U+2^(16*(i+k))*c=A%2^(16*i)*B+dg A i*(B%2^(16*k))*2^(16*i)/\U<2^(16*(i+16))/\c<65536
structure MulH (wr w:World)(g6 g7 g8 A B V:Nat):Prop where
 r4:Row wr (w.heap.size+1+1) (Zc 0) 57
 r5:Row wr (w.heap.size+1+1+1) (Zc 0) 57
 x:Row wr g6 (ZU A) 206
 y:Row wr g7 (ZU B) 206
 o:Row wr g8 (ZU V) 206
 below:Below w.heap.size w wr
theorem MulH.set {wr w:World}{g6 g7 g8 A B V V':Nat}(h:MulH wr w g6 g7 g8 A B V)(i:Nat)(v:Value)(hv:(ZU V).setIfInBounds i v=ZU V')(h6:g6≠g8)(h7:g7≠g8)(h8:w.heap.size+1+1+1<g8):
  MulH (wr.setCell ⟨g8,i,none⟩ v) w g6 g7 g8 A B V':=
 ⟨h.r4.setCell_far _ _ _ (by omega),h.r5.setCell_far _ _ _ (by omega),h.x.setCell_far _ _ _ h6,h.y.setCell_far _ _ _ h7,hv▸h.o.setCell i v,ZN h.below (by omega) _ _⟩
def pR (A M g:Nat):Nat:=A/2^g%M
def pQ (A M g:Nat):Nat:=2^g*(A/2^g/M)
def pB (A g:Nat):Nat:=A/2^g%2
theorem CO (A g:Nat):pB A g<=1:=by unfold pB;omega
theorem CQ (A M g:Nat)(h:A/2^g=0):pR A M g=0:=by unfold pR;rw[h,eN0]
theorem CR (A M g:Nat)(h:A/2^g=0):pQ A M g=0:=by unfold pQ;rw[h,Nat.zero_div,bE0]
theorem A9 (A M:Nat)(h:A<2^256*2^256):pR A M 512=0:=CQ A M 512 (RF A 256 256 512 rfl h)
theorem za (A M:Nat)(h:A<2^256*2^256):pQ A M 512=0:=CR A M 512 (RF A 256 256 512 rfl h)
theorem zb (A M:Nat):pR A M 0=A%M:=by unfold pR;rw[W_,bR0]
theorem zc (A M:Nat):pQ A M 0=A/M:=by unfold pQ;rw[W_,bR0,cM0]
theorem EI (A g:Nat):A/2^g=2*(A/2^(g+1))+pB A g:=by
 unfold pB;rw[cN0,<-v_];omega
theorem xh (A g:Nat):bits .and .i64 ((dg A (g/16)/2^(g%16):Nat):Int) 1=(pB A g:Int):=by
 have hd:=RD A (g/16);have h2:dg A (g/16)/2^(g%16)<=dg A (g/16):=bP0 _ _;rw[show(1:Int)=((1:Nat):Int)from rfl,VG _ _ (by omega) (by decide),hK0]
 congr 1
 have h3:(dg A (g/16)).testBit (g%16)=A.testBit g:=by
  rw[Y6,show 16*(g/16)+g%16=g by omega];simp[m_]
 rw[aT0,aT0]at h3;unfold pB;have h4:=cK0.1 h3;omega
theorem zd (A M g r:Nat)(hM:0<M)(hr:r=2*pR A M (g+1)+pB A g)(h:r<M):pR A M g=r/\pQ A M g=pQ A M (g+1):=by
 subst hr;unfold pR pQ at*;rw[EI A g];have hd:=I_ (A/2^(g+1)) M;generalize A/2^(g+1)=X at*;generalize pB A g=b at*
 have e:2*X+b=M*(2*(X/M))+(2*(X%M)+b):=by rw[<-x_,t_ M 2,x_];omega
 refine⟨?_,?_⟩
 ·rw[e,Nat.mul_add_mod,g_ h]
 ·rw[e,cT0 hM,F_ h,cC0,cN0,x_]
theorem ze (A M g r:Nat)(hM:0<M)(hr:r=2*pR A M (g+1)+pB A g)(h:M<=r):pR A M g=r-M/\pQ A M g=pQ A M (g+1)+2^g:=by
 subst hr;have hb:=CO A g;unfold pR pQ at*;rw[EI A g];have hd:=I_ (A/2^(g+1)) M;have hm:=m_ (A/2^(g+1)) hM;generalize A/2^(g+1)=X at*;generalize pB A g=b at*
 have e:2*X+b=M*(2*(X/M)+1)+(2*(X%M)+b-M):=by rw[aB0,<-x_,t_ M 2,x_];omega
 have hl:2*(X%M)+b-M<M:=by omega
 refine⟨?_,?_⟩
 ·rw[e,Nat.mul_add_mod,g_ hl]
 ·rw[e,cT0 hM,F_ hl,cC0,aB0,M_,cN0,x_]
theorem CS (A M g:Nat)(hM:0<M)(h2:M<2^256):2*pR A M (g+1)+pB A g<2^256*2^256:=by
 have hb:=CO A g;have hm:pR A M (g+1)<M:=m_ _ hM;have:(2:Nat)^256*2<=2^256*2^256:=R_ _ (by decide);omega
theorem xj (X g:Nat):(ZU (2^(g+1)*X)).setIfInBounds (g/16) (.int .i64 ((dg (2^(g+1)*X) (g/16)|||2^(g%16):Nat):Int))=ZU (2^(g+1)*X+2^g):=by
 refine U8 _ _ _ _ fun i _=>?_
 have hlt:2^g<2^(g+1):=gU0 (by decide) (by omega);have hor:=fF0 hlt X;apply y_;intro j;rw[hor];by_cases h1:i=g/16
 ·subst h1;rw[j_ rfl,Y6,cI0,cI0,Y6,eQ0,eQ0];by_cases hj:j<16
  ·simp only[hj,decide_true,bD0]
   congr 1
   exact cK0.2 (by omega)
  ·simp[hj,show ¬g%16=j by omega]
 ·rw[i_ h1,Y6,cI0,Y6,eQ0];by_cases hj:j<16
  ·simp[show ¬g=16*i+j by omega]
  ·simp[hj]
theorem wL (L g:Nat)(hL:L<65536):bits .or .i64 (L:Int) (IntKind.i64.wrap (((1:Nat):Int)*2^(g%16)))=((L|||2^(g%16):Nat):Int):=by
 rw[show(((1:Nat):Int)*2^(g%16))=2^(g%16) by simp];exact OV L (g%16) (by omega) (by omega)
def zf (A B:Nat):Nat:=if B=0 then 0 else A/B
set_option maxRecDepth 100000 in
set_option maxHeartbeats 1000000 in
theorem Gt (A B:Nat)(w:World)(hA:A<2^256)(hB:B<2^256):
  Calls prog 187 #[.agg (Zc A),.agg (Zc B)] w fun e w'=>e= .returned (.tuple #[.agg (Zc (zf A B)),.agg (Zc (Sx A B)),.int .i64 (U6 B)])/\Below w.heap.size w w':=by
 have r2:Row ((((w.alloc (.cells (Zc A) 57)).alloc (.cells (Zc B) 57)).alloc (.cells (Zc 0) 57)).alloc (.cells (Zc 0) 57)) w.heap.size (Zc A) 57:=(by repeat(first|(refine Row.here ?_;first|(with_reducible rfl)|(simp;done))|refine Row.alloc ?_ _));have r3:Row ((((w.alloc (.cells (Zc A) 57)).alloc (.cells (Zc B) 57)).alloc (.cells (Zc 0) 57)).alloc (.cells (Zc 0) 57)) (w.heap.size+1) (Zc B) 57:=(by repeat(first|(refine Row.here ?_;first|(with_reducible rfl)|(simp;done))|refine Row.alloc ?_ _));have r4:Row ((((w.alloc (.cells (Zc A) 57)).alloc (.cells (Zc B) 57)).alloc (.cells (Zc 0) 57)).alloc (.cells (Zc 0) 57)) (w.heap.size+1+1) (Zc 0) 57:=(by repeat(first|(refine Row.here ?_;first|(with_reducible rfl)|(simp;done))|refine Row.alloc ?_ _));have r5:Row ((((w.alloc (.cells (Zc A) 57)).alloc (.cells (Zc B) 57)).alloc (.cells (Zc 0) 57)).alloc (.cells (Zc 0) 57)) (w.heap.size+1+1+1) (Zc 0) 57:=(by repeat(first|(refine Row.here ?_;first|(with_reducible rfl)|(simp;done))|refine Row.alloc ?_ _));have bW:Below w.heap.size w ((((w.alloc (.cells (Zc A) 57)).alloc (.cells (Zc B) 57)).alloc (.cells (Zc 0) 57)).alloc (.cells (Zc 0) 57)):=(by repeat(first|exact H_ _ _|refine dN0 ?_ (by simp<;>omega) _));by_cases h0:B=0
 ·have HZ:Hid (zf A B=0/\Sx A B=0/\U6 B=1):=⟨j_ h0,j_ h0,j_ h0⟩
  have HV:Hid (decide (B%2^256=0%2^256)=true):=by show _=_;rw[h0];rfl
  clear h0 hA hB;have r5':=r5.setRow_far (w.heap.size+1+1) (Zc 0) (by omega)
  go_enter func187,ntmps187
  go_wp2_with (first
   |refine Zl rfl 57 _ rfl _ rfl ?_
   |refine Zg rfl 57 rfl _ Zp ?_
   |refine Zv rfl 57 rfl _ ZA ?_
   |refine Zj rfl 57 _ rfl (w.heap.size+1) (by first|rfl|(unfold Act.eval Act.put;simp;done)|(unfold Act.eval;simp;done)) r3 4 _ b_ (by exact Zd) ?_
   |refine Zy rfl (.bool true) ((ZG _ _ _ rfl B 0 rfl rfl _).trans (by rw[HV.out])) ?_
   |refine Zr rfl 57 _ _ rfl _ _ rfl rfl r4 (by exact Zd) (by simp only[Zo]) (Zu _) ?_
   |refine Zr rfl 57 _ _ rfl (w.heap.size+1+1+1) _ (by first|rfl|(unfold Act.eval Act.put;simp;done)|(unfold Act.eval;simp;done)) rfl r5' (by exact Zd) (by simp only[Zo]) (Zu _) ?_)
  exact Ub rfl _ rfl ((r4.setRow (Zc 0)).setRow_far _ (Zc 0) (by omega)) _ rfl (r5'.setRow (Zc 0)) _ rfl 4 _ b_ (by exact Zd) (by exact Zd) rfl ⟨by rw[HZ.out.1,HZ.out.2.1,HZ.out.2.2];rfl,Zq (Zq bW (by omega) _) (by omega) _⟩
 ·have HZ:Hid (zf A B=A/B/\Sx A B=A%B/\U6 B=0):=⟨i_ h0,i_ h0,i_ h0⟩
  have HV:Hid (decide (B%2^256=0%2^256)=false):=by
   show _=_
   rw[g_ hB];exact e_ h0
  have hdi:=fun w'=>Vs A 0 B w' hA (by omega) hB
  rw[cD0,B_]at hdi;rw[HZ.out.1,HZ.out.2.1,HZ.out.2.2];clear h0 hA hB HZ;generalize A/B=dq at*;generalize A%B=dr at*
  go_enter func187,ntmps187
  go_wp2_with (first
   |refine Zl rfl 57 _ rfl _ rfl ?_
   |refine Zg rfl 57 rfl _ Zp ?_
   |refine Zv rfl 57 rfl _ ZA ?_
   |refine Zj rfl 57 _ rfl _ rfl r2 4 _ b_ (by exact Zd) ?_
   |refine Zj rfl 57 _ rfl (w.heap.size+1) (by first|rfl|(unfold Act.eval Act.put;simp;done)|(unfold Act.eval;simp;done)) r3 4 _ b_ (by exact Zd) ?_
   |refine Zy rfl (.bool false) ((ZG _ _ _ rfl B 0 rfl rfl _).trans (by rw[HV.out])) ?_)
  generalize (((w.alloc (.cells (Zc A) 57)).alloc (.cells (Zc B) 57)).alloc (.cells (Zc 0) 57)).alloc (.cells (Zc 0) 57)=w1 at*;refine(hdi _).mono ?_;rintro e w3 ⟨rfl,hb2⟩;have hz:=(r5.belowAll hb2).lt;have a5:Row ((w3.alloc (.cells (Zc 0) 57)).alloc (.cells (Zc 0) 57)) w3.heap.size (Zc 0) 57:=(by repeat(first|(refine Row.here ?_;first|(with_reducible rfl)|(simp;done))|refine Row.alloc ?_ _));have a6':Row ((w3.alloc (.cells (Zc 0) 57)).alloc (.cells (Zc 0) 57)) (w3.heap.size+1) (Zc 0) 57:=(by repeat(first|(refine Row.here ?_;first|(with_reducible rfl)|(simp;done))|refine Row.alloc ?_ _));have a6:=a6'.setRow_far w3.heap.size (Zc dq) (by omega);have a9:=a6.setRow (Zc dr);have a8:=(a5.setRow (Zc dq)).setRow_far (w3.heap.size+1) (Zc dr) (by omega);have q4:=((((r4.belowAll hb2).alloc (.cells (Zc 0) 57)).alloc (.cells (Zc 0) 57)).setRow_far w3.heap.size (Zc dq) (by omega)).setRow_far (w3.heap.size+1) (Zc dr) (by omega);have q5:=((((r5.belowAll hb2).alloc (.cells (Zc 0) 57)).alloc (.cells (Zc 0) 57)).setRow_far w3.heap.size (Zc dq) (by omega)).setRow_far (w3.heap.size+1) (Zc dr) (by omega);have b3:=Zk bW (c_ _) hb2;have b5:=Zq (Zq ((b3.alloc b3.size (.cells (Zc 0) 57)).alloc (by have:=b3.size;simp;omega) (.cells (Zc 0) 57)) (g:=w3.heap.size) (by omega) (Zc dq)) (g:=w3.heap.size+1) (by omega) (Zc dr);clear r2 r3 r4 r5 bW hb2 a6' b3 hdi
  go_wp2_with (first
   |refine Zg rfl 57 rfl _ Zp ?_
   |refine Zr rfl 57 _ _ rfl _ _ rfl rfl a5 (by exact Zd) (by simp only[Zo]) (Zu _) ?_
   |refine Zr rfl 57 _ _ rfl (w3.heap.size+1) _ (by first|rfl|(unfold Act.eval Act.put;simp;done)|(unfold Act.eval;simp;done)) rfl a6 (by exact Zd) (by simp only[Zo]) (Zu _) ?_)
  simp only[ZW];generalize (((w3.alloc (.cells (Zc 0) 57)).alloc (.cells (Zc 0) 57)).setRow w3.heap.size (Zc dq)).setRow (w3.heap.size+1) (Zc dr)=w4 at*;clear a5 a6;generalize w3.heap.size=g7 at*;apply Zi (by kernel_rfl) [(w.heap.size+1+1,57,Zc 0),(w.heap.size+1+1+1,57,Zc 0)] [_,_,_,_,_] ⟨q4,q5,trivial⟩ (by simp<;>omega)
  ·intro p;refine m_l a8 ?_;simp only[pv];refine m_l a9 ?_;simp only[pv];refine m_p 0 dq ?_;simp only[Act.put];refine m_p 2 dr ?_;simp only[Act.put];refine Ze (.int .i64 0) (fun _=>rfl) ?_;simp only[pv];refine Zf ?_;intro w5 hkw hrw _ _;have s4:Row w5 (w.heap.size+1+1) (Zc dq) 57:=hrw 0 _ rfl;have s5:Row w5 (w.heap.size+1+1+1) (Zc dr) 57:=hrw 2 _ rfl;have hb1:=b5.trans (hkw.below w.heap.size b5.size (by simp<;>omega))
   go_wp2_with fail
   exact Ub rfl _ rfl s4 _ rfl s5 _ rfl 4 _ b_ (by exact Zd) (by exact Zd) rfl ⟨rfl,hb1⟩
  ·kernel_rfl
end Go.Proofs.YtnagnkhbamhfmaaGreatDoor
