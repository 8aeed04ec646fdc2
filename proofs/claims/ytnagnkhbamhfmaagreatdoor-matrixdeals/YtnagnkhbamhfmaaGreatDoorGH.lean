import Derived.Test.YtnagnkhbamhfmaaGreatDoorGG
set_option maxRecDepth 100000
set_option maxHeartbeats 8000000
namespace Go.Proofs.YtnagnkhbamhfmaaGreatDoor
set_option linter.all false
open Go.Proofs.Tryz
open Go.RowKit
theorem Kb (N M:Nat)(h:M≠0):Sx N M=N%M:=i_ h
theorem PX (A B M:Nat)(w:World)(hA:A<2^256)(hB:B<2^256)(hM:M<2^256):
  Calls prog 114 #[.agg (Zc A),.agg (Zc B),.agg (Zc M)] w fun e w'=>e= .returned (.tuple #[.agg (Zc (Sx (A*B) M)),.int .i64 (U6 M)])/\Below w.heap.size w w':=by
 have r3:Row ((((w.alloc (.cells (Zc A) 57)).alloc (.cells (Zc B) 57)).alloc (.cells (Zc M) 57)).alloc (.cells (Zc 0) 57)) w.heap.size (Zc A) 57:=(by repeat(first|(refine Row.here ?_;first|(with_reducible rfl)|(simp;done))|refine Row.alloc ?_ _));have r4:Row ((((w.alloc (.cells (Zc A) 57)).alloc (.cells (Zc B) 57)).alloc (.cells (Zc M) 57)).alloc (.cells (Zc 0) 57)) (w.heap.size+1) (Zc B) 57:=(by repeat(first|(refine Row.here ?_;first|(with_reducible rfl)|(simp;done))|refine Row.alloc ?_ _));have r5:Row ((((w.alloc (.cells (Zc A) 57)).alloc (.cells (Zc B) 57)).alloc (.cells (Zc M) 57)).alloc (.cells (Zc 0) 57)) (w.heap.size+1+1) (Zc M) 57:=(by repeat(first|(refine Row.here ?_;first|(with_reducible rfl)|(simp;done))|refine Row.alloc ?_ _));have r6:Row ((((w.alloc (.cells (Zc A) 57)).alloc (.cells (Zc B) 57)).alloc (.cells (Zc M) 57)).alloc (.cells (Zc 0) 57)) (w.heap.size+1+1+1) (Zc 0) 57:=(by repeat(first|(refine Row.here ?_;first|(with_reducible rfl)|(simp;done))|refine Row.alloc ?_ _));have bW:Below w.heap.size w ((((w.alloc (.cells (Zc A) 57)).alloc (.cells (Zc B) 57)).alloc (.cells (Zc M) 57)).alloc (.cells (Zc 0) 57)):=(by repeat(first|exact H_ _ _|refine dN0 ?_ (by simp<;>omega) _));have hAB:A*B<2^256*2^256:=Nat.mul_lt_mul'' hA hB;have hre:=fun w'=>Nb ((A*B)%2^256) (A*B/2^256) M w' (m_ _ (by decide)) (aE0 hAB) hM
 rw[Yl,t_ (A*B/2^256),I_]at hre;have hmu:=fun w'=>U3 A B w' hA hB
 clear hA hB hM hAB;generalize Sx (A*B) M=v at*;generalize A*B/2^256=hi at*;generalize A*B=lo at*
 go_enter func114,ntmps114
 go_wp2_with (first
  |refine Zl rfl 57 _ rfl _ rfl ?_
  |refine Zg rfl 57 rfl _ Zp ?_
  |refine Zj rfl 57 _ rfl _ rfl r3 4 _ b_ (by exact Zd) ?_
  |refine Zj rfl 57 _ rfl (w.heap.size+1) (by first|rfl|(unfold Act.eval Act.put;simp;done)|(unfold Act.eval;simp;done)) r4 4 _ b_ (by exact Zd) ?_)
 generalize (((w.alloc (.cells (Zc A) 57)).alloc (.cells (Zc B) 57)).alloc (.cells (Zc M) 57)).alloc (.cells (Zc 0) 57)=w1 at*;refine(hmu _).mono ?_;rintro e w3 ⟨rfl,hb2⟩;have hz:=(r6.belowAll hb2).lt;have a5:Row ((w3.alloc (.cells (Zc 0) 57)).alloc (.cells (Zc 0) 57)) w3.heap.size (Zc 0) 57:=(by repeat(first|(refine Row.here ?_;first|(with_reducible rfl)|(simp;done))|refine Row.alloc ?_ _));have a6':Row ((w3.alloc (.cells (Zc 0) 57)).alloc (.cells (Zc 0) 57)) (w3.heap.size+1) (Zc 0) 57:=(by repeat(first|(refine Row.here ?_;first|(with_reducible rfl)|(simp;done))|refine Row.alloc ?_ _));have a6:=a6'.setRow_far w3.heap.size (Zc lo) (by omega);have a9:=a6.setRow (Zc hi);have a8:=(a5.setRow (Zc lo)).setRow_far (w3.heap.size+1) (Zc hi) (by omega);have aM:=((((r5.belowAll hb2).alloc (.cells (Zc 0) 57)).alloc (.cells (Zc 0) 57)).setRow_far w3.heap.size (Zc lo) (by omega)).setRow_far (w3.heap.size+1) (Zc hi) (by omega);have aZ:=((((r6.belowAll hb2).alloc (.cells (Zc 0) 57)).alloc (.cells (Zc 0) 57)).setRow_far w3.heap.size (Zc lo) (by omega)).setRow_far (w3.heap.size+1) (Zc hi) (by omega);have b3:=Zk bW (c_ _) hb2;have b5:=Zq (Zq ((b3.alloc b3.size (.cells (Zc 0) 57)).alloc (by have:=b3.size;simp;omega) (.cells (Zc 0) 57)) (g:=w3.heap.size) (by omega) (Zc lo)) (g:=w3.heap.size+1) (by omega) (Zc hi);clear r3 r4 r5 r6 bW hb2 a6' b3 hmu
 go_wp2_with (first
  |refine Zg rfl 57 rfl _ Zp ?_
  |refine Zr rfl 57 _ _ rfl _ _ rfl rfl a5 (by exact Zd) (by simp only[Zo]) (Zu _) ?_
  |refine Zr rfl 57 _ _ rfl (w3.heap.size+1) _ (by first|rfl|(unfold Act.eval Act.put;simp;done)|(unfold Act.eval;simp;done)) rfl a6 (by exact Zd) (by simp only[Zo]) (Zu _) ?_
  |refine Zj rfl 57 _ rfl _ rfl a8 4 _ b_ (by exact Zd) ?_
  |refine Zj rfl 57 _ rfl _ rfl aM 4 _ b_ (by exact Zd) ?_
  |refine Zj rfl 57 _ rfl (w3.heap.size+1) (by first|rfl|(unfold Act.eval Act.put;simp;done)|(unfold Act.eval;simp;done)) a9 4 _ b_ (by exact Zd) ?_)
 refine(hre _).mono ?_;rintro e w4 ⟨rfl,hb4⟩;have qZ:=aZ.belowAll hb4;have b6:=Zk b5 (c_ _) hb4;clear a5 a6 a9 a8 aM aZ b5 hb4 hre
 go_wp2_with (first
  |refine Zr rfl 57 _ _ rfl _ _ rfl rfl qZ (by exact Zd) (by simp only[Zo]) (Zu _) ?_)
 exact Z9 rfl _ rfl (qZ.setRow (Zc v)) 4 _ b_ (by exact Zd) rfl _ rfl ⟨rfl,Zq b6 (by omega) _⟩
def yS (A B M:Nat):Nat:=if M=0 then 0 else(A%M+(M-B%M))%M
theorem sub_le (x y M:Nat)(h:y<=x)(hx:x<M)(hM:M<2^256):Zc (WC x y)=Zc ((x+(M-y))%M):=by
 rw[show x+(M-y)=x-y+M*1 by omega,G_,g_ (show x-y<M by omega)];refine(W5 _ _).2 ?_;unfold WC;rw[show x+(2^256-y)=x-y+2^256*1 by omega,G_]
theorem AX (x y M:Nat)(h:x<y)(hy:y<M)(hM:M<2^256):Zc (WC x y+M)=Zc ((x+(M-y))%M):=by
 rw[g_ (show x+(M-y)<M by omega)];refine(W5 _ _).2 ?_;unfold WC;rw[show x+(2^256-y)+M=x+(M-y)+2^256*1 by omega,G_]
theorem Hr (A B M:Nat)(w:World)(hA:A<2^256)(hB:B<2^256)(hM:M<2^256):
  Calls prog 166 #[.agg (Zc A),.agg (Zc B),.agg (Zc M)] w fun e w'=>e= .returned (.tuple #[.agg (Zc (yS A B M)),.int .i64 (U6 M)])/\Below w.heap.size w w':=by
 have r3:Row ((((w.alloc (.cells (Zc A) 57)).alloc (.cells (Zc B) 57)).alloc (.cells (Zc M) 57)).alloc (.cells (Zc 0) 57)) w.heap.size (Zc A) 57:=(by repeat(first|(refine Row.here ?_;first|(with_reducible rfl)|(simp;done))|refine Row.alloc ?_ _));have r4:Row ((((w.alloc (.cells (Zc A) 57)).alloc (.cells (Zc B) 57)).alloc (.cells (Zc M) 57)).alloc (.cells (Zc 0) 57)) (w.heap.size+1) (Zc B) 57:=(by repeat(first|(refine Row.here ?_;first|(with_reducible rfl)|(simp;done))|refine Row.alloc ?_ _));have r5:Row ((((w.alloc (.cells (Zc A) 57)).alloc (.cells (Zc B) 57)).alloc (.cells (Zc M) 57)).alloc (.cells (Zc 0) 57)) (w.heap.size+1+1) (Zc M) 57:=(by repeat(first|(refine Row.here ?_;first|(with_reducible rfl)|(simp;done))|refine Row.alloc ?_ _));have r6:Row ((((w.alloc (.cells (Zc A) 57)).alloc (.cells (Zc B) 57)).alloc (.cells (Zc M) 57)).alloc (.cells (Zc 0) 57)) (w.heap.size+1+1+1) (Zc 0) 57:=(by repeat(first|(refine Row.here ?_;first|(with_reducible rfl)|(simp;done))|refine Row.alloc ?_ _));have bW:Below w.heap.size w ((((w.alloc (.cells (Zc A) 57)).alloc (.cells (Zc B) 57)).alloc (.cells (Zc M) 57)).alloc (.cells (Zc 0) 57)):=(by repeat(first|exact H_ _ _|refine dN0 ?_ (by simp<;>omega) _));by_cases h0:M=0
 ·have HZ:Hid (yS A B M=0/\U6 M=1):=⟨j_ h0,j_ h0⟩
  have HV:Hid (decide (M%2^256=0%2^256)=true):=by show _=_;rw[h0];rfl
  clear h0 hA hB hM
  go_enter func166,ntmps166
  go_wp2_with (first
   |refine Zl rfl 57 _ rfl _ rfl ?_
   |refine Zg rfl 57 rfl _ Zp ?_
   |refine Zv rfl 57 rfl _ ZA ?_
   |refine Zj rfl 57 _ rfl (w.heap.size+1+1) (by first|rfl|(unfold Act.eval Act.put;simp;done)|(unfold Act.eval;simp;done)) r5 4 _ b_ (by exact Zd) ?_
   |refine Zy rfl (.bool true) ((ZG _ _ _ rfl M 0 rfl rfl _).trans (by rw[HV.out])) ?_
   |refine Zr rfl 57 _ _ rfl (w.heap.size+1+1+1) _ (by first|rfl|(unfold Act.eval Act.put;simp;done)|(unfold Act.eval;simp;done)) rfl r6 (by exact Zd) (by simp only[Zo]) (Zu _) ?_)
  exact Z9 rfl _ rfl (r6.setRow (Zc 0)) 4 _ b_ (by exact Zd) rfl _ rfl ⟨by rw[HZ.out.1,HZ.out.2];rfl,Zq bW (by omega) _⟩
 ·have HZ:Hid (yS A B M=(A%M+(M-B%M))%M/\U6 M=0):=⟨i_ h0,i_ h0⟩
  have HV:Hid (decide (M%2^256=0%2^256)=false):=by
   show _=_
   rw[g_ hM];exact e_ h0
  have hra:=fun w'=>Xm A M w' hA (by omega) hM
  have hrb:=fun w'=>Xm B M w' hB (by omega) hM
  have hxa:=m_ A (show 0<M by omega);have hxb:=m_ B (show 0<M by omega);rw[HZ.out.1,HZ.out.2];clear h0 hA hB HZ;generalize A%M=x at*;generalize B%M=y at*;have hsu:=fun w'=>XV x y w' (by omega)
  have had:=fun w'=>Uc (WC x y) M w'
  have hbo:bN x y 256=if x<y then 1 else 0:=by unfold bN;rw[g_ (by omega),g_ (by omega)]
  rw[hbo]at hsu;clear hbo;by_cases hlt:x<y
  ·rw[j_ hlt]at hsu;rw[AX x y M hlt hxb hM]at had;clear hlt hxa hxb hM;generalize WC x y=d at*;generalize (x+(M-y))%M=v at*
   go_enter func166,ntmps166
   go_wp2_with (first
    |refine Zl rfl 57 _ rfl _ rfl ?_
    |refine Zg rfl 57 rfl _ Zp ?_
    |refine Zv rfl 57 rfl _ ZA ?_
    |refine Zj rfl 57 _ rfl (w.heap.size+1+1) (by first|rfl|(unfold Act.eval Act.put;simp;done)|(unfold Act.eval;simp;done)) r5 4 _ b_ (by exact Zd) ?_
    |refine Zy rfl (.bool false) ((ZG _ _ _ rfl M 0 rfl rfl _).trans (by rw[HV.out])) ?_)
   generalize (((w.alloc (.cells (Zc A) 57)).alloc (.cells (Zc B) 57)).alloc (.cells (Zc M) 57)).alloc (.cells (Zc 0) 57)=w1 at*;apply Zi (by kernel_rfl) [] [_,_,_,_,_,_,_,_,_,_,_,_,_] trivial a_
   ·intro p;refine m_l r3 ?_;simp only[pv];refine m_l r5 ?_;simp only[pv];refine m_c 156 fZ0 #[.agg (Zc A),.agg (Zc M)] hra ?_;simp only[pv];refine m_l r4 ?_;simp only[pv];refine m_l r5 ?_;simp only[pv];refine m_c 156 fZ0 #[.agg (Zc B),.agg (Zc M)] hrb ?_;simp only[pv];refine m_c 154 iO0 #[.agg (Zc x),.agg (Zc y)] hsu ?_;refine m_m ?_;refine m_e ?_;refine m_e ?_;simp only[pv];refine m_n ?_;simp only[pv];refine m_p 21 d ?_;simp only[Act.put];refine m_a ?_;simp only[pv];refine Zf ?_;intro w2 hkw hrw hnew _;have r8:Row w2 (p 10) (Zc d) 57:=hrw 21 _ rfl;have hp:w1.heap.size<=p 10:=hnew 10 rfl;have hl:=r6.lt;have q5:=hkw.row r5 (by simp);have q6:=hkw.row r6 (by simp);have b2:=bW.trans (hkw.below w.heap.size bW.size (by simp));clear hrw hnew r3 r4 r5 r6 bW hra hrb hsu;generalize p 10=q at*
    go_wp2_with (first
     |refine Zj rfl 57 _ rfl _ rfl r8 4 _ b_ (by exact Zd) ?_
     |refine Zj rfl 57 _ rfl _ rfl q5 4 _ b_ (by exact Zd) ?_)
    refine(had _).mono ?_;rintro e w3 ⟨rfl,hb3⟩;have s8:=r8.belowAll hb3;have s6:=(q6.belowAll hb3).setRow_far q (Zc v) (by omega);have s8':=s8.setRow (Zc v);have b3:=Zq (Zk b2 (c_ _) hb3) (g:=q) (by omega) (Zc v);clear r8 q5 q6 b2 hb3 had
    go_wp2_with (first
     |refine Zr rfl 57 _ _ rfl _ _ rfl rfl s8 (by exact Zd) (by simp only[Zo]) (Zu _) ?_
     |refine Zj rfl 57 _ rfl _ rfl s8' 4 _ b_ (by exact Zd) ?_
     |refine Zr rfl 57 _ _ rfl _ _ rfl rfl s6 (by exact Zd) (by simp only[Zo]) (Zu _) ?_)
    exact Z9 rfl _ rfl (s6.setRow (Zc v)) 4 _ b_ (by exact Zd) rfl _ rfl ⟨rfl,Zq b3 (by omega) _⟩
   ·kernel_rfl
  ·rw[i_ hlt]at hsu;rw[sub_le x y M (by omega) hxa hM]at hsu;clear hlt hxa hxb hM had;generalize (x+(M-y))%M=v at*
   go_enter func166,ntmps166
   go_wp2_with (first
    |refine Zl rfl 57 _ rfl _ rfl ?_
    |refine Zg rfl 57 rfl _ Zp ?_
    |refine Zv rfl 57 rfl _ ZA ?_
    |refine Zj rfl 57 _ rfl (w.heap.size+1+1) (by first|rfl|(unfold Act.eval Act.put;simp;done)|(unfold Act.eval;simp;done)) r5 4 _ b_ (by exact Zd) ?_
    |refine Zy rfl (.bool false) ((ZG _ _ _ rfl M 0 rfl rfl _).trans (by rw[HV.out])) ?_)
   generalize (((w.alloc (.cells (Zc A) 57)).alloc (.cells (Zc B) 57)).alloc (.cells (Zc M) 57)).alloc (.cells (Zc 0) 57)=w1 at*;apply Zi (by kernel_rfl) [] [_,_,_,_,_,_,_,_,_,_,_,_,_] trivial a_
   ·intro p;refine m_l r3 ?_;simp only[pv];refine m_l r5 ?_;simp only[pv];refine m_c 156 fZ0 #[.agg (Zc A),.agg (Zc M)] hra ?_;simp only[pv];refine m_l r4 ?_;simp only[pv];refine m_l r5 ?_;simp only[pv];refine m_c 156 fZ0 #[.agg (Zc B),.agg (Zc M)] hrb ?_;simp only[pv];refine m_c 154 iO0 #[.agg (Zc x),.agg (Zc y)] hsu ?_;refine m_m ?_;refine m_e ?_;refine m_e ?_;simp only[pv];refine m_n ?_;simp only[pv];refine m_p 21 v ?_;simp only[Act.put];refine m_a ?_;simp only[pv];refine Zf ?_;intro w2 hkw hrw hnew _;have r8:Row w2 (p 10) (Zc v) 57:=hrw 21 _ rfl;have hp:w1.heap.size<=p 10:=hnew 10 rfl;have hl:=r6.lt;have q6:=hkw.row r6 (by simp);have b2:=bW.trans (hkw.below w.heap.size bW.size (by simp));clear hrw hnew r3 r4 r5 r6 bW hra hrb hsu;generalize p 10=q at*
    go_wp2_with (first
     |refine Zj rfl 57 _ rfl _ rfl r8 4 _ b_ (by exact Zd) ?_
     |refine Zr rfl 57 _ _ rfl _ _ rfl rfl q6 (by exact Zd) (by simp only[Zo]) (Zu _) ?_)
    exact Z9 rfl _ rfl (q6.setRow (Zc v)) 4 _ b_ (by exact Zd) rfl _ rfl ⟨rfl,Zq b2 (by omega) _⟩
   ·kernel_rfl
theorem Rs (x y:Nat):Nat.gcd y (x%y)=Nat.gcd x y:=by
 rw[Nat.gcd_comm x y,Nat.gcd_rec y x,Nat.gcd_comm]
theorem Hs (A B:Nat)(w:World)(hA:A<2^256)(hB:B<2^256):
  Calls prog 189 #[.agg (Zc A),.agg (Zc B)] w fun e w'=>e= .returned (.agg (Zc (Nat.gcd A B)))/\Below w.heap.size w w':=by
 have H:Hid (A<2^256/\B<2^256):=⟨hA,hB⟩;clear hA hB
 go_enter func189,ntmps189
 go_wp2_with (first
  |refine Zl rfl 57 _ rfl _ rfl ?_
  |refine Zg rfl 57 rfl _ Zp ?_)
 simp only[Act.put,aA0,bT0,hJ0,ZW]
 go_loopg [] B (fun g wr=> ∃x y:Nat,y<=g/\x<2^256/\y<2^256/\Nat.gcd x y=Nat.gcd A B/\Row wr w.heap.size (Zc x) 57/\Row wr (w.heap.size+1) (Zc y) 57/\Row wr (w.heap.size+1+1) (Zc 0) 57/\Below w.heap.size w wr)
 case atStart=>
  exact⟨A,B,c_ _,H.out.1,H.out.2,rfl,(by repeat(first|(refine Row.here ?_;first|(with_reducible rfl)|(simp;done))|refine Row.alloc ?_ _)),(by repeat(first|(refine Row.here ?_;first|(with_reducible rfl)|(simp;done))|refine Row.alloc ?_ _)),(by repeat(first|(refine Row.here ?_;first|(with_reducible rfl)|(simp;done))|refine Row.alloc ?_ _)),(by repeat(first|exact H_ _ _|refine dN0 ?_ (by simp<;>omega) _))⟩
 case round=>
  obtain⟨x,y,hy,hx2,hy2,hg,r2,r3,r4,hb⟩:=hrel;rcases aK0 y with rfl|h0
  ·have HV:Hid ((!decide (0%2^256=0%2^256))=false):=rfl
   have HG:Hid (Nat.gcd A B=x):=by show _=_;rw[<-hg,hQ0]
   clear hy hx2 hy2 hg H
   go_wp2_with (first
    |refine Zv rfl 57 rfl _ ZA ?_
    |refine Zj rfl 57 _ rfl _ rfl r3 4 _ b_ (by exact Zd) ?_
    |refine Zj rfl 57 _ rfl _ rfl r2 4 _ b_ (by exact Zd) ?_
    |refine Zy rfl (.bool false) ((Z5 _ _ _ rfl 0 0 rfl rfl _).trans (by rw[HV.out])) ?_
    |refine Zr rfl 57 _ _ rfl _ _ rfl rfl r4 (by exact Zd) (by simp only[Zo]) (Zu _) ?_)
   exact ZM rfl _ rfl (r4.setRow (Zc x)) 4 _ b_ (by exact Zd) rfl ⟨by rw[HG.out],Zq hb (by omega) _⟩
  ·cases gk with
   |zero=>omega
   |succ g=>
    have HV:Hid ((!decide (y%2^256=0%2^256))=true):=by
     show _=_
     rw[g_ hy2,e_ (by simp;omega)];rfl
    have hre:=fun w'=>Xm x y w' hx2 h0 hy2
    have hlt:=m_ x h0;have HX:Hid (x%y<=g/\y<2^256/\x%y<2^256/\Nat.gcd y (x%y)=Nat.gcd A B):=⟨by omega,hy2,by omega,by rw[Rs];exact hg⟩;clear hy hx2 hy2 hg H h0 hlt;generalize x%y=z at*
    go_wp2_with (first
     |refine Zv rfl 57 rfl _ ZA ?_
     |refine Zj rfl 57 _ rfl _ rfl r3 4 _ b_ (by exact Zd) ?_
     |refine Zy rfl (.bool true) ((Z5 _ _ _ rfl y 0 rfl rfl _).trans (by rw[HV.out])) ?_)
    apply Zi (by kernel_rfl) [(w.heap.size,57,Zc x),(w.heap.size+1,57,Zc y)] [_,_,_,_,_,_] ⟨r2,r3,trivial⟩ (by simp<;>omega)
    ·intro p;refine Yz 2 57 _ rfl rfl rfl 4 _ b_ Zd ?_;simp only[pv];refine Yz 0 57 _ rfl rfl rfl 4 _ b_ Zd ?_;simp only[pv];refine Yz 2 57 _ rfl rfl rfl 4 _ b_ Zd ?_;simp only[pv];refine m_c 156 fZ0 #[.agg (Zc x),.agg (Zc y)] hre ?_;simp only[pv];refine m_p 0 y ?_;simp only[Act.put];refine m_p 2 z ?_;simp only[Act.put];refine Zf ?_;intro w7 hkw hrw _ _;have r2':Row w7 w.heap.size (Zc y) 57:=hrw 0 _ rfl;have r3':Row w7 (w.heap.size+1) (Zc z) 57:=hrw 2 _ rfl;have r4':=hkw.row r4 (by simp<;>omega);have hb1:=hb.trans (hkw.below w.heap.size hb.size (by simp<;>omega));clear r2 r3 r4 hb hkw hrw hre;go_wp2
     go_roundg g
     case measure=>omega
     case rel=>
      obtain⟨h1,h2,h3,h4⟩:=HX.out;exact⟨y,z,h1,h2,h3,h4,r2',r3',r4',hb1⟩
    ·kernel_rfl
def sg (neg:Bool):Int:=if neg=true then-1 else 1
structure Iv (A M L S b f:Nat)(neg:Bool):Prop where
 det:L*f+S*b=M
 lt:S<L
 ne:L≠1
 pos:1<=f
 gcd:Nat.gcd L S=Nat.gcd A M
 low:(M:Int)∣(f:Int)*A-sg neg*S
 high:(M:Int)∣(b:Int)*A+sg neg*L
theorem EB (neg:Bool):sg (!neg)= -sg neg:=by cases neg<;>rfl
theorem Nc (A M:Nat)(hM:2<=M):Iv A M M (A%M) 0 1 false where
 det:=by omega
 lt:=m_ _ (by omega)
 ne:=by omega
 pos:=c_ _
 gcd:=by rw[Rs]
 low:=by
  have h:=I_ A M;refine⟨((A/M:Nat):Int),?_⟩;show((1:Nat):Int)*(A:Int)-1*((A%M:Nat):Int)=_
  have:(A:Int)=(M:Int)*((A/M:Nat):Int)+((A%M:Nat):Int):=by exact_mod_cast h.symm
  omega
 high:=⟨1,by show((0:Nat):Int)*(A:Int)+1*(M:Int)=_;omega⟩
theorem Kc (A M L S b f:Nat)(neg:Bool)(h:Iv A M L S b f neg)(h0:0<S)(h1:S≠1):Iv A M S (L%S) f (b+L/S*f) (!neg) where
 det:=by
  have h2:=I_ L S;have h3:=h.det
  have e:S*(b+L/S*f)+L%S*f=(S*(L/S)+L%S)*f+S*b:=by
   rw[aB0,aV0,x_];omega
  rw[e,h2];exact h3
 lt:=m_ _ h0
 ne:=h1
 pos:=by
  have h2:1<=L/S:=(cO0 h0).2 (by have:=h.lt;omega);have h3:1*1<=L/S*f:=L_ h2 h.pos;omega
 gcd:=by rw[Rs];exact h.gcd
 low:=by
  have e:((b+L/S*f:Nat):Int)*A-sg (!neg)*((L%S:Nat):Int)=((b:Int)*A+sg neg*L)+((L/S:Nat):Int)*((f:Int)*A-sg neg*S):=by
   have h2:(L:Int)=(S:Int)*((L/S:Nat):Int)+((L%S:Nat):Int):=by exact_mod_cast (I_ L S).symm
   rw[EB];generalize ((L%S:Nat):Int)=r at*;rw[h2]
   push_cast
   generalize ((L:Int)/(S:Int))=q;simp only[Int.add_mul,Int.mul_sub,Int.mul_add,Int.neg_mul,Int.sub_neg];have e1:q*(sg neg*(S:Int))=sg neg*((S:Int)*q):=by rw[dK0,Int.mul_comm q]
   have e2:q*(f:Int)*(A:Int)=q*((f:Int)*(A:Int)):=Int.mul_assoc _ _ _;rw[e1,e2];omega
  rw[e];exact Int.dvd_add h.high (Int.dvd_mul_of_dvd_right h.low)
 high:=by
  have e:(f:Int)*A+sg (!neg)*(S:Int)=(f:Int)*A-sg neg*S:=by rw[EB,Int.neg_mul];omega
  rw[e];exact h.low
def yT (A M:Nat):Nat:=((List.range M).find? fun x=>x*A%M==1).getD 0
theorem UD (A M x:Nat)(hx:x<M)(h:x*A%M=1):yT A M=x:=by
 unfold yT
 cases hf:(List.range M).find? fun x=>x*A%M==1 with
 |none=>
  have:=hO0.1 hf x (eX0.2 hx);simp[h]at this
 |some y=>
  have h1:=List.find?_some hf;have h2:y<M:=eX0.1 (List.mem_of_find?_eq_some hf);have h3:y*A%M=1:=by simpa using h1
  show y=x
  have e1:y*(x*A)%M=y:=by rw[aH0,h,M_,dM0,g_ h2]
  have e2:x*(y*A)%M=x:=by rw[aH0,h3,M_,dM0,g_ hx]
  exact e1.symm.trans ((show y*(x*A)%M=x*(y*A)%M by rw[eH0]).trans e2)
theorem Kd (A M L b f:Nat)(neg:Bool)(hM:2<=M)(h:Iv A M L 1 b f neg):f<M/\yT A M=if neg=true then M-f else f:=by
 have hd:=h.det;have hl:=h.lt;have hp:=h.pos;have h2:2*f<=L*f:=z_ _ hl;have hf:f<M:=by omega
 refine⟨hf,?_⟩;obtain⟨k,hk⟩:=h.low;cases neg
 ·rw[i_ (by decide)];refine UD A M f hf ?_
  have e:((f*A:Nat):Int)=1+(M:Int)*k:=by
   push_cast
   have:(f:Int)*A-1*((1:Nat):Int)=(M:Int)*k:=hk;omega
  have:((f*A%M:Nat):Int)=1:=by
   rw[fO0,e,dR0];exact gK0 (by omega) (by omega)
  exact_mod_cast this
 ·rw[j_ rfl];refine UD A M (M-f) (by omega) ?_
  have e:(((M-f)*A:Nat):Int)=1+(M:Int)*(A-k):=by
   push_cast [hP0 hf]
   have:(f:Int)*A- -1*((1:Nat):Int)=(M:Int)*k:=hk;rw[Int.sub_mul,Int.mul_sub];omega
  have:(((M-f)*A%M:Nat):Int)=1:=by
   rw[fO0,e,dR0];exact gK0 (by omega) (by omega)
  exact_mod_cast this
theorem ZE {P:Program}{o:Oper}{ρ:Operand->Value}(t:TypeId)(ho:o.op= .build t #[])(c:Array Value)(hb:P.built t []=some c)(w:World):(execOp ρ o).run P w= .ok (.value (.agg c)) w:=by
 unfold execOp;simp only[ho,p_,iE0 w t #[] c hb,Array.map_empty,k_];rfl
theorem Ug {P:Program}{ops:Array Oper}{rest:List Oper}{o:Oper}{a:Act}{w:World}{Q:Exit->Act->World->Prop}(hw:Region.wanted o (yielded ops a.tmps)=true)
  (h: ∀K:Act->World->Prop,(∀a w,wpList P ops Q rest a w->K a w)->o.wp P a w K Q):wpList P ops Q (o::rest) a w:=
 wpList_step fun K hK=>by simp only[hw,if_true];exact h K hK
theorem XX {P:Program}{ops:Array Oper}{rest:List Oper}{o:Oper}{a:Act}{w:World}{Q:Exit->Act->World->Prop}(hw:Region.wanted o (yielded ops a.tmps)=true)(ty:TypeId)(x:Operand)(ho:o.op= .load ty x)
  (g:Nat)(hx:a.eval x= .pointer (some ⟨g,0,none⟩)){t:TypeId}{cs:Array Value}(hg:Row w g cs t)(n:Nat)(e:TypeId)
  (hu:P.underlying ty=some (.array n e))(hi:(P.info? ty).map (·.size)=some cs.size)
  (h:wpList P ops Q rest (a.put o.dst (.agg cs)) w):wpList P ops Q (o::rest) a w:=
 Ug hw fun _ hK=>wp_load_row ty x ho g hx t cs (0,0) _ hg hu rfl hi (hK _ _ h)
theorem Uh {P:Program}{ops:Array Oper}{rest:List Oper}{o:Oper}{a:Act}{w:World}{Q:Exit->Act->World->Prop}(hw:Region.wanted o (yielded ops a.tmps)=true)(v:Value)
  (hr:(execOp a.eval o).run P w= .ok (.value v) w)(h:wpList P ops Q rest (a.put o.dst v) w):wpList P ops Q (o::rest) a w:=
 Ug hw fun _ hK=>by unfold Oper.wp;rw[hr];exact hK _ _ h
def Ru (A M:Nat):Nat:=if M<2 then 0 else if Nat.gcd A M=1 then yT A M else 0
def Cj (A M:Nat):Int:=if M<2 then 1 else if Nat.gcd A M=1 then 0 else 3
theorem Qu:Zc ((1:Int).toNat)=Zc 1:=rfl
theorem Ck (M f:Nat)(h:f<=M)(hM:M<2^256):Zc (WC M f)=Zc (M-f):=by
 refine(W5 _ _).2 ?_;unfold WC;rw[show M+(2^256-f)=M-f+2^256*1 by omega,G_]
theorem Ht (A M:Nat)(w:World)(hM:M<2):
  Calls prog 183 #[.agg (Zc A),.agg (Zc M)] w fun e w'=>e= .returned (.tuple #[.agg (Zc 0),.int .i64 1])/\Below w.heap.size w w':=by
 have rM:Row (((w.alloc (.cells (Zc A) 57)).alloc (.cells (Zc M) 57)).alloc (.cells (Zc 0) 57)) (w.heap.size+1) (Zc M) 57:=(by repeat(first|(refine Row.here ?_;first|(with_reducible rfl)|(simp;done))|refine Row.alloc ?_ _));have rZ:Row (((w.alloc (.cells (Zc A) 57)).alloc (.cells (Zc M) 57)).alloc (.cells (Zc 0) 57)) (w.heap.size+1+1) (Zc 0) 57:=(by repeat(first|(refine Row.here ?_;first|(with_reducible rfl)|(simp;done))|refine Row.alloc ?_ _));have bW:=YD (w:=w) (.cells (Zc A) 57) (.cells (Zc M) 57) (.cells (Zc 0) 57);have hof:=fun w'=>Xl 1 w' (by omega)
 rw[Qu]at hof;have hm:M=0∨M=1:=by omega
 clear hM;rcases hm with rfl|rfl
 ·go_enter func183,ntmps183
  go_wp2_with (first
   |refine Zl rfl 57 _ rfl _ rfl ?_
   |refine Zg rfl 57 rfl _ Zp ?_)
  refine(hof _).mono ?_;rintro e w1 ⟨rfl,hb1⟩;have qM:=(rM.belowAll hb1).alloc (.cells (Zc 1) 57);have qZ:=(rZ.belowAll hb1).alloc (.cells (Zc 1) 57);have b1:=Zk bW (c_ _) hb1;have b2:=b1.alloc b1.size (.cells (Zc 1) 57);clear rM rZ bW hb1 b1 hof
  go_wp2_with (first
   |refine Zg rfl 57 rfl _ Zp ?_
   |refine Zv rfl 57 rfl _ ZA ?_
   |refine ZL rfl 57 _ _ rfl _ rfl rfl _ _ (by exact Zd) (by simp only[Zo]) (Zu _) ?_
   |refine Zj rfl 57 _ rfl _ rfl qM 4 _ b_ (by exact Zd) ?_
   |refine Zy rfl (.bool true) ((ZG _ _ _ rfl 0 0 rfl rfl _).trans (by simp)) ?_
   |refine Zr rfl 57 _ _ rfl _ _ rfl rfl qZ (by exact Zd) (by simp only[Zo]) (Zu _) ?_)
  exact Z9 rfl _ rfl (qZ.setRow (Zc 0)) 4 _ b_ (by exact Zd) rfl _ rfl ⟨rfl,Zq b2 (by omega) _⟩
 ·go_enter func183,ntmps183
  go_wp2_with (first
   |refine Zl rfl 57 _ rfl _ rfl ?_
   |refine Zg rfl 57 rfl _ Zp ?_)
  refine(hof _).mono ?_;rintro e w1 ⟨rfl,hb1⟩;have qM:=(rM.belowAll hb1).alloc (.cells (Zc 1) 57);have qZ:=(rZ.belowAll hb1).alloc (.cells (Zc 1) 57);have q1:=Row.new w1 (Zc 1) 57;have b1:=Zk bW (c_ _) hb1;have b2:=b1.alloc b1.size (.cells (Zc 1) 57);clear rM rZ bW hb1 b1 hof
  go_wp2_with (first
   |refine Zg rfl 57 rfl _ Zp ?_
   |refine Zv rfl 57 rfl _ ZA ?_
   |refine ZL rfl 57 _ _ rfl _ rfl rfl _ _ (by exact Zd) (by simp only[Zo]) (Zu _) ?_
   |refine Zj rfl 57 _ rfl _ rfl qM 4 _ b_ (by exact Zd) ?_
   |refine Zy rfl (.bool false) ((ZG _ _ _ rfl 1 0 rfl rfl _).trans (by simp)) ?_
   |refine XX (by rfl) 57 _ rfl _ rfl qM 4 _ b_ (by exact Zd) ?_
   |refine XX (by rfl) 57 _ rfl _ rfl q1 4 _ b_ (by exact Zd) ?_
   |refine Uh (by rfl) (.bool true) ((ZG _ _ _ rfl 1 1 rfl rfl _).trans (by simp)) ?_
   |refine Zr rfl 57 _ _ rfl _ _ rfl rfl qZ (by exact Zd) (by simp only[Zo]) (Zu _) ?_)
  exact Z9 rfl _ rfl (qZ.setRow (Zc 0)) 4 _ b_ (by exact Zd) rfl _ rfl ⟨rfl,Zq b2 (by omega) _⟩
theorem Ke (A M:Nat)(h2:2<=M)(hg:Nat.gcd A M=1): ∃x,x<M/\x*A%M=1:=by
 suffices h: ∀(n L S b f:Nat) (neg:Bool),S<=n->Iv A M L S b f neg-> ∃x,x<M/\x*A%M=1 from h (A%M) M (A%M) 0 1 false (c_ _) (Nc A M h2)
 intro n
 induction n with
 |zero=>
  intro L S b f neg hS hI;exfalso;have h0:S=0:=by omega
  have:=hI.gcd;rw[h0,hQ0,hg]at this;exact hI.ne this
 |succ n ih=>
  intro L S b f neg hS hI;by_cases h0:S=0
  ·exact ih L S b f neg (by omega) hI
  ·by_cases h1:S=1
   ·subst h1;obtain⟨hf,_⟩:=Kd A M L b f neg h2 hI;obtain⟨k,hk⟩:=hI.low;have hp:=hI.pos;cases neg
    ·refine⟨f,hf,?_⟩
     have e:((f*A:Nat):Int)=1+(M:Int)*k:=by
      push_cast
      have:(f:Int)*A-1*((1:Nat):Int)=(M:Int)*k:=hk;omega
     have:((f*A%M:Nat):Int)=1:=by
      rw[fO0,e,dR0];exact gK0 (by omega) (by omega)
     exact_mod_cast this
    ·refine⟨M-f,by omega,?_⟩
     have e:(((M-f)*A:Nat):Int)=1+(M:Int)*(A-k):=by
      push_cast [hP0 hf]
      have:(f:Int)*A- -1*((1:Nat):Int)=(M:Int)*k:=hk;rw[Int.sub_mul,Int.mul_sub];omega
     have:(((M-f)*A%M:Nat):Int)=1:=by
      rw[fO0,e,dR0];exact gK0 (by omega) (by omega)
     exact_mod_cast this
   ·have hlt:=m_ L (show 0<S by omega);exact ih S (L%S) f (b+L/S*f) (!neg) (by omega) (Kc A M L S b f neg hI (by omega) h1)
theorem Kf (A M:Nat)(h2:2<=M)(hg:Nat.gcd A M=1):Ru A M<M/\Ru A M*A%M=1:=by
 unfold Ru;rw[i_ (by omega),j_ hg];obtain⟨x,hx,h⟩:=Ke A M h2 hg;rw[UD A M x hx h];exact⟨hx,h⟩
section
variable {P:Program}{o:Oper}{ρ:Operand->Value}
theorem X3 (t:TypeId)(x y:Operand)(u:TypeId)(ho:o.op= .binOp .quo t x y u)(n m:Nat)(hx:ρ x= .int .i64 n)(hy:ρ y= .int .i64 m)(hm:0<m)(hn:n<9223372036854775808)(w:World):
  (execOp ρ o).run P w= .ok (.value (.int .i64 ((n/m:Nat):Int))) w:=by
 have h0: ¬(m=0):=by omega
 have h2:n/m<=n:=bP0 _ _;have h3:=wrap_i64 (n/m) (by omega);rw[Int.natCast_ediv]at h3 ⊢;unfold execOp;simp only[ho,hx,hy];simp[go_sem];rw[i_ h0,h3]
theorem YO (t:TypeId)(x y:Operand)(u:TypeId)(ho:o.op= .binOp .rem t x y u)(n m:Nat)(hx:ρ x= .int .i64 n)(hy:ρ y= .int .i64 m)(hm:0<m)(w:World):
  (execOp ρ o).run P w= .ok (.value (.int .i64 ((n%m:Nat):Int))) w:=by
 have h0: ¬(m=0):=by omega
 unfold execOp;simp only[ho,hx,hy];simp[go_sem];rw[i_ h0,dS0 (by omega)]
theorem Mt (t:TypeId)(x y:Operand)(u:TypeId)(ho:o.op= .binOp .shr t x y u)(n s:Nat)(hx:ρ x= .int .i64 n)(hy:ρ y= .int .i64 s)(hs:s<64)(w:World):
  (execOp ρ o).run P w= .ok (.value (.int .i64 ((n/2^s:Nat):Int))) w:=by
 unfold execOp;simp only[ho,hx,hy];simp[go_sem]
theorem WH (b:BinOp)(t:TypeId)(x y:Operand)(u:TypeId)(hb:b= .and∨b= .or)(ho:o.op= .binOp b t x y u)(n m:Int)(hx:ρ x= .int .i64 n)(hy:ρ y= .int .i64 m)(w:World):
  (execOp ρ o).run P w= .ok (.value (.int .i64 (bits b .i64 n m))) w:=by
 unfold execOp;simp only[ho,hx,hy];rcases hb with rfl|rfl
 ·simp[go_sem]
 ·simp[go_sem]
theorem Mu (t:TypeId)(x y:Operand)(u:TypeId)(ho:o.op= .binOp .shl t x y u)(n s:Nat)(hx:ρ x= .int .i64 n)(hy:ρ y= .int .i64 s)(hs:s<64)(w:World):
  (execOp ρ o).run P w= .ok (.value (.int .i64 (IntKind.i64.wrap ((n:Int)*2^s)))) w:=by
 unfold execOp;simp only[ho,hx,hy];simp[go_sem]
theorem Mv (t:TypeId)(x y:Operand)(u:TypeId)(ho:o.op= .binOp .add t x y u)(n m:Int)(hx:ρ x= .int .i64 n)(hy:ρ y= .int .i64 m)(w:World):
  (execOp ρ o).run P w= .ok (.value (.int .i64 (IntKind.i64.wrap (n+m)))) w:=by
 unfold execOp;simp only[ho,hx,hy];simp[go_sem]
theorem SI (t:TypeId)(x y:Operand)(u:TypeId)(ho:o.op= .binOp .mul t x y u)(n m:Int)(hx:ρ x= .int .i64 n)(hy:ρ y= .int .i64 m)(w:World):
  (execOp ρ o).run P w= .ok (.value (.int .i64 (IntKind.i64.wrap (n*m)))) w:=by
 unfold execOp;simp only[ho,hx,hy];simp[go_sem]
theorem Zz (t:TypeId)(x:Operand)(ho:o.op= .unOp .not t x)(b:Bool)(hx:ρ x= .bool b)(w:World):(execOp ρ o).run P w= .ok (.value (.bool (!b))) w:=by
 unfold execOp;simp only[ho,hx];simp[go_sem]
end
end Go.Proofs.YtnagnkhbamhfmaaGreatDoor
