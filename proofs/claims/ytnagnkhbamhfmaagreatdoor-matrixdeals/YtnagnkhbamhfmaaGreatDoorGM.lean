import Derived.Laws.Bits64b
import Derived.Test.YtnagnkhbamhfmaaGreatDoorGE
set_option maxRecDepth 100000
set_option maxHeartbeats 8000000
namespace Go.Proofs.YtnagnkhbamhfmaaGreatDoor
set_option linter.all false
open Go.Proofs.Tryz
def dg (N i:Nat):Nat:=N/2^(16*i)%65536
def RC (f:Nat->Nat):Array Value:=Array.ofFn (n:=32) fun i=>.int .i64 (f i:Nat)
def ZU (N:Nat):Array Value:=RC (dg N)
theorem RD (N i:Nat):dg N i<65536:=m_ _ (by decide)
theorem Wx (f:Nat->Nat):(RC f).size=32:=by simp[RC]
theorem ZF (N:Nat):(ZU N).size=32:=Wx _
theorem Vt (f:Nat->Nat)(i:Nat)(h:i<32):(RC f)[i]?=some (.int .i64 (f i:Nat)):=by simp[RC,h]
theorem U7 (N i:Nat)(h:i<32):(ZU N)[i]?=some (.int .i64 (dg N i:Nat)):=Vt _ i h
theorem Gj (f:Nat->Nat):(RC f).all (·.oneCell')=true:=by
 rw[bZ0];intro v hv;simp only[RC,Array.mem_ofFn]at hv;obtain⟨i,rfl⟩:=hv;rfl
theorem YU (N:Nat):(ZU N).all (·.oneCell')=true:=Gj _
theorem UG (f g:Nat->Nat)(h: ∀i,i<32->f i=g i):RC f=RC g:=by
 apply C_;intro i;by_cases hi:i<32
 ·rw[Vt f i hi,Vt g i hi,h i hi]
 ·rw[h_ (by rw[Wx];omega),h_ (by rw[Wx];omega)]
theorem U8 (f g:Nat->Nat)(k v:Nat)(h: ∀i,i<32->g i=if i=k then v else f i):(RC f).setIfInBounds k (.int .i64 (v:Nat))=RC g:=by
 apply C_;intro i;by_cases hi:i<32
 ·rw[U_,Vt g i hi,h i hi];by_cases hk:k=i
  ·subst hk;simp[Wx,hi]
  ·rw[i_ hk,Vt f i hi,i_ (fun e=>hk e.symm)]
 ·rw[h_ (by simp[Wx];omega),h_ (by rw[Wx];omega)]
theorem KE (i:Nat):dg 0 i=0:=by simp[dg]
theorem QG:ZU 0=Array.replicate 32 (.int .i64 0):=by
 apply C_;intro i;by_cases h:i<32
 ·rw[U7 0 i h,KE];simp[h]
 ·rw[h_ (by rw[ZF];omega),h_ (by simp;omega)]
theorem Y6 (N i j:Nat):(dg N i).testBit j=(decide (j<16)&&N.testBit (16*i+j)):=by
 unfold dg;rw[show 65536=2^16 from rfl,n_,aU0,bM0]
theorem Nn (N k i:Nat):dg (N%2^(16*k)) i=if i<k then dg N i else 0:=by
 apply y_;intro j;rw[Y6,n_]
 split
 ·rw[Y6];by_cases hj:j<16
  ·simp[hj,show 16*i+j<16*k by omega]
  ·simp[hj]
 ·rw[Nat.zero_testBit];by_cases hj:j<16
  ·simp[show ¬16*i+j<16*k by omega]
  ·simp[hj]
theorem TJ (N k v:Nat)(hv:v=dg N k):(ZU (N%2^(16*k))).setIfInBounds k (.int .i64 (v:Nat))=ZU (N%2^(16*(k+1))):=by
 subst hv;refine U8 _ _ _ _ fun i _=>?_
 rw[Nn,Nn];by_cases e:i=k
 ·subst e;rw[j_ (by omega),j_ rfl]
 ·rw[i_ e];by_cases h:i<k
  ·rw[j_ (by omega),j_ h]
  ·rw[i_ (by omega),i_ h]
theorem QH (N:Nat):ZU (N%2^(16*32))=ZU N:=
 UG _ _ fun i hi=>by rw[Nn N 32 i,j_ hi]
theorem A8 (L H i:Nat)(hL:L<2^256)(hi:i<16):dg (L+2^256*H) i=dg L i:=by
 have h:=Nn (L+2^256*H) 16 i;rw[j_ hi,show 16*16=256 from rfl,G_,g_ hL]at h;exact h.symm
theorem CJ (L H i:Nat)(hL:L<2^256):dg (L+2^256*H) (16+i)=dg H i:=by
 unfold dg;rw[show 16*(16+i)=256+16*i by omega,Z_,<-v_,Nat.add_mul_div_left _ _ (by decide),F_ hL,B_]
theorem MN (L H:Nat)(hL:L<2^256)(f:Nat->Nat)(h1: ∀i,i<16->f i=dg L i)(h2: ∀i,i<16->f (16+i)=dg H i):RC f=ZU (L+2^256*H):=
 UG _ _ fun i hi=>by
  by_cases h:i<16
  ·rw[h1 i h,A8 L H i hL h]
  ·rw[show i=16+(i-16) by omega,h2 _ (by omega),CJ L H _ hL]
theorem xf (N k:Nat):lm N (k/4)/2^(16*(k%4))%65536=dg N k:=by
 apply y_;intro j;rw[Y6,show 65536=2^16 from rfl,n_,aU0,ZP];by_cases hj:j<16
 ·simp only[hj,decide_true,bD0,show j+16*(k%4)<64 by omega]
  congr 1;omega
 ·simp[hj]
theorem KF (x:Nat)(h:x<18446744073709551616):bits .and .u64 (x:Int) 65535=((x%65536:Nat):Int):=by
 rw[show(65535:Int)=((65535:Nat):Int)from rfl,u64_and_nat _ _ h (by decide),show 65535=2^16-1 from rfl,cX0]
theorem Oc (x:Nat)(h:x<9223372036854775808):bits .and .i64 (x:Int) 65535=((x%65536:Nat):Int):=by
 rw[show(65535:Int)=((65535:Nat):Int)from rfl,VG _ _ h (by decide),show 65535=2^16-1 from rfl,cX0]
theorem SQ (N k:Nat):bits .and .u64 ((lm N (k/4):Int)/2^(16*(k%4))) 65535=(dg N k:Int):=by
 have h1:((lm N (k/4):Int)/2^(16*(k%4)))=((lm N (k/4)/2^(16*(k%4)):Nat):Int):=by simp
 have h2:=Xj N (k/4);rw[h1,KF _ (T_ (bP0 _ _) h2),xf]
theorem TK (A k:Nat):A%2^(16*(k+1))=A%2^(16*k)+2^(16*k)*dg A k:=by
 rw[show 16*(k+1)=16*k+16 by omega,Z_,Nat.mod_mul];rfl
theorem QI (k:Nat):2^(16*(k+1))=2^(16*k)*65536:=by
 rw[show 16*(k+1)=16*k+16 by omega,Z_]
theorem SR (N k:Nat)(hk:k<16):(Zc (N%2^(16*k))).setIfInBounds (k/4) (.int .u64 ((lm (N%2^(16*k)) (k/4)|||dg N k*2^(16*(k%4)):Nat):Int))=Zc (N%2^(16*(k+1))):=by
 refine WB _ _ _ _ (by omega) ?_ ?_
 ·apply y_;intro j;rw[cI0,Nat.testBit_mul_two_pow,ZP,ZP,Y6,n_,n_];by_cases hj:j<64
  ·by_cases h1:16*(k%4)<=j
   ·by_cases h2:j-16*(k%4)<16
    ·have e2:64*(k/4)+j=16*k+(j-16*(k%4)):=by omega
     rw[e2];simp[hj,h1,h2,show ¬(16*k+(j-16*(k%4))<16*k) by omega,show 16*k+(j-16*(k%4))<16*(k+1) by omega]
    ·simp[hj,h1,h2,show ¬64*(k/4)+j<16*k by omega,show ¬64*(k/4)+j<16*(k+1) by omega]
   ·simp[hj,h1,show 64*(k/4)+j<16*k by omega,show 64*(k/4)+j<16*(k+1) by omega]
  ·simp[hj,show ¬j-16*(k%4)<16 by omega]
 ·intro i hi hne;apply y_;intro j;rw[ZP,ZP,n_,n_];by_cases hj:j<64
  ·by_cases h1:64*i+j<16*k
   ·simp[h1,show 64*i+j<16*(k+1) by omega]
   ·simp[h1,show ¬64*i+j<16*(k+1) by omega]
  ·simp[hj]
theorem No (L d s:Nat)(hL:L<18446744073709551616)(hd:d<65536)(hs:s<4):bits .or .u64 (L:Int) (IntKind.u64.wrap ((d:Int)*2^(16*s)))=((L|||d*2^(16*s):Nat):Int):=by
 have h2:d*2^(16*s)<18446744073709551616:=by
  have h3:2^(16*s)<=2^48:=aF0 (by decide) (by omega);have h4:d*2^(16*s)<=d*2^48:=R_ _ h3;omega
 rw[show((d:Int)*2^(16*s))=((d*2^(16*s):Nat):Int) by simp,wrap_u64 _ h2,gY0 _ _ hL h2]
theorem Gk (N k:Nat):dg N (16+k)=dg (N/2^256) k:=by
 unfold dg;rw[show 16*(16+k)=256+16*k by omega,Z_,<-v_]
open Go.RowKit
theorem Np:(prog.info? 206).map (fun i=>(i.zero,i.size))=some (some (.agg (Array.replicate 32 (.int .i64 0))),32):=by kernel_rfl
theorem X1 (w:World):(zeroValue 206).run prog w= .ok (.agg (ZU 0)) w:=by rw[QG];exact(Q_ Np).1 w
theorem Z0:(prog.info? 206).map (·.size)=some 32:=(Q_ Np).2
theorem Ve:prog.built 206 []=some (ZU 0):=by rw[QG];kernel_rfl
theorem X2 {w:World}{b N:Nat}(h:Row w b (ZU N) 206)(i:Nat)(hi:i<32):w.cell? ⟨b,i,none⟩=some (.int .i64 (dg N i:Nat)):=by rw[h.cell];exact U7 _ _ hi
theorem QJ {w:World}{b:Nat}{f:Nat->Nat}(h:Row w b (RC f) 206)(i:Nat)(hi:i<32):w.cell? ⟨b,i,none⟩=some (.int .i64 (f i:Nat)):=by rw[h.cell];exact Vt _ _ hi
theorem WK {B:Nat}{a w:World}(h:Below B a w)(n:Nat):Below B a (w.drewN n):=h.trans ⟨rfl,rfl,rfl,c_ _,fun _ _=>rfl⟩
def ofF (L H k i:Nat):Nat:=if i<k then dg L i else if 16<=i/\i<16+k then dg H (i-16)else 0
theorem Gl (L H:Nat):RC (ofF L H 0)=ZU 0:=UG _ _ fun i _=>by rw[KE];unfold ofF;rw[i_ (by omega),i_ (by omega)]
theorem Gm (L H:Nat)(hL:L<2^256):RC (ofF L H 16)=ZU (L+2^256*H):=
 MN L H hL _ (fun i hi=>by unfold ofF;rw[j_ hi]) (fun i hi=>by unfold ofF;rw[i_ (by omega),j_ (by omega),show 16+i-16=i by omega])
theorem Gn (L H k:Nat)(hk:k<16):((RC (ofF L H k)).setIfInBounds k (.int .i64 (dg L k:Nat))).setIfInBounds (16+k) (.int .i64 (dg H k:Nat))=RC (ofF L H (k+1)):=by
 rw[U8 (ofF L H k) (fun i=>if i=k then dg L k else ofF L H k i) k _ (fun i _=>rfl)];refine U8 _ _ _ _ fun i hi=>?_
 unfold ofF;by_cases h1:i=16+k
 ·subst h1;rw[j_ rfl,i_ (by omega),j_ (by omega),show 16+k-16=k by omega]
 ·rw[i_ h1];by_cases h2:i=k
  ·subst h2;rw[j_ rfl,j_ (by omega)]
  ·rw[i_ h2];by_cases h3:i<k
   ·rw[j_ h3,j_ (by omega)]
   ·rw[i_ h3,i_ (by omega)];by_cases h4:16<=i/\i<16+k
    ·rw[j_ h4,j_ (by omega)]
    ·rw[i_ h4,i_ (by omega)]
theorem KG (L H:Nat)(w:World)(hL:L<2^256):
  Calls prog 175 #[.agg (Zc L),.agg (Zc H)] w fun e w'=>e= .returned (.agg (ZU (L+2^256*H)))/\Below w.heap.size w w':=by
 have HL:Hid (L<2^256):=hL;clear hL
 go_enter func175,ntmps175
 go_wp2_with (first
  |refine Zl rfl 57 _ rfl _ rfl ?_
  |refine Zg rfl 206 rfl _ X1 ?_
  |refine Zv rfl 206 rfl _ Ve ?_
  |refine ZL rfl 206 _ _ rfl _ rfl rfl _ _ (by rw[ZF];exact Z0) (by simp only[ZF]) (YU _) ?_)
 have s0:Row ((((w.alloc (.cells (Zc L) 57)).alloc (.cells (Zc H) 57)).alloc (.cells (ZU 0) 206)).alloc (.cells (ZU 0) 206)) w.heap.size (Zc L) 57:=(by repeat(first|(refine Row.here ?_;first|(with_reducible rfl)|(simp;done))|refine Row.alloc ?_ _));have s1:Row ((((w.alloc (.cells (Zc L) 57)).alloc (.cells (Zc H) 57)).alloc (.cells (ZU 0) 206)).alloc (.cells (ZU 0) 206)) (w.heap.size+1) (Zc H) 57:=(by repeat(first|(refine Row.here ?_;first|(with_reducible rfl)|(simp;done))|refine Row.alloc ?_ _));have s2:Row ((((w.alloc (.cells (Zc L) 57)).alloc (.cells (Zc H) 57)).alloc (.cells (ZU 0) 206)).alloc (.cells (ZU 0) 206)) (w.heap.size+1+1) (ZU 0) 206:=(by repeat(first|(refine Row.here ?_;first|(with_reducible rfl)|(simp;done))|refine Row.alloc ?_ _));have s3:Row ((((w.alloc (.cells (Zc L) 57)).alloc (.cells (Zc H) 57)).alloc (.cells (ZU 0) 206)).alloc (.cells (ZU 0) 206)) (w.heap.size+1+1+1) (ZU 0) 206:=(by repeat(first|(refine Row.here ?_;first|(with_reducible rfl)|(simp;done))|refine Row.alloc ?_ _));have s4:Below w.heap.size w ((((w.alloc (.cells (Zc L) 57)).alloc (.cells (Zc H) 57)).alloc (.cells (ZU 0) 206)).alloc (.cells (ZU 0) 206)):=(by repeat(first|exact H_ _ _|refine dN0 ?_ (by simp<;>omega) _));generalize ((((w.alloc (.cells (Zc L) 57)).alloc (.cells (Zc H) 57)).alloc (.cells (ZU 0) 206)).alloc (.cells (ZU 0) 206))=W at*
 go_loopg [6] 16 (fun g s6 wr=> ∃k:Nat,k+g=16/\s6= .int .i64 k/\Row wr w.heap.size (Zc L) 57/\Row wr (w.heap.size+1) (Zc H) 57/\Row wr (w.heap.size+1+1) (ZU 0) 206/\Row wr (w.heap.size+1+1+1) (RC (ofF L H k)) 206/\Below w.heap.size w wr)
 case atStart=>exact⟨0,by omega,rfl,s0,s1,s2,by rw[Gl];exact s3,s4⟩
 case round=>
  obtain⟨k,hk,rfl,r0,r1,r2,r3,hb⟩:=hrel;clear s0 s1 s2 s3 s4
  cases gk with
  |zero=>
   obtain rfl:k=16:=by omega
   rw[Gm L H HL.out]at r3;clear hk;have hx: ¬((16:Int)<16):=by omega
   go_wp2_with (first
    |refine Zj rfl 206 _ rfl _ rfl r3 32 _ aW0 (by rw[ZF];exact Z0) ?_
    |refine Zr rfl 206 _ _ rfl _ _ rfl rfl r2 (by rw[ZF];exact Z0) (by simp only[ZF]) (YU _) ?_)
   exact ZM rfl _ rfl (r2.setRow _) 32 _ aW0 (by rw[ZF];exact Z0) rfl ⟨rfl,Zq hb (by omega) _⟩
  |succ g=>
   have hlt:(k:Int)<16:=by omega
   have hc0:=ZV r0 (k/4) (by omega);have hc1:=ZV r1 (k/4) (by omega);have hc3:=QJ r3 k (by omega);have hc4:=QJ r3 (16+k) (by omega);have hf3:=r3.frozen k;have hf4:=r3.frozen (16+k);have hl:=Xj L (k/4);have hh:=Xj H (k/4);have R:Aside (Row wr w.heap.size (Zc L) 57/\Row wr (w.heap.size+1) (Zc H) 57/\Row wr (w.heap.size+1+1) (ZU 0) 206/\Row wr (w.heap.size+1+1+1) (RC (ofF L H k)) 206/\Below w.heap.size w wr):=⟨r0,r1,r2,r3,hb⟩;have e1:=SQ L k;have e2:=SQ H k;have d1:=RD L k;have d2:=RD H k;clear r0 r1 r2 r3 hb;go_wp2;obtain⟨r0,r1,r2,r3,hb⟩:=R.out
   go_roundg g
   case measure=>omega
   case rel=>
    refine⟨k+1,by omega,by go_num,(r0.setCell_far _ _ _ (by omega)).setCell_far _ _ _ (by omega),(r1.setCell_far _ _ _ (by omega)).setCell_far _ _ _ (by omega),(r2.setCell_far _ _ _ (by omega)).setCell_far _ _ _ (by omega),?_,ZN (ZN hb (by omega) _ _) (by omega) _ _⟩;have:=(r3.setCell k (.int .i64 (dg L k:Nat))).setCell (16+k) (.int .i64 (dg H k:Nat));rw[Gn L H k (by omega)]at this;exact this
def tw (A c k:Nat):Nat:=(2*(A%2^(16*k))+c)/2^(16*k)
theorem CK (A c:Nat):tw A c 0=c:=by unfold tw;rw[bE0,W_,aP0,bR0];omega
theorem xg (A c k:Nat)(hc:c<=1):tw A c k<=1:=by
 unfold tw;have hP:=w_ (16*k);have h:=m_ A hP;generalize 2^(16*k)=P at*;have:(2*(A%P)+c)/P<2:=(aX0 hP).2 (by omega);omega
theorem CL (A c P:Nat)(hP:0<P):(2*A+c)/P=2*(A/P)+(2*(A%P)+c)/P:=by
 have h:=I_ A P
 have e:2*A+c=P*(2*(A/P))+(2*(A%P)+c):=by
  rw[<-x_,t_ P 2,x_];omega
 rw[e,cT0 hP]
theorem Gp (A c k:Nat):dg (2*A+c) k=(2*dg A k+tw A c k)%65536:=by
 unfold dg tw;rw[CL A c _ (w_ _)];omega
theorem CN (A c k:Nat):tw A c (k+1)=(2*dg A k+tw A c k)/65536:=by
 unfold tw;rw[TK,QI,<-v_];have hP:=w_ (16*k);generalize 2^(16*k)=P at*;generalize A%P=a at*;generalize dg A k=d at*;rw[show 2*(a+P*d)+c=P*(2*d)+(2*a+c) by rw[<-x_,t_ P 2,x_];omega,cT0 hP]
theorem KH (A c:Nat)(w:World)(hc:c<=1):
  Calls prog 204 #[.agg (ZU A),.int .i64 c] w fun e w'=>e= .returned (.agg (ZU (2*A+c)))/\Below w.heap.size w w':=by
 go_enter func204,ntmps204
 go_wp2_with (first
  |refine Zl rfl 206 _ rfl _ rfl ?_
  |refine Zg rfl 206 rfl _ X1 ?_
  |refine Zv rfl 206 rfl _ Ve ?_
  |refine ZL rfl 206 _ _ rfl _ rfl rfl _ _ (by rw[ZF];exact Z0) (by simp only[ZF]) (YU _) ?_)
 have s0:Row (((w.alloc (.cells (ZU A) 206)).alloc (.cells (ZU 0) 206)).alloc (.cells (ZU 0) 206)) w.heap.size (ZU A) 206:=(((Row.here (by first|rfl|simp only[ZW])).alloc _).alloc _);have s1:Row (((w.alloc (.cells (ZU A) 206)).alloc (.cells (ZU 0) 206)).alloc (.cells (ZU 0) 206)) (w.heap.size+1) (ZU 0) 206:=((Row.here (by first|rfl|simp only[ZW])).alloc _);have s2:Row (((w.alloc (.cells (ZU A) 206)).alloc (.cells (ZU 0) 206)).alloc (.cells (ZU 0) 206)) (w.heap.size+1+1) (ZU 0) 206:=(Row.here (by first|rfl|simp only[ZW]));have s3:=YD (w:=w) (.cells (ZU A) 206) (.cells (ZU 0) 206) (.cells (ZU 0) 206);generalize (((w.alloc (.cells (ZU A) 206)).alloc (.cells (ZU 0) 206)).alloc (.cells (ZU 0) 206))=W at*
 go_loopg [6,7] 32 (fun g s6 s7 wr=> ∃k:Nat,k+g=32/\s6= .int .i64 (tw A c k:Nat)/\s7= .int .i64 k/\Row wr w.heap.size (ZU A) 206/\Row wr (w.heap.size+1) (ZU 0) 206/\Row wr (w.heap.size+1+1) (ZU ((2*A+c)%2^(16*k))) 206/\Below w.heap.size w wr)
 case atStart=>exact⟨0,by omega,by rw[CK],rfl,s0,s1,by rw[bE0,W_,aP0];exact s2,s3⟩
 case round=>
  obtain⟨k,hk,rfl,rfl,r0,r1,r2,hb⟩:=hrel;clear s0 s1 s2 s3
  cases gk with
  |zero=>
   obtain rfl:k=32:=by omega
   rw[QH]at r2;clear hk;have hx: ¬((32:Int)<32):=by omega
   go_wp2_with (first
    |refine Zj rfl 206 _ rfl _ rfl r2 32 _ aW0 (by rw[ZF];exact Z0) ?_
    |refine Zr rfl 206 _ _ rfl _ _ rfl rfl r1 (by rw[ZF];exact Z0) (by simp only[ZF]) (YU _) ?_)
   exact ZM rfl _ rfl (r1.setRow _) 32 _ aW0 (by rw[ZF];exact Z0) rfl ⟨rfl,Zq hb (by omega) _⟩
  |succ g=>
   have hlt:(k:Int)<32:=by omega
   have hc0:=X2 r0 k (by omega);have hc2:=X2 r2 k (by omega);have hf2:=r2.frozen k;have R:Aside (Row wr w.heap.size (ZU A) 206/\Row wr (w.heap.size+1) (ZU 0) 206/\Row wr (w.heap.size+1+1) (ZU ((2*A+c)%2^(16*k))) 206/\Below w.heap.size w wr):=⟨r0,r1,r2,hb⟩;have D:Aside (dg (2*A+c) k=(2*dg A k+tw A c k)%65536/\tw A c (k+1)=(2*dg A k+tw A c k)/65536):=⟨Gp A c k,CN A c k⟩;have d0:=RD A k;have d1:=xg A c k hc;clear r0 r1 r2 hb;generalize dg A k=d at*;generalize tw A c k=t at*;have e1:=Oc (2*d+t) (by omega);rw[show((2*d+t:Nat):Int)=2*(d:Int)+t by omega]at e1;go_wp2;obtain⟨r0,r1,r2,hb⟩:=R.out;obtain⟨h1,h2⟩:=D.out
   go_roundg g
   case measure=>omega
   case rel=>
    refine⟨k+1,by omega,?_,by go_num,r0.setCell_far _ _ _ (by omega),r1.setCell_far _ _ _ (by omega),?_,ZN hb (by omega) _ _⟩
    ·rw[h2];go_num
    ·have:=r2.setCell k (.int .i64 ((2*d+t)%65536:Nat));rw[TJ (2*A+c) k _ h1.symm]at this;exact this
theorem KI (A B P:Nat)(hP:0<P)(h:B<=A):(A-B)/P=A/P-B/P-if A%P<B%P then 1 else 0:=by
 have ha:=I_ A P;have hb:=I_ B P;have ma:=m_ A hP;have mb:=m_ B hP;have hle:B/P<=A/P:=gW0 h;generalize A/P=x at*;generalize B/P=y at*;generalize A%P=a at*;generalize B%P=b at*;obtain⟨z,rfl⟩: ∃z,x=y+z:=⟨x-y,by omega⟩
 have e:P*(y+z)=P*y+P*z:=aB0 _ _ _
 split
 ·cases z with
  |zero=>rw[bE0]at e;omega
  |succ z=>
   have e2:P*(z+1)=P*z+P:=by rw[aB0,M_]
   rw[show A-B=P*z+(P+a-b) by omega,cT0 hP,F_ (by omega)];omega
 ·rw[show A-B=P*z+(a-b) by omega,cT0 hP,F_ (by omega)];omega
theorem Gq (A B k:Nat)(h:B<=A):dg (A-B) k=(dg A k+65536-dg B k-bN A B (16*k))%65536:=by
 unfold dg bN;rw[KI A B _ (w_ _) h];have hle:B/2^(16*k)<=A/2^(16*k):=gW0 h
 have hs:A%2^(16*k)<B%2^(16*k)->B/2^(16*k)<A/2^(16*k):=fun hm=>by
  have ha:=I_ A (2^(16*k));have hb:=I_ B (2^(16*k));rcases Nat.lt_or_eq_of_le hle with h1|h1
  ·exact h1
  ·rw[h1]at hb;omega
 generalize A/2^(16*k)=x at*;generalize B/2^(16*k)=y at*
 split
 ·have:=hs (by assumption);omega
 ·omega
theorem KJ (A B k:Nat):bN A B (16*(k+1))=if dg A k<dg B k+bN A B (16*k)then 1 else 0:=by
 have hP:=w_ (16*k);have ha:=m_ A hP;have hb:=m_ B hP;unfold bN;rw[TK,TK];generalize dg A k=x at*;generalize dg B k=y at*;generalize 2^(16*k)=P at*;generalize A%P=a at*;generalize B%P=b at*;have key: ∀u v:Nat,u<=v->P*u<=P*v:=fun u v h=>R_ P h
 obtain⟨c,hc,e⟩: ∃c,(if a<b then 1 else 0)=c/\((a<b/\c=1)∨(¬a<b/\c=0)):=⟨_,rfl,by
  by_cases hc:a<b
  ·exact .inl ⟨hc,j_ hc⟩
  ·exact .inr ⟨hc,i_ hc⟩⟩
 rw[hc];rcases Nat.lt_trichotomy x y with h|h|h
 ·have:=key (x+1) y h;rw[aB0,M_]at this;rw[j_ (by omega),j_ (by omega)]
 ·subst h;rcases e with ⟨e1,e2⟩|⟨e1,e2⟩
  ·rw[j_ (by omega),j_ (by omega)]
  ·rw[i_ (by omega),i_ (by omega)]
 ·have:=key (y+1) x h;rw[aB0,M_]at this;rw[i_ (by omega),i_ (by omega)]
theorem Gr (A B:Nat)(w:World)(h:B<=A):
  Calls prog 206 #[.agg (ZU A),.agg (ZU B)] w fun e w'=>e= .returned (.agg (ZU (A-B)))/\Below w.heap.size w w':=by
 have HL:Hid (B<=A):=h;clear h
 go_enter func206,ntmps206
 go_wp2_with (first
  |refine Zl rfl 206 _ rfl _ rfl ?_
  |refine Zg rfl 206 rfl _ X1 ?_
  |refine Zv rfl 206 rfl _ Ve ?_
  |refine ZL rfl 206 _ _ rfl _ rfl rfl _ _ (by rw[ZF];exact Z0) (by simp only[ZF]) (YU _) ?_)
 have s0:Row ((((w.alloc (.cells (ZU A) 206)).alloc (.cells (ZU B) 206)).alloc (.cells (ZU 0) 206)).alloc (.cells (ZU 0) 206)) w.heap.size (ZU A) 206:=((((Row.here (by first|rfl|simp only[ZW])).alloc _).alloc _).alloc _);have s1:Row ((((w.alloc (.cells (ZU A) 206)).alloc (.cells (ZU B) 206)).alloc (.cells (ZU 0) 206)).alloc (.cells (ZU 0) 206)) (w.heap.size+1) (ZU B) 206:=(((Row.here (by first|rfl|simp only[ZW])).alloc _).alloc _);have s2:Row ((((w.alloc (.cells (ZU A) 206)).alloc (.cells (ZU B) 206)).alloc (.cells (ZU 0) 206)).alloc (.cells (ZU 0) 206)) (w.heap.size+1+1) (ZU 0) 206:=((Row.here (by first|rfl|simp only[ZW])).alloc _);have s3:Row ((((w.alloc (.cells (ZU A) 206)).alloc (.cells (ZU B) 206)).alloc (.cells (ZU 0) 206)).alloc (.cells (ZU 0) 206)) (w.heap.size+1+1+1) (ZU 0) 206:=(Row.here (by first|rfl|simp only[ZW]));have s4:Below w.heap.size w ((((w.alloc (.cells (ZU A) 206)).alloc (.cells (ZU B) 206)).alloc (.cells (ZU 0) 206)).alloc (.cells (ZU 0) 206)):=(by repeat(first|exact H_ _ _|refine dN0 ?_ (by simp<;>omega) _));generalize ((((w.alloc (.cells (ZU A) 206)).alloc (.cells (ZU B) 206)).alloc (.cells (ZU 0) 206)).alloc (.cells (ZU 0) 206))=W at*
 go_loopg [5,7] 32 (fun g s5 s7 wr=> ∃k:Nat,k+g=32/\s5= .int .i64 (bN A B (16*k):Nat)/\s7= .int .i64 k/\Row wr w.heap.size (ZU A) 206/\Row wr (w.heap.size+1) (ZU B) 206/\Row wr (w.heap.size+1+1) (ZU 0) 206/\Row wr (w.heap.size+1+1+1) (ZU ((A-B)%2^(16*k))) 206/\Below w.heap.size w wr)
 case atStart=>exact⟨0,by omega,by simp[bN,aP0],rfl,s0,s1,s2,by rw[bE0,W_,aP0];exact s3,s4⟩
 case round=>
  obtain⟨k,hk,rfl,rfl,r0,r1,r2,r3,hb⟩:=hrel;clear s0 s1 s2 s3 s4
  cases gk with
  |zero=>
   obtain rfl:k=32:=by omega
   rw[QH]at r3;clear hk;have hx: ¬((32:Int)<32):=by omega
   go_wp2_with (first
    |refine Zj rfl 206 _ rfl _ rfl r3 32 _ aW0 (by rw[ZF];exact Z0) ?_
    |refine Zr rfl 206 _ _ rfl _ _ rfl rfl r2 (by rw[ZF];exact Z0) (by simp only[ZF]) (YU _) ?_)
   exact ZM rfl _ rfl (r2.setRow _) 32 _ aW0 (by rw[ZF];exact Z0) rfl ⟨rfl,Zq hb (by omega) _⟩
  |succ g=>
   have hlt:(k:Int)<32:=by omega
   have hc0:=X2 r0 k (by omega);have hc1:=X2 r1 k (by omega);have hc3:=X2 r3 k (by omega);have hf3:=r3.frozen k;have R:Aside (Row wr w.heap.size (ZU A) 206/\Row wr (w.heap.size+1) (ZU B) 206/\Row wr (w.heap.size+1+1) (ZU 0) 206/\Row wr (w.heap.size+1+1+1) (ZU ((A-B)%2^(16*k))) 206/\Below w.heap.size w wr):=⟨r0,r1,r2,r3,hb⟩;have D:Aside (dg (A-B) k=(dg A k+65536-dg B k-bN A B (16*k))%65536/\bN A B (16*(k+1))=if dg A k<dg B k+bN A B (16*k)then 1 else 0):=⟨Gq A B k HL.out,KJ A B k⟩;have d0:=RD A k;have d1:=RD B k;have d2:=IY A B (16*k);clear r0 r1 r2 r3 hb;generalize dg A k=x at*;generalize dg B k=y at*;generalize bN A B (16*k)=b at*;by_cases hneg:(x:Int)-y-b<0
   ·go_wp2
    go_quiet (fail)
    go_wp2;obtain⟨r0,r1,r2,r3,hb⟩:=R.out;obtain⟨h1,h2⟩:=D.out
    go_roundg g
    case measure=>omega
    case rel=>
     refine⟨k+1,by omega,?_,by go_num,r0.setCell_far _ _ _ (by omega),r1.setCell_far _ _ _ (by omega),r2.setCell_far _ _ _ (by omega),?_,ZN (WK hb nq) (by omega) _ _⟩
     ·rw[h2,j_ (by omega)];rfl
     ·have:=r3.setCell k (.int .i64 ((x+65536-y-b)%65536:Nat));rw[TJ (A-B) k _ h1.symm]at this;rw[show(x:Int)-y-b+65536=(((x+65536-y-b)%65536:Nat):Int) by omega];exact this
   ·go_wp2
    go_quiet (fail)
    go_wp2;obtain⟨r0,r1,r2,r3,hb⟩:=R.out;obtain⟨h1,h2⟩:=D.out
    go_roundg g
    case measure=>omega
    case rel=>
     refine⟨k+1,by omega,?_,by go_num,r0.setCell_far _ _ _ (by omega),r1.setCell_far _ _ _ (by omega),r2.setCell_far _ _ _ (by omega),?_,ZN (WK hb nq) (by omega) _ _⟩
     ·rw[h2,i_ (by omega)];rfl
     ·have:=r3.setCell k (.int .i64 ((x+65536-y-b)%65536:Nat));rw[TJ (A-B) k _ h1.symm]at this;rw[show(x:Int)-y-b=(((x+65536-y-b)%65536:Nat):Int) by omega];exact this
theorem QK (A k:Nat):A/2^(16*k)=65536*(A/2^(16*(k+1)))+dg A k:=by
 rw[QI,<-v_];unfold dg;omega
theorem RF (A n m k:Nat)(hk:k=n+m)(h:A<2^n*2^m):A/2^k=0:=by
 subst hk;rw[Z_];exact F_ h
theorem QL {A B P:Nat}(h:A/P<B/P):A<B:=by
 rcases aC0 A B with h1|h1
 ·exact h1
 ·have:=gW0 (c:=P) h1;omega
theorem KK (A B:Nat)(w:World)(hA:A<2^256*2^256)(hB:B<2^256*2^256):
  Calls prog 205 #[.agg (ZU A),.agg (ZU B)] w fun e w'=>e= .returned (.bool (decide (A<B)))/\Below w.heap.size w w':=by
 have h0:Hid (A/2^(16*32)=B/2^(16*32)):=(RF A 256 256 (16*32) rfl hA).trans (RF B 256 256 (16*32) rfl hB).symm;clear hA hB
 go_enter func205,ntmps205
 go_wp2_with (first
  |refine Zl rfl 206 _ rfl _ rfl ?_)
 have s0:Row ((w.alloc (.cells (ZU A) 206)).alloc (.cells (ZU B) 206)) w.heap.size (ZU A) 206:=((Row.here (by first|rfl|simp only[ZW])).alloc _);have s1:Row ((w.alloc (.cells (ZU A) 206)).alloc (.cells (ZU B) 206)) (w.heap.size+1) (ZU B) 206:=(Row.here (by first|rfl|simp only[ZW]));have s2:=Z1 (w:=w) (.cells (ZU A) 206) (.cells (ZU B) 206);generalize (w.alloc (.cells (ZU A) 206)).alloc (.cells (ZU B) 206)=W at*
 go_loopg [5] 32 (fun g s5 wr=>s5= .int .i64 ((g:Int)-1)/\g<=32/\A/2^(16*g)=B/2^(16*g)/\Row wr w.heap.size (ZU A) 206/\Row wr (w.heap.size+1) (ZU B) 206/\Below w.heap.size w wr)
 case atStart=>exact⟨rfl,c_ _,h0.out,s0,s1,s2⟩
 case round=>
  obtain⟨rfl,hle,hdiv,r0,r1,hb⟩:=hrel;clear s0 s1 s2 h0
  cases gk with
  |zero=>
   rw[bE0,W_,bR0,bR0]at hdiv;subst hdiv;clear hle;have hx: ¬((0:Int)<= -1):=by omega
   go_wp2;go_ret;exact⟨by simp,hb⟩
  |succ g=>
   have dA:=QK A g;have dB:=QK B g;rw[hdiv]at dA;have hc0:=X2 r0 g (by omega);have hc1:=X2 r1 g (by omega);rw[show((g+1:Nat):Int)-1=(g:Int) by omega];have hgl:(g:Int)<32:=by omega
   clear hdiv;generalize dg A g=x at*;generalize dg B g=y at*;have R:Aside (A/2^(16*g)=65536*(B/2^(16*(g+1)))+x/\B/2^(16*g)=65536*(B/2^(16*(g+1)))+y/\Row wr w.heap.size (ZU A) 206/\Row wr (w.heap.size+1) (ZU B) 206/\Below w.heap.size w wr):=⟨dA,dB,r0,r1,hb⟩;clear dA dB r0 r1 hb;rcases Nat.lt_trichotomy x y with h|h|h
   ·have h1:(x:Int)<y:=by omega
    have h2: ¬((x:Int)=y):=by omega
    go_wp2
    go_quiet (fail)
    go_wp2
    go_quiet (fail)
    go_wp2;obtain⟨e1,e2,r0,r1,hb⟩:=R.out;go_ret;have hlt:A<B:=QL (P:=2^(16*g)) (by omega);exact⟨by simp[hlt],WK (WK hb _) _⟩
   ·subst h;go_wp2
    go_quiet (fail)
    go_wp2;obtain⟨e1,e2,r0,r1,hb⟩:=R.out
    go_roundg g
    case measure=>omega
    case rel=>exact⟨rfl,by omega,by omega,r0,r1,WK hb _⟩
   ·have h1: ¬((x:Int)<y):=by omega
    have h2: ¬((x:Int)=y):=by omega
    go_wp2
    go_quiet (fail)
    go_wp2
    go_quiet (fail)
    go_wp2;obtain⟨e1,e2,r0,r1,hb⟩:=R.out;go_ret;have hlt:B<A:=QL (P:=2^(16*g)) (by omega);exact⟨by simp;omega,WK (WK hb _) _⟩
end Go.Proofs.YtnagnkhbamhfmaaGreatDoor
