import Derived.Laws.Bits64b
import Derived.Test.YtnagnkhbamhfmaaGreatDoorGE
set_option maxRecDepth 100000
set_option maxHeartbeats 8000000
namespace Go.Proofs.YtnagnkhbamhfmaaGreatDoor
set_option linter.all false
open Go.Proofs.Tryz
def dg (N i:Nat):Nat:=N/2^(16*i)%65536
def RL (f:Nat->Nat):Array Value:=Array.ofFn (n:=32) fun i=>.int .i64 (f i:Nat)
def ZV (N:Nat):Array Value:=RL (dg N)
theorem RM (N i:Nat):dg N i<65536:=n_ _ (by decide)
theorem Wt (f:Nat->Nat):(RL f).size=32:=by simp[RL]
theorem ZH (N:Nat):(ZV N).size=32:=Wt _
theorem Vt (f:Nat->Nat)(i:Nat)(h:i<32):(RL f)[i]?=some (.int .i64 (f i:Nat)):=by simp[RL,h]
theorem U9 (N i:Nat)(h:i<32):(ZV N)[i]?=some (.int .i64 (dg N i:Nat)):=Vt _ i h
theorem Fd (f:Nat->Nat):(RL f).all (·.oneCell')=true:=by
 rw[cA0];intro v hv;simp only[RL,Array.mem_ofFn]at hv;obtain⟨i,rfl⟩:=hv;rfl
theorem Y5 (N:Nat):(ZV N).all (·.oneCell')=true:=Fd _
theorem UJ (f g:Nat->Nat)(h: ∀i,i<32->f i=g i):RL f=RL g:=by
 apply B_;intro i;by_cases hi:i<32
 ·rw[Vt f i hi,Vt g i hi,h i hi]
 ·rw[h_ (by rw[Wt];omega),h_ (by rw[Wt];omega)]
theorem Tb (f g:Nat->Nat)(k v:Nat)(h: ∀i,i<32->g i=if i=k then v else f i):(RL f).setIfInBounds k (.int .i64 (v:Nat))=RL g:=by
 apply B_;intro i;by_cases hi:i<32
 ·rw[aI0,Vt g i hi,h i hi];by_cases hk:k=i
  ·subst hk;simp[Wt,hi]
  ·rw[j_ hk,Vt f i hi,j_ (fun e=>hk e.symm)]
 ·rw[h_ (by simp[Wt];omega),h_ (by rw[Wt];omega)]
theorem Jh (i:Nat):dg 0 i=0:=by simp[dg]
theorem Q3:ZV 0=Array.replicate 32 (.int .i64 0):=by
 apply B_;intro i;by_cases h:i<32
 ·rw[U9 0 i h,Jh];simp[h]
 ·rw[h_ (by rw[ZH];omega),h_ (by simp;omega)]
theorem Xh (N i j:Nat):(dg N i).testBit j=(decide (j<16)&&N.testBit (16*i+j)):=by
 unfold dg;rw[show 65536=2^16 from rfl,o_,bC0,bT0]
theorem NM (N k i:Nat):dg (N%2^(16*k)) i=if i<k then dg N i else 0:=by
 apply x_;intro j;rw[Xh,o_]
 split
 ·rw[Xh];by_cases hj:j<16
  ·simp[hj,show 16*i+j<16*k by omega]
  ·simp[hj]
 ·rw[Nat.zero_testBit];by_cases hj:j<16
  ·simp[show ¬16*i+j<16*k by omega]
  ·simp[hj]
theorem TL (N k v:Nat)(hv:v=dg N k):(ZV (N%2^(16*k))).setIfInBounds k (.int .i64 (v:Nat))=ZV (N%2^(16*(k+1))):=by
 subst hv;refine Tb _ _ _ _ fun i _=>?_
 rw[NM,NM];by_cases e:i=k
 ·subst e;rw[i_ (by omega),i_ rfl]
 ·rw[j_ e];by_cases h:i<k
  ·rw[i_ (by omega),i_ h]
  ·rw[j_ (by omega),j_ h]
theorem Q4 (N:Nat):ZV (N%2^(16*32))=ZV N:=
 UJ _ _ fun i hi=>by rw[NM N 32 i,i_ hi]
theorem ya (L H i:Nat)(hL:L<2^256)(hi:i<16):dg (L+2^256*H) i=dg L i:=by
 have h:=NM (L+2^256*H) 16 i;rw[i_ hi,show 16*16=256 from rfl,G_,g_ hL]at h;exact h.symm
theorem Bt (L H i:Nat)(hL:L<2^256):dg (L+2^256*H) (16+i)=dg H i:=by
 unfold dg;rw[show 16*(16+i)=256+16*i by omega,aG0,<-z_,Nat.add_mul_div_left _ _ (by decide),K_ hL,A_]
theorem Ll (L H:Nat)(hL:L<2^256)(f:Nat->Nat)(h1: ∀i,i<16->f i=dg L i)(h2: ∀i,i<16->f (16+i)=dg H i):RL f=ZV (L+2^256*H):=
 UJ _ _ fun i hi=>by
  by_cases h:i<16
  ·rw[h1 i h,ya L H i hL h]
  ·rw[show i=16+(i-16) by omega,h2 _ (by omega),Bt L H _ hL]
theorem wn (N k:Nat):lm N (k/4)/2^(16*(k%4))%65536=dg N k:=by
 apply x_;intro j;rw[Xh,show 65536=2^16 from rfl,o_,bC0,ZP];by_cases hj:j<16
 ·simp only[hj,decide_true,aF0,show j+16*(k%4)<64 by omega]
  congr 1;omega
 ·simp[hj]
theorem Ji (x:Nat)(h:x<18446744073709551616):bits .and .u64 (x:Int) 65535=((x%65536:Nat):Int):=by
 rw[show(65535:Int)=((65535:Nat):Int)from rfl,u64_and_nat _ _ h (by decide),show 65535=2^16-1 from rfl,cJ0]
theorem OB (x:Nat)(h:x<9223372036854775808):bits .and .i64 (x:Int) 65535=((x%65536:Nat):Int):=by
 rw[show(65535:Int)=((65535:Nat):Int)from rfl,VH _ _ h (by decide),show 65535=2^16-1 from rfl,cJ0]
theorem SV (N k:Nat):bits .and .u64 ((lm N (k/4):Int)/2^(16*(k%4))) 65535=(dg N k:Int):=by
 have h1:((lm N (k/4):Int)/2^(16*(k%4)))=((lm N (k/4)/2^(16*(k%4)):Nat):Int):=by simp
 have h2:=Xt N (k/4);rw[h1,Ji _ (X_ (bP0 _ _) h2),wn]
theorem TM (A k:Nat):A%2^(16*(k+1))=A%2^(16*k)+2^(16*k)*dg A k:=by
 rw[show 16*(k+1)=16*k+16 by omega,aG0,Nat.mod_mul];rfl
theorem Q5 (k:Nat):2^(16*(k+1))=2^(16*k)*65536:=by
 rw[show 16*(k+1)=16*k+16 by omega,aG0]
theorem SW (N k:Nat)(hk:k<16):(Zb (N%2^(16*k))).setIfInBounds (k/4) (.int .u64 ((lm (N%2^(16*k)) (k/4)|||dg N k*2^(16*(k%4)):Nat):Int))=Zb (N%2^(16*(k+1))):=by
 refine WB _ _ _ _ (by omega) ?_ ?_
 ·apply x_;intro j;rw[cM0,Nat.testBit_mul_two_pow,ZP,ZP,Xh,o_,o_];by_cases hj:j<64
  ·by_cases h1:16*(k%4)<=j
   ·by_cases h2:j-16*(k%4)<16
    ·have e2:64*(k/4)+j=16*k+(j-16*(k%4)):=by omega
     rw[e2];simp[hj,h1,h2,show ¬(16*k+(j-16*(k%4))<16*k) by omega,show 16*k+(j-16*(k%4))<16*(k+1) by omega]
    ·simp[hj,h1,h2,show ¬64*(k/4)+j<16*k by omega,show ¬64*(k/4)+j<16*(k+1) by omega]
   ·simp[hj,h1,show 64*(k/4)+j<16*k by omega,show 64*(k/4)+j<16*(k+1) by omega]
  ·simp[hj,show ¬j-16*(k%4)<16 by omega]
 ·intro i hi hne;apply x_;intro j;rw[ZP,ZP,o_,o_];by_cases hj:j<64
  ·by_cases h1:64*i+j<16*k
   ·simp[h1,show 64*i+j<16*(k+1) by omega]
   ·simp[h1,show ¬64*i+j<16*(k+1) by omega]
  ·simp[hj]
theorem NO (L d s:Nat)(hL:L<18446744073709551616)(hd:d<65536)(hs:s<4):bits .or .u64 (L:Int) (IntKind.u64.wrap ((d:Int)*2^(16*s)))=((L|||d*2^(16*s):Nat):Int):=by
 have h2:d*2^(16*s)<18446744073709551616:=by
  have h3:2^(16*s)<=2^48:=aQ0 (by decide) (by omega);have h4:d*2^(16*s)<=d*2^48:=aH0 _ h3;omega
 rw[show((d:Int)*2^(16*s))=((d*2^(16*s):Nat):Int) by simp,wrap_u64 _ h2,hO0 _ _ hL h2]
theorem Fe (N k:Nat):dg N (16+k)=dg (N/2^256) k:=by
 unfold dg;rw[show 16*(16+k)=256+16*k by omega,aG0,<-z_]
open Go.RowKit
theorem NP:(Tryz.prog.info? 206).map (fun i=>(i.zero,i.size))=some (some (.agg (Array.replicate 32 (.int .i64 0))),32):=by kernel_rfl
theorem X9 (w:World):(zeroValue 206).run Tryz.prog w= .ok (.agg (ZV 0)) w:=by rw[Q3];exact(V_ NP).1 w
theorem Z2:(Tryz.prog.info? 206).map (·.size)=some 32:=(V_ NP).2
theorem Vc:Tryz.prog.built 206 []=some (ZV 0):=by rw[Q3];kernel_rfl
theorem Wa {w:World}{b N:Nat}(h:Row w b (ZV N) 206)(i:Nat)(hi:i<32):w.cell? ⟨b,i,none⟩=some (.int .i64 (dg N i:Nat)):=by rw[h.cell];exact U9 _ _ hi
theorem Q6 {w:World}{b:Nat}{f:Nat->Nat}(h:Row w b (RL f) 206)(i:Nat)(hi:i<32):w.cell? ⟨b,i,none⟩=some (.int .i64 (f i:Nat)):=by rw[h.cell];exact Vt _ _ hi
theorem WL {B:Nat}{a w:World}(h:Below B a w)(n:Nat):Below B a (w.drewN n):=h.trans ⟨rfl,rfl,rfl,e_ _,fun _ _=>rfl⟩
def ofF (L H k i:Nat):Nat:=if i<k then dg L i else if 16<=i/\i<16+k then dg H (i-16)else 0
theorem Ff (L H:Nat):RL (ofF L H 0)=ZV 0:=UJ _ _ fun i _=>by rw[Jh];unfold ofF;rw[j_ (by omega),j_ (by omega)]
theorem Fg (L H:Nat)(hL:L<2^256):RL (ofF L H 16)=ZV (L+2^256*H):=
 Ll L H hL _ (fun i hi=>by unfold ofF;rw[i_ hi]) (fun i hi=>by unfold ofF;rw[j_ (by omega),i_ (by omega),show 16+i-16=i by omega])
theorem Fh (L H k:Nat)(hk:k<16):((RL (ofF L H k)).setIfInBounds k (.int .i64 (dg L k:Nat))).setIfInBounds (16+k) (.int .i64 (dg H k:Nat))=RL (ofF L H (k+1)):=by
 rw[Tb (ofF L H k) (fun i=>if i=k then dg L k else ofF L H k i) k _ (fun i _=>rfl)];refine Tb _ _ _ _ fun i hi=>?_
 unfold ofF;by_cases h1:i=16+k
 ·subst h1;rw[i_ rfl,j_ (by omega),i_ (by omega),show 16+k-16=k by omega]
 ·rw[j_ h1];by_cases h2:i=k
  ·subst h2;rw[i_ rfl,i_ (by omega)]
  ·rw[j_ h2];by_cases h3:i<k
   ·rw[i_ h3,i_ (by omega)]
   ·rw[j_ h3,j_ (by omega)];by_cases h4:16<=i/\i<16+k
    ·rw[i_ h4,i_ (by omega)]
    ·rw[j_ h4,j_ (by omega)]
theorem Jj (L H:Nat)(w:World)(hL:L<2^256):
  Calls Tryz.prog 175 #[.agg (Zb L),.agg (Zb H)] w fun e w'=>e= .returned (.agg (ZV (L+2^256*H)))/\Below w.heap.size w w':=by
 have HL:Hid (L<2^256):=hL;clear hL
 go_enter func175,ntmps175
 go_wp2_with (first
  |refine Zj rfl 57 _ rfl _ rfl ?_
  |refine Zf rfl 206 rfl _ X9 ?_
  |refine Zt rfl 206 rfl _ Vc ?_
  |refine ZM rfl 206 _ _ rfl _ rfl rfl _ _ (by rw[ZH];exact Z2) (by simp only[ZH]) (Y5 _) ?_)
 have s0:Row ((((w.alloc (.cells (Zb L) 57)).alloc (.cells (Zb H) 57)).alloc (.cells (ZV 0) 206)).alloc (.cells (ZV 0) 206)) w.heap.size (Zb L) 57:=(by repeat(first|(refine Row.here ?_;first|(with_reducible rfl)|(simp;done))|refine Row.alloc ?_ _));have s1:Row ((((w.alloc (.cells (Zb L) 57)).alloc (.cells (Zb H) 57)).alloc (.cells (ZV 0) 206)).alloc (.cells (ZV 0) 206)) (w.heap.size+1) (Zb H) 57:=(by repeat(first|(refine Row.here ?_;first|(with_reducible rfl)|(simp;done))|refine Row.alloc ?_ _));have s2:Row ((((w.alloc (.cells (Zb L) 57)).alloc (.cells (Zb H) 57)).alloc (.cells (ZV 0) 206)).alloc (.cells (ZV 0) 206)) (w.heap.size+1+1) (ZV 0) 206:=(by repeat(first|(refine Row.here ?_;first|(with_reducible rfl)|(simp;done))|refine Row.alloc ?_ _));have s3:Row ((((w.alloc (.cells (Zb L) 57)).alloc (.cells (Zb H) 57)).alloc (.cells (ZV 0) 206)).alloc (.cells (ZV 0) 206)) (w.heap.size+1+1+1) (ZV 0) 206:=(by repeat(first|(refine Row.here ?_;first|(with_reducible rfl)|(simp;done))|refine Row.alloc ?_ _));have s4:Below w.heap.size w ((((w.alloc (.cells (Zb L) 57)).alloc (.cells (Zb H) 57)).alloc (.cells (ZV 0) 206)).alloc (.cells (ZV 0) 206)):=(by repeat(first|exact H_ _ _|refine dR0 ?_ (by simp<;>omega) _));generalize ((((w.alloc (.cells (Zb L) 57)).alloc (.cells (Zb H) 57)).alloc (.cells (ZV 0) 206)).alloc (.cells (ZV 0) 206))=W at*
 go_loopg [6] 16 (fun g s6 wr=> ∃k:Nat,k+g=16/\s6= .int .i64 k/\Row wr w.heap.size (Zb L) 57/\Row wr (w.heap.size+1) (Zb H) 57/\Row wr (w.heap.size+1+1) (ZV 0) 206/\Row wr (w.heap.size+1+1+1) (RL (ofF L H k)) 206/\Below w.heap.size w wr)
 case atStart=>exact⟨0,by omega,rfl,s0,s1,s2,by rw[Ff];exact s3,s4⟩
 case round=>
  obtain⟨k,hk,rfl,r0,r1,r2,r3,hb⟩:=hrel;clear s0 s1 s2 s3 s4
  cases gk with
  |zero=>
   obtain rfl:k=16:=by omega
   rw[Fg L H HL.out]at r3;clear hk;have hx: ¬((16:Int)<16):=by omega
   go_wp2_with (first
    |refine Zh rfl 206 _ rfl _ rfl r3 32 _ bE0 (by rw[ZH];exact Z2) ?_
    |refine Zp rfl 206 _ _ rfl _ _ rfl rfl r2 (by rw[ZH];exact Z2) (by simp only[ZH]) (Y5 _) ?_)
   exact ZN rfl _ rfl (r2.setRow _) 32 _ bE0 (by rw[ZH];exact Z2) rfl ⟨rfl,Zr hb (by omega) _⟩
  |succ g=>
   have hlt:(k:Int)<16:=by omega
   have hc0:=ZW r0 (k/4) (by omega);have hc1:=ZW r1 (k/4) (by omega);have hc3:=Q6 r3 k (by omega);have hc4:=Q6 r3 (16+k) (by omega);have hf3:=r3.frozen k;have hf4:=r3.frozen (16+k);have hl:=Xt L (k/4);have hh:=Xt H (k/4);have R:Aside (Row wr w.heap.size (Zb L) 57/\Row wr (w.heap.size+1) (Zb H) 57/\Row wr (w.heap.size+1+1) (ZV 0) 206/\Row wr (w.heap.size+1+1+1) (RL (ofF L H k)) 206/\Below w.heap.size w wr):=⟨r0,r1,r2,r3,hb⟩;have e1:=SV L k;have e2:=SV H k;have d1:=RM L k;have d2:=RM H k;clear r0 r1 r2 r3 hb;go_wp2;obtain⟨r0,r1,r2,r3,hb⟩:=R.out
   go_roundg g
   case measure=>omega
   case rel=>
    refine⟨k+1,by omega,by go_num,(r0.setCell_far _ _ _ (by omega)).setCell_far _ _ _ (by omega),(r1.setCell_far _ _ _ (by omega)).setCell_far _ _ _ (by omega),(r2.setCell_far _ _ _ (by omega)).setCell_far _ _ _ (by omega),?_,ZO (ZO hb (by omega) _ _) (by omega) _ _⟩;have:=(r3.setCell k (.int .i64 (dg L k:Nat))).setCell (16+k) (.int .i64 (dg H k:Nat));rw[Fh L H k (by omega)]at this;exact this
def tw (A c k:Nat):Nat:=(2*(A%2^(16*k))+c)/2^(16*k)
theorem Bu (A c:Nat):tw A c 0=c:=by unfold tw;rw[bK0,aB0,aW0,bY0];omega
theorem wo (A c k:Nat)(hc:c<=1):tw A c k<=1:=by
 unfold tw;have hP:=v_ (16*k);have h:=n_ A hP;generalize 2^(16*k)=P at*;have:(2*(A%P)+c)/P<2:=(bG0 hP).2 (by omega);omega
theorem Bv (A c P:Nat)(hP:0<P):(2*A+c)/P=2*(A/P)+(2*(A%P)+c)/P:=by
 have h:=R_ A P
 have e:2*A+c=P*(2*(A/P))+(2*(A%P)+c):=by
  rw[<-w_,u_ P 2,w_];omega
 rw[e,cT0 hP]
theorem Fi (A c k:Nat):dg (2*A+c) k=(2*dg A k+tw A c k)%65536:=by
 unfold dg tw;rw[Bv A c _ (v_ _)];omega
theorem Bw (A c k:Nat):tw A c (k+1)=(2*dg A k+tw A c k)/65536:=by
 unfold tw;rw[TM,Q5,<-z_];have hP:=v_ (16*k);generalize 2^(16*k)=P at*;generalize A%P=a at*;generalize dg A k=d at*;rw[show 2*(a+P*d)+c=P*(2*d)+(2*a+c) by rw[<-w_,u_ P 2,w_];omega,cT0 hP]
theorem Jk (A c:Nat)(w:World)(hc:c<=1):
  Calls Tryz.prog 204 #[.agg (ZV A),.int .i64 c] w fun e w'=>e= .returned (.agg (ZV (2*A+c)))/\Below w.heap.size w w':=by
 go_enter func204,ntmps204
 go_wp2_with (first
  |refine Zj rfl 206 _ rfl _ rfl ?_
  |refine Zf rfl 206 rfl _ X9 ?_
  |refine Zt rfl 206 rfl _ Vc ?_
  |refine ZM rfl 206 _ _ rfl _ rfl rfl _ _ (by rw[ZH];exact Z2) (by simp only[ZH]) (Y5 _) ?_)
 have s0:Row (((w.alloc (.cells (ZV A) 206)).alloc (.cells (ZV 0) 206)).alloc (.cells (ZV 0) 206)) w.heap.size (ZV A) 206:=(((Row.here (by first|rfl|simp only[ZX])).alloc _).alloc _);have s1:Row (((w.alloc (.cells (ZV A) 206)).alloc (.cells (ZV 0) 206)).alloc (.cells (ZV 0) 206)) (w.heap.size+1) (ZV 0) 206:=((Row.here (by first|rfl|simp only[ZX])).alloc _);have s2:Row (((w.alloc (.cells (ZV A) 206)).alloc (.cells (ZV 0) 206)).alloc (.cells (ZV 0) 206)) (w.heap.size+1+1) (ZV 0) 206:=(Row.here (by first|rfl|simp only[ZX]));have s3:=YM (w:=w) (.cells (ZV A) 206) (.cells (ZV 0) 206) (.cells (ZV 0) 206);generalize (((w.alloc (.cells (ZV A) 206)).alloc (.cells (ZV 0) 206)).alloc (.cells (ZV 0) 206))=W at*
 go_loopg [6,7] 32 (fun g s6 s7 wr=> ∃k:Nat,k+g=32/\s6= .int .i64 (tw A c k:Nat)/\s7= .int .i64 k/\Row wr w.heap.size (ZV A) 206/\Row wr (w.heap.size+1) (ZV 0) 206/\Row wr (w.heap.size+1+1) (ZV ((2*A+c)%2^(16*k))) 206/\Below w.heap.size w wr)
 case atStart=>exact⟨0,by omega,by rw[Bu],rfl,s0,s1,by rw[bK0,aB0,aW0];exact s2,s3⟩
 case round=>
  obtain⟨k,hk,rfl,rfl,r0,r1,r2,hb⟩:=hrel;clear s0 s1 s2 s3
  cases gk with
  |zero=>
   obtain rfl:k=32:=by omega
   rw[Q4]at r2;clear hk;have hx: ¬((32:Int)<32):=by omega
   go_wp2_with (first
    |refine Zh rfl 206 _ rfl _ rfl r2 32 _ bE0 (by rw[ZH];exact Z2) ?_
    |refine Zp rfl 206 _ _ rfl _ _ rfl rfl r1 (by rw[ZH];exact Z2) (by simp only[ZH]) (Y5 _) ?_)
   exact ZN rfl _ rfl (r1.setRow _) 32 _ bE0 (by rw[ZH];exact Z2) rfl ⟨rfl,Zr hb (by omega) _⟩
  |succ g=>
   have hlt:(k:Int)<32:=by omega
   have hc0:=Wa r0 k (by omega);have hc2:=Wa r2 k (by omega);have hf2:=r2.frozen k;have R:Aside (Row wr w.heap.size (ZV A) 206/\Row wr (w.heap.size+1) (ZV 0) 206/\Row wr (w.heap.size+1+1) (ZV ((2*A+c)%2^(16*k))) 206/\Below w.heap.size w wr):=⟨r0,r1,r2,hb⟩;have D:Aside (dg (2*A+c) k=(2*dg A k+tw A c k)%65536/\tw A c (k+1)=(2*dg A k+tw A c k)/65536):=⟨Fi A c k,Bw A c k⟩;have d0:=RM A k;have d1:=wo A c k hc;clear r0 r1 r2 hb;generalize dg A k=d at*;generalize tw A c k=t at*;have e1:=OB (2*d+t) (by omega);rw[show((2*d+t:Nat):Int)=2*(d:Int)+t by omega]at e1;go_wp2;obtain⟨r0,r1,r2,hb⟩:=R.out;obtain⟨h1,h2⟩:=D.out
   go_roundg g
   case measure=>omega
   case rel=>
    refine⟨k+1,by omega,?_,by go_num,r0.setCell_far _ _ _ (by omega),r1.setCell_far _ _ _ (by omega),?_,ZO hb (by omega) _ _⟩
    ·rw[h2];go_num
    ·have:=r2.setCell k (.int .i64 ((2*d+t)%65536:Nat));rw[TL (2*A+c) k _ h1.symm]at this;exact this
theorem Jl (A B P:Nat)(hP:0<P)(h:B<=A):(A-B)/P=A/P-B/P-if A%P<B%P then 1 else 0:=by
 have ha:=R_ A P;have hb:=R_ B P;have ma:=n_ A hP;have mb:=n_ B hP;have hle:B/P<=A/P:=hJ0 h;generalize A/P=x at*;generalize B/P=y at*;generalize A%P=a at*;generalize B%P=b at*;obtain⟨z,rfl⟩: ∃z,x=y+z:=⟨x-y,by omega⟩
 have e:P*(y+z)=P*y+P*z:=aM0 _ _ _
 split
 ·cases z with
  |zero=>rw[bK0]at e;omega
  |succ z=>
   have e2:P*(z+1)=P*z+P:=by rw[aM0,I_]
   rw[show A-B=P*z+(P+a-b) by omega,cT0 hP,K_ (by omega)];omega
 ·rw[show A-B=P*z+(a-b) by omega,cT0 hP,K_ (by omega)];omega
theorem Fj (A B k:Nat)(h:B<=A):dg (A-B) k=(dg A k+65536-dg B k-bN A B (16*k))%65536:=by
 unfold dg bN;rw[Jl A B _ (v_ _) h];have hle:B/2^(16*k)<=A/2^(16*k):=hJ0 h
 have hs:A%2^(16*k)<B%2^(16*k)->B/2^(16*k)<A/2^(16*k):=fun hm=>by
  have ha:=R_ A (2^(16*k));have hb:=R_ B (2^(16*k));rcases Nat.lt_or_eq_of_le hle with h1|h1
  ·exact h1
  ·rw[h1]at hb;omega
 generalize A/2^(16*k)=x at*;generalize B/2^(16*k)=y at*
 split
 ·have:=hs (by assumption);omega
 ·omega
theorem Jm (A B k:Nat):bN A B (16*(k+1))=if dg A k<dg B k+bN A B (16*k)then 1 else 0:=by
 have hP:=v_ (16*k);have ha:=n_ A hP;have hb:=n_ B hP;unfold bN;rw[TM,TM];generalize dg A k=x at*;generalize dg B k=y at*;generalize 2^(16*k)=P at*;generalize A%P=a at*;generalize B%P=b at*;have key: ∀u v:Nat,u<=v->P*u<=P*v:=fun u v h=>aH0 P h
 obtain⟨c,hc,e⟩: ∃c,(if a<b then 1 else 0)=c/\((a<b/\c=1)∨(¬a<b/\c=0)):=⟨_,rfl,by
  by_cases hc:a<b
  ·exact .inl ⟨hc,i_ hc⟩
  ·exact .inr ⟨hc,j_ hc⟩⟩
 rw[hc];rcases Nat.lt_trichotomy x y with h|h|h
 ·have:=key (x+1) y h;rw[aM0,I_]at this;rw[i_ (by omega),i_ (by omega)]
 ·subst h;rcases e with ⟨e1,e2⟩|⟨e1,e2⟩
  ·rw[i_ (by omega),i_ (by omega)]
  ·rw[j_ (by omega),j_ (by omega)]
 ·have:=key (y+1) x h;rw[aM0,I_]at this;rw[j_ (by omega),j_ (by omega)]
theorem Fk (A B:Nat)(w:World)(h:B<=A):
  Calls Tryz.prog 206 #[.agg (ZV A),.agg (ZV B)] w fun e w'=>e= .returned (.agg (ZV (A-B)))/\Below w.heap.size w w':=by
 have HL:Hid (B<=A):=h;clear h
 go_enter func206,ntmps206
 go_wp2_with (first
  |refine Zj rfl 206 _ rfl _ rfl ?_
  |refine Zf rfl 206 rfl _ X9 ?_
  |refine Zt rfl 206 rfl _ Vc ?_
  |refine ZM rfl 206 _ _ rfl _ rfl rfl _ _ (by rw[ZH];exact Z2) (by simp only[ZH]) (Y5 _) ?_)
 have s0:Row ((((w.alloc (.cells (ZV A) 206)).alloc (.cells (ZV B) 206)).alloc (.cells (ZV 0) 206)).alloc (.cells (ZV 0) 206)) w.heap.size (ZV A) 206:=((((Row.here (by first|rfl|simp only[ZX])).alloc _).alloc _).alloc _);have s1:Row ((((w.alloc (.cells (ZV A) 206)).alloc (.cells (ZV B) 206)).alloc (.cells (ZV 0) 206)).alloc (.cells (ZV 0) 206)) (w.heap.size+1) (ZV B) 206:=(((Row.here (by first|rfl|simp only[ZX])).alloc _).alloc _);have s2:Row ((((w.alloc (.cells (ZV A) 206)).alloc (.cells (ZV B) 206)).alloc (.cells (ZV 0) 206)).alloc (.cells (ZV 0) 206)) (w.heap.size+1+1) (ZV 0) 206:=((Row.here (by first|rfl|simp only[ZX])).alloc _);have s3:Row ((((w.alloc (.cells (ZV A) 206)).alloc (.cells (ZV B) 206)).alloc (.cells (ZV 0) 206)).alloc (.cells (ZV 0) 206)) (w.heap.size+1+1+1) (ZV 0) 206:=(Row.here (by first|rfl|simp only[ZX]));have s4:Below w.heap.size w ((((w.alloc (.cells (ZV A) 206)).alloc (.cells (ZV B) 206)).alloc (.cells (ZV 0) 206)).alloc (.cells (ZV 0) 206)):=(by repeat(first|exact H_ _ _|refine dR0 ?_ (by simp<;>omega) _));generalize ((((w.alloc (.cells (ZV A) 206)).alloc (.cells (ZV B) 206)).alloc (.cells (ZV 0) 206)).alloc (.cells (ZV 0) 206))=W at*
 go_loopg [5,7] 32 (fun g s5 s7 wr=> ∃k:Nat,k+g=32/\s5= .int .i64 (bN A B (16*k):Nat)/\s7= .int .i64 k/\Row wr w.heap.size (ZV A) 206/\Row wr (w.heap.size+1) (ZV B) 206/\Row wr (w.heap.size+1+1) (ZV 0) 206/\Row wr (w.heap.size+1+1+1) (ZV ((A-B)%2^(16*k))) 206/\Below w.heap.size w wr)
 case atStart=>exact⟨0,by omega,by simp[bN,aW0],rfl,s0,s1,s2,by rw[bK0,aB0,aW0];exact s3,s4⟩
 case round=>
  obtain⟨k,hk,rfl,rfl,r0,r1,r2,r3,hb⟩:=hrel;clear s0 s1 s2 s3 s4
  cases gk with
  |zero=>
   obtain rfl:k=32:=by omega
   rw[Q4]at r3;clear hk;have hx: ¬((32:Int)<32):=by omega
   go_wp2_with (first
    |refine Zh rfl 206 _ rfl _ rfl r3 32 _ bE0 (by rw[ZH];exact Z2) ?_
    |refine Zp rfl 206 _ _ rfl _ _ rfl rfl r2 (by rw[ZH];exact Z2) (by simp only[ZH]) (Y5 _) ?_)
   exact ZN rfl _ rfl (r2.setRow _) 32 _ bE0 (by rw[ZH];exact Z2) rfl ⟨rfl,Zr hb (by omega) _⟩
  |succ g=>
   have hlt:(k:Int)<32:=by omega
   have hc0:=Wa r0 k (by omega);have hc1:=Wa r1 k (by omega);have hc3:=Wa r3 k (by omega);have hf3:=r3.frozen k;have R:Aside (Row wr w.heap.size (ZV A) 206/\Row wr (w.heap.size+1) (ZV B) 206/\Row wr (w.heap.size+1+1) (ZV 0) 206/\Row wr (w.heap.size+1+1+1) (ZV ((A-B)%2^(16*k))) 206/\Below w.heap.size w wr):=⟨r0,r1,r2,r3,hb⟩;have D:Aside (dg (A-B) k=(dg A k+65536-dg B k-bN A B (16*k))%65536/\bN A B (16*(k+1))=if dg A k<dg B k+bN A B (16*k)then 1 else 0):=⟨Fj A B k HL.out,Jm A B k⟩;have d0:=RM A k;have d1:=RM B k;have d2:=Gk A B (16*k);clear r0 r1 r2 r3 hb;generalize dg A k=x at*;generalize dg B k=y at*;generalize bN A B (16*k)=b at*;by_cases hneg:(x:Int)-y-b<0
   ·go_wp2
    go_quiet (fail)
    go_wp2;obtain⟨r0,r1,r2,r3,hb⟩:=R.out;obtain⟨h1,h2⟩:=D.out
    go_roundg g
    case measure=>omega
    case rel=>
     refine⟨k+1,by omega,?_,by go_num,r0.setCell_far _ _ _ (by omega),r1.setCell_far _ _ _ (by omega),r2.setCell_far _ _ _ (by omega),?_,ZO (WL hb nq) (by omega) _ _⟩
     ·rw[h2,i_ (by omega)];rfl
     ·have:=r3.setCell k (.int .i64 ((x+65536-y-b)%65536:Nat));rw[TL (A-B) k _ h1.symm]at this;rw[show(x:Int)-y-b+65536=(((x+65536-y-b)%65536:Nat):Int) by omega];exact this
   ·go_wp2
    go_quiet (fail)
    go_wp2;obtain⟨r0,r1,r2,r3,hb⟩:=R.out;obtain⟨h1,h2⟩:=D.out
    go_roundg g
    case measure=>omega
    case rel=>
     refine⟨k+1,by omega,?_,by go_num,r0.setCell_far _ _ _ (by omega),r1.setCell_far _ _ _ (by omega),r2.setCell_far _ _ _ (by omega),?_,ZO (WL hb nq) (by omega) _ _⟩
     ·rw[h2,j_ (by omega)];rfl
     ·have:=r3.setCell k (.int .i64 ((x+65536-y-b)%65536:Nat));rw[TL (A-B) k _ h1.symm]at this;rw[show(x:Int)-y-b=(((x+65536-y-b)%65536:Nat):Int) by omega];exact this
theorem Q7 (A k:Nat):A/2^(16*k)=65536*(A/2^(16*(k+1)))+dg A k:=by
 rw[Q5,<-z_];unfold dg;omega
theorem RN (A n m k:Nat)(hk:k=n+m)(h:A<2^n*2^m):A/2^k=0:=by
 subst hk;rw[aG0];exact K_ h
theorem Q8 {A B P:Nat}(h:A/P<B/P):A<B:=by
 rcases aK0 A B with h1|h1
 ·exact h1
 ·have:=hJ0 (c:=P) h1;omega
theorem Jn (A B:Nat)(w:World)(hA:A<2^256*2^256)(hB:B<2^256*2^256):
  Calls Tryz.prog 205 #[.agg (ZV A),.agg (ZV B)] w fun e w'=>e= .returned (.bool (decide (A<B)))/\Below w.heap.size w w':=by
 have h0:Hid (A/2^(16*32)=B/2^(16*32)):=(RN A 256 256 (16*32) rfl hA).trans (RN B 256 256 (16*32) rfl hB).symm;clear hA hB
 go_enter func205,ntmps205
 go_wp2_with (first
  |refine Zj rfl 206 _ rfl _ rfl ?_)
 have s0:Row ((w.alloc (.cells (ZV A) 206)).alloc (.cells (ZV B) 206)) w.heap.size (ZV A) 206:=((Row.here (by first|rfl|simp only[ZX])).alloc _);have s1:Row ((w.alloc (.cells (ZV A) 206)).alloc (.cells (ZV B) 206)) (w.heap.size+1) (ZV B) 206:=(Row.here (by first|rfl|simp only[ZX]));have s2:=Z7 (w:=w) (.cells (ZV A) 206) (.cells (ZV B) 206);generalize (w.alloc (.cells (ZV A) 206)).alloc (.cells (ZV B) 206)=W at*
 go_loopg [5] 32 (fun g s5 wr=>s5= .int .i64 ((g:Int)-1)/\g<=32/\A/2^(16*g)=B/2^(16*g)/\Row wr w.heap.size (ZV A) 206/\Row wr (w.heap.size+1) (ZV B) 206/\Below w.heap.size w wr)
 case atStart=>exact⟨rfl,e_ _,h0.out,s0,s1,s2⟩
 case round=>
  obtain⟨rfl,hle,hdiv,r0,r1,hb⟩:=hrel;clear s0 s1 s2 h0
  cases gk with
  |zero=>
   rw[bK0,aB0,bY0,bY0]at hdiv;subst hdiv;clear hle;have hx: ¬((0:Int)<= -1):=by omega
   go_wp2;go_ret;exact⟨by simp,hb⟩
  |succ g=>
   have dA:=Q7 A g;have dB:=Q7 B g;rw[hdiv]at dA;have hc0:=Wa r0 g (by omega);have hc1:=Wa r1 g (by omega);rw[show((g+1:Nat):Int)-1=(g:Int) by omega];have hgl:(g:Int)<32:=by omega
   clear hdiv;generalize dg A g=x at*;generalize dg B g=y at*;have R:Aside (A/2^(16*g)=65536*(B/2^(16*(g+1)))+x/\B/2^(16*g)=65536*(B/2^(16*(g+1)))+y/\Row wr w.heap.size (ZV A) 206/\Row wr (w.heap.size+1) (ZV B) 206/\Below w.heap.size w wr):=⟨dA,dB,r0,r1,hb⟩;clear dA dB r0 r1 hb;rcases Nat.lt_trichotomy x y with h|h|h
   ·have h1:(x:Int)<y:=by omega
    have h2: ¬((x:Int)=y):=by omega
    go_wp2
    go_quiet (fail)
    go_wp2
    go_quiet (fail)
    go_wp2;obtain⟨e1,e2,r0,r1,hb⟩:=R.out;go_ret;have hlt:A<B:=Q8 (P:=2^(16*g)) (by omega);exact⟨by simp[hlt],WL (WL hb _) _⟩
   ·subst h;go_wp2
    go_quiet (fail)
    go_wp2;obtain⟨e1,e2,r0,r1,hb⟩:=R.out
    go_roundg g
    ·exact⟨rfl,by omega,by omega,r0,r1,WL hb _⟩
    omega
   ·have h1: ¬((x:Int)<y):=by omega
    have h2: ¬((x:Int)=y):=by omega
    go_wp2
    go_quiet (fail)
    go_wp2
    go_quiet (fail)
    go_wp2;obtain⟨e1,e2,r0,r1,hb⟩:=R.out;go_ret;have hlt:B<A:=Q8 (P:=2^(16*g)) (by omega);exact⟨by simp;omega,WL (WL hb _) _⟩
