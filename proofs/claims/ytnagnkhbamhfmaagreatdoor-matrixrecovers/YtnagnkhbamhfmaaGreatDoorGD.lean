import Derived.Test.YtnagnkhbamhfmaaGreatDoorGB
set_option maxRecDepth 100000
set_option maxHeartbeats 8000000
namespace Go.Proofs.YtnagnkhbamhfmaaGreatDoor
set_option linter.all false
open Go.Proofs.Tryz
open Go.RowKit
theorem Ny (A n k:Nat):(A*2^n).testBit k=(decide (n<=k)&&A.testBit (k-n)):=by
 rw[u_,gA0]
theorem Rx (A n k:Nat):(A/2^n).testBit k=A.testBit (k+n):=by
 rw[bC0,bT0]
def upV (A f j:Nat):Nat:=lm A j*2^f%18446744073709551616
def upW (A f j:Nat):Nat:=upV A f j|||lm A (j-1)/2^(64-f)
def SD (A f i:Nat):Nat:=lm A i/2^f
def Ok (A f i:Nat):Nat:=SD A f i|||lm A (i+1)*2^(64-f)%18446744073709551616
theorem zL (A f j:Nat):upV A f j<18446744073709551616:=n_ _ (by decide)
theorem GK (A f j:Nat):SD A f j<18446744073709551616:=X_ (bP0 _ _) (Xt A j)
theorem Nz (x f:Nat):IntKind.u64.wrap ((x:Int)*2^f)=((x*2^f%18446744073709551616:Nat):Int):=by
 rw[U_,show((x:Int)*2^f)=((x*2^f:Nat):Int) by simp];omega
theorem KG (A f j:Nat):IntKind.u64.wrap ((lm A j:Int)*2^f)=(upV A f j:Nat):=Nz _ _
theorem wd (A f j:Nat):bits .or .u64 (IntKind.u64.wrap ((lm A j:Int)*2^f)) ((lm A (j-1):Int)/2^(64-f))=(upW A f j:Nat):=by
 rw[KG,show((lm A (j-1):Int)/2^(64-f))=((lm A (j-1)/2^(64-f):Nat):Int) by simp];exact hO0 _ _ (zL A f j) (X_ (bP0 _ _) (Xt A _))
theorem Ry (A f j:Nat):((lm A j:Int)/2^f)=(SD A f j:Nat):=by simp[SD]
theorem CS (A f j:Nat):bits .or .u64 ((lm A j:Int)/2^f) (IntKind.u64.wrap ((lm A (j+1):Int)*2^(64-f)))=(Ok A f j:Nat):=by
 rw[Ry,Nz];exact hO0 _ _ (GK A f j) (n_ _ (by decide))
theorem KH (A f j i:Nat):(upV A f j).testBit i=(decide (i<64)&&(decide (f<=i)&&A.testBit (64*j+(i-f)))):=by
 unfold upV;rw[show 18446744073709551616=2^64 from rfl,o_,Ny,ZP];by_cases hi:i<64
 ·simp[hi,show i-f<64 by omega]
 ·simp[hi]
theorem GL (A L f:Nat):lm (A*2^(64*L+f)) (L+0)=upV A f 0:=by
 apply x_;intro i;rw[ZP,Ny,KH];by_cases hf:f<=i
 ·rw[c_ hf,c_ (show 64*L+f<=64*(L+0)+i by omega),show 64*(L+0)+i-(64*L+f)=64*0+(i-f) by omega]
 ·rw[d_ hf,d_ (show ¬64*L+f<=64*(L+0)+i by omega),N_,N_]
theorem CU (A L f j:Nat)(hj:0<j)(hf:f<64):lm (A*2^(64*L+f)) (L+j)=upW A f j:=by
 apply x_;intro i;unfold upW;rw[ZP,Ny,cM0,KH,Rx,ZP];by_cases hi:i<64
 ·have e1:64*(L+j)+i-(64*L+f)=64*j+i-f:=by omega
  rw[e1,c_ (show 64*L+f<=64*(L+j)+i by omega),c_ hi];by_cases hfi:f<=i
  ·rw[c_ hfi,d_ (show ¬i+(64-f)<64 by omega),show 64*j+i-f=64*j+(i-f) by omega];simp
  ·rw[d_ hfi,c_ (show i+(64-f)<64 by omega),show 64*(j-1)+(i+(64-f))=64*j+i-f by omega];simp
 ·rw[d_ hi,d_ (show ¬i+(64-f)<64 by omega)];simp
theorem KI (A f j i:Nat):(SD A f j).testBit i=(decide (i+f<64)&&A.testBit (64*j+(i+f))):=by
 unfold SD;rw[Rx,ZP]
theorem QK (A L f j:Nat)(hf:f<64):lm (A/2^(64*L+f)) j=Ok A f (j+L):=by
 apply x_;intro i;unfold Ok;rw[ZP,Rx,cM0,KI,show 18446744073709551616=2^64 from rfl,o_,Ny,ZP];have e1:64*j+i+(64*L+f)=64*(j+L)+(i+f):=by omega
 rw[e1];by_cases hi:i<64
 ·by_cases h2:i+f<64
  ·simp[hi,h2,show ¬64-f<=i by omega]
  ·simp[hi,h2,show 64-f<=i by omega,show i-(64-f)<64 by omega,show 64*(j+L+1)+(i-(64-f))=64*(j+L)+(i+f) by omega]
 ·simp[hi,show ¬i+f<64 by omega]
theorem KJ (A f i:Nat)(h:lm A (i+1)=0):Ok A f i=SD A f i:=by
 unfold Ok;rw[h,cD0,eE0,Nat.or_zero]
theorem CV (A:Nat)(h:A<2^256):lm A 4=0:=by
 unfold lm;rw[K_ h]
theorem zM (A L f:Nat)(w:World)(hf:f<64)(hL:L<4)(h1:1<=64*L+f):
  Calls Tryz.prog 192 #[.agg (Zb A),.int .i64 (64*L+f:Nat)] w fun e w'=>e= .returned (.agg (Zb (A*2^(64*L+f))))/\Below w.heap.size w w':=by
 have hk1: ¬(((64*L+f:Nat):Int)<1):=by omega
 have hk2: ¬((256:Int)<=((64*L+f:Nat):Int)):=by omega
 have hq:((64*L+f:Nat):Int)/64=(L:Int):=by omega
 have hr:((64*L+f:Nat):Int)%64=(f:Int):=by omega
 have HK:Hid (∃k:Nat,k=64*L+f):=⟨_,rfl⟩;obtain⟨k,hk⟩:=HK.out;rw[<-hk]at hk1 hk2 hq hr ⊢;have HK:Hid (k=64*L+f/\1<=64*L+f):=⟨hk,h1⟩;clear hk h1
 go_enter func192,ntmps192
 go_wp2_with (first
  |refine Zj rfl 57 _ rfl _ rfl ?_
  |refine Zf rfl 57 rfl _ Zm ?_)
 go_loopg [21] (4-L) (fun g s21 wr=> ∃j:Nat,j+g=4-L/\s21= .int .i64 j/\Row wr w.heap.size (Zb A) 57/\Row wr (w.heap.size+1) (Zb 0) 57/\Row wr (w.heap.size+1+1) (Zb (A*2^k%2^(64*(L+j)))) 57/\Below w.heap.size w wr)
 case atStart=>
  refine⟨0,by omega,rfl,Row.two rfl,Row.one (by simp),?_,YM _ _ _⟩;rw[show A*2^k%2^(64*(L+0))=0 by rw[HK.out.1,aG0,<-w_,fZ0];exact fU0 _ _];exact Row.here (by simp)
 case round=>
  obtain⟨j,hj,rfl,r0,r1,r2,hb⟩:=hrel
  cases gk with
  |zero=>
   obtain rfl:j=4-L:=by omega
   rw[show 64*(L+(4-L))=256 by omega,Yp]at r2;clear hj;have hx: ¬(((4-L:Nat):Int)<4-L):=by omega
   have hx':((4-L:Nat):Int)=4-L:=by omega
   rw[hx'];have hx'': ¬((4:Int)-L<4-L):=by omega
   clear hx hx'
   go_wp2_with (first
    |refine Zh rfl 57 _ rfl _ rfl r2 4 _ b_ (by exact Zc) ?_
    |refine Zp rfl 57 _ _ rfl _ _ rfl rfl r1 (by exact Zc) (by simp only[Zk]) (Zu _) ?_)
   exact ZN rfl _ rfl (r1.setRow _) 4 _ b_ (by exact Zc) rfl ⟨by rw[HK.out.1],Zr hb (by omega) _⟩
  |succ g=>
   have hlt:(j:Int)<4-L:=by omega
   have hj4:(j:Int)<4:=by omega
   have hjL:(j:Int)+L<4:=by omega
   have hc0:=ZW r0 j (by omega);have hc1:=ZW r0 (j-1) (by omega);have hc2:=ZW r2 (j+L) (by omega);have hf2:=r2.frozen (j+L);have R:Aside (Row wr w.heap.size (Zb A) 57/\Row wr (w.heap.size+1) (Zb 0) 57/\Row wr (w.heap.size+1+1) (Zb (A*2^k%2^(64*(L+j)))) 57/\Below w.heap.size w wr):=⟨r0,r1,r2,hb⟩;clear r0 r1 r2 hb;by_cases hj0:0<j
   ·have hj0':(0:Int)<j:=by omega
    have hjm:((j:Int)-1).toNat=j-1:=by omega
    go_wp2
    go_region
    go_wp2;obtain⟨r0,r1,r2,hb⟩:=R.out
    go_roundg g
    case measure=>omega
    case rel=>
     refine⟨j+1,by omega,by go_num,((r0.setCell_far _ _ _ (by omega)).setCell_far _ _ _ (by omega)).drew,((r1.setCell_far _ _ _ (by omega)).setCell_far _ _ _ (by omega)).drew,?_,(ZO (ZO hb (by omega) _ _) (by omega) _ _).drew⟩;have:=((r2.setCell (j+L) (.int .u64 (upV A f j:Nat))).setCell (j+L) (.int .u64 (upW A f j:Nat))).drew;rw[gB0,bT0 j L,XU (A*2^k) (L+j) _ (by omega) (by rw[HK.out.1,CU A L f j hj0 hf])]at this;rw[wd,KG,bT0 j L];exact this
   ·obtain rfl:j=0:=by omega
    have hj0': ¬((0:Int)<((0:Nat):Int)):=by omega
    rw[A_]at hc2 hf2;go_wp2;obtain⟨r0,r1,r2,hb⟩:=R.out
    go_roundg g
    case measure=>omega
    case rel=>
     refine⟨1,by omega,by go_num,r0.setCell_far _ _ _ (by omega),r1.setCell_far _ _ _ (by omega),?_,ZO hb (by omega) _ _⟩;have:=r2.setCell (L+0) (.int .u64 (upV A f 0:Nat));rw[XU (A*2^k) (L+0) _ (by omega) (by rw[HK.out.1,GL A L f])]at this;rw[KG];exact this
theorem CW (A:Nat)(k:Int)(w:World)(h:k<1):
  Calls Tryz.prog 192 #[.agg (Zb A),.int .i64 k] w fun e w'=>e= .returned (.agg (Zb A))/\Below w.heap.size w w':=by
 have rA:Row ((w.alloc (.cells (Zb A) 57)).alloc (.cells (Zb 0) 57)) w.heap.size (Zb A) 57:=Row.one rfl;have rR:Row ((w.alloc (.cells (Zb A) 57)).alloc (.cells (Zb 0) 57)) (w.heap.size+1) (Zb 0) 57:=Row.here (by simp)
 go_enter func192,ntmps192
 go_wp2_with (first
  |refine Zj rfl 57 _ rfl _ rfl ?_
  |refine Zf rfl 57 rfl _ Zm ?_
  |refine Zh rfl 57 _ rfl _ rfl rA 4 _ b_ (by exact Zc) ?_
  |refine Zp rfl 57 _ _ rfl _ _ rfl rfl rR (by exact Zc) (by simp only[Zk]) (Zu _) ?_)
 exact ZN rfl _ rfl (rR.setRow _) 4 _ b_ (by exact Zc) rfl ⟨rfl,Zr (Z7 _ _) (by omega) _⟩
theorem GM (A:Nat)(k:Int)(w:World)(h:256<=k):
  Calls Tryz.prog 192 #[.agg (Zb A),.int .i64 k] w fun e w'=>e= .returned (.agg (Zb 0))/\Below w.heap.size w w':=by
 have rR:Row ((w.alloc (.cells (Zb A) 57)).alloc (.cells (Zb 0) 57)) (w.heap.size+1) (Zb 0) 57:=Row.here (by simp);have h1: ¬k<1:=by omega
 go_enter func192,ntmps192
 go_wp2_with (first
  |refine Zj rfl 57 _ rfl _ rfl ?_
  |refine Zf rfl 57 rfl _ Zm ?_
  |refine Zt rfl 57 rfl _ ZA ?_
  |refine Zp rfl 57 _ _ rfl _ _ rfl rfl rR (by exact Zc) (by simp only[Zk]) (Zu _) ?_)
 exact ZN rfl _ rfl (rR.setRow _) 4 _ b_ (by exact Zc) rfl ⟨rfl,Zr (Z7 _ _) (by omega) _⟩
theorem CX (A:Nat)(k:Int)(w:World):
  Calls Tryz.prog 192 #[.agg (Zb A),.int .i64 k] w (Rt (.agg (Zb (A*2^k.toNat))) w):=by
 by_cases h0:k<1
 ·rw[show k.toNat=0 by omega,aB0,I_];exact CW A k w h0
 ·by_cases h1:256<=k
  ·have e:Zb (A*2^k.toNat)=Zb 0:=by
    refine(W3 _ _).2 ?_;rw[show k.toNat=(k.toNat-256)+256 by omega,aG0,<-w_,fU0,eE0]
   rw[e];exact GM A k w h1
  ·obtain⟨K,rfl⟩:=aU0 (show 0<=k by omega);rw[q_];have:=zM A (K/64) (K%64) w (n_ _ (by decide)) (by omega) (by omega);rw[show 64*(K/64)+K%64=K by omega]at this;exact this
theorem GN (A L f:Nat)(w:World)(hf:f<64)(hL:L<4)(h1:1<=64*L+f)(hA:A<2^256):
  Calls Tryz.prog 193 #[.agg (Zb A),.int .i64 (64*L+f:Nat)] w fun e w'=>e= .returned (.agg (Zb (A/2^(64*L+f))))/\Below w.heap.size w w':=by
 have hk1: ¬(((64*L+f:Nat):Int)<1):=by omega
 have hk2: ¬((256:Int)<=((64*L+f:Nat):Int)):=by omega
 have hq:((64*L+f:Nat):Int)/64=(L:Int):=by omega
 have hr:((64*L+f:Nat):Int)%64=(f:Int):=by omega
 have HK:Hid (∃k:Nat,k=64*L+f):=⟨_,rfl⟩;obtain⟨k,hk⟩:=HK.out;rw[<-hk]at hk1 hk2 hq hr ⊢;have HK:Hid (k=64*L+f/\1<=64*L+f):=⟨hk,h1⟩;clear hk h1;have HA:Hid (A<2^256):=hA;clear hA
 go_enter func193,ntmps193
 go_wp2_with (first
  |refine Zj rfl 57 _ rfl _ rfl ?_
  |refine Zf rfl 57 rfl _ Zm ?_)
 go_loopg [22] (4-L) (fun g s21 wr=> ∃j:Nat,j+g=4-L/\s21= .int .i64 j/\Row wr w.heap.size (Zb A) 57/\Row wr (w.heap.size+1) (Zb 0) 57/\Row wr (w.heap.size+1+1) (Zb (A/2^k%2^(64*j))) 57/\Below w.heap.size w wr)
 case atStart=>
  refine⟨0,by omega,rfl,Row.two rfl,Row.one (by simp),?_,YM _ _ _⟩;rw[show A/2^k%2^(64*0)=0 by simp[aW0]];exact Row.here (by simp)
 case round=>
  obtain⟨j,hj,rfl,r0,r1,r2,hb⟩:=hrel
  cases gk with
  |zero=>
   obtain rfl:j=4-L:=by omega
   have hdl:A/2^k<2^(64*(4-L)):=by
    refine aP0 (l_ HA.out ?_);rw[<-aG0];exact aQ0 (by decide) (by have:=HK.out.1;omega)
   rw[g_ hdl]at r2;clear hdl;clear hj;have hx: ¬(((4-L:Nat):Int)<4-L):=by omega
   have hx':((4-L:Nat):Int)=4-L:=by omega
   rw[hx'];have hx'': ¬((4:Int)-L<4-L):=by omega
   clear hx hx'
   go_wp2_with (first
    |refine Zh rfl 57 _ rfl _ rfl r2 4 _ b_ (by exact Zc) ?_
    |refine Zp rfl 57 _ _ rfl _ _ rfl rfl r1 (by exact Zc) (by simp only[Zk]) (Zu _) ?_)
   exact ZN rfl _ rfl (r1.setRow _) 4 _ b_ (by exact Zc) rfl ⟨by rw[HK.out.1],Zr hb (by omega) _⟩
  |succ g=>
   have hlt:(j:Int)<4-L:=by omega
   have hj4:(j:Int)<4:=by omega
   have hjL:(j:Int)+L<4:=by omega
   have hc0:=ZW r0 (j+L) (by omega);have hc2:=ZW r2 j (by omega);have hf2:=r2.frozen j;have R:Aside (Row wr w.heap.size (Zb A) 57/\Row wr (w.heap.size+1) (Zb 0) 57/\Row wr (w.heap.size+1+1) (Zb (A/2^k%2^(64*j))) 57/\Below w.heap.size w wr):=⟨r0,r1,r2,hb⟩;by_cases hj0:(j:Int)+L+1<4
   ·have hc1:=ZW r0 (j+L+1) (by omega);clear r0 r1 r2 hb;go_wp2
    go_region
    go_wp2;obtain⟨r0,r1,r2,hb⟩:=R.out
    go_roundg g
    case measure=>omega
    case rel=>
     refine⟨j+1,by omega,by go_num,((r0.setCell_far _ _ _ (by omega)).setCell_far _ _ _ (by omega)).drew,((r1.setCell_far _ _ _ (by omega)).setCell_far _ _ _ (by omega)).drew,?_,(ZO (ZO hb (by omega) _ _) (by omega) _ _).drew⟩;have:=((r2.setCell j (.int .u64 (SD A f (j+L):Nat))).setCell j (.int .u64 (Ok A f (j+L):Nat))).drew;rw[gB0,XU (A/2^k) j _ (by omega) (by rw[HK.out.1,QK A L f j hf])]at this;rw[CS,Ry];exact this
   ·clear r0 r1 r2 hb;have HT:Hid (Ok A f (j+L)=SD A f (j+L)):=KJ A f _ (by rw[show j+L+1=4 by omega];exact CV A HA.out);go_wp2;obtain⟨r0,r1,r2,hb⟩:=R.out
    go_roundg g
    case measure=>omega
    case rel=>
     refine⟨j+1,by omega,by go_num,r0.setCell_far _ _ _ (by omega),r1.setCell_far _ _ _ (by omega),?_,ZO hb (by omega) _ _⟩;have:=r2.setCell j (.int .u64 (SD A f (j+L):Nat));rw[XU (A/2^k) j _ (by omega) (by rw[HK.out.1,QK A L f j hf,HT.out])]at this;rw[Ry];exact this
theorem KK (A:Nat)(k:Int)(w:World)(h:k<1):
  Calls Tryz.prog 193 #[.agg (Zb A),.int .i64 k] w fun e w'=>e= .returned (.agg (Zb A))/\Below w.heap.size w w':=by
 have rA:Row ((w.alloc (.cells (Zb A) 57)).alloc (.cells (Zb 0) 57)) w.heap.size (Zb A) 57:=Row.one rfl;have rR:Row ((w.alloc (.cells (Zb A) 57)).alloc (.cells (Zb 0) 57)) (w.heap.size+1) (Zb 0) 57:=Row.here (by simp)
 go_enter func193,ntmps193
 go_wp2_with (first
  |refine Zj rfl 57 _ rfl _ rfl ?_
  |refine Zf rfl 57 rfl _ Zm ?_
  |refine Zh rfl 57 _ rfl _ rfl rA 4 _ b_ (by exact Zc) ?_
  |refine Zp rfl 57 _ _ rfl _ _ rfl rfl rR (by exact Zc) (by simp only[Zk]) (Zu _) ?_)
 exact ZN rfl _ rfl (rR.setRow _) 4 _ b_ (by exact Zc) rfl ⟨rfl,Zr (Z7 _ _) (by omega) _⟩
theorem M0 (A:Nat)(k:Int)(w:World)(h:256<=k):
  Calls Tryz.prog 193 #[.agg (Zb A),.int .i64 k] w fun e w'=>e= .returned (.agg (Zb 0))/\Below w.heap.size w w':=by
 have rR:Row ((w.alloc (.cells (Zb A) 57)).alloc (.cells (Zb 0) 57)) (w.heap.size+1) (Zb 0) 57:=Row.here (by simp);have h1: ¬k<1:=by omega
 go_enter func193,ntmps193
 go_wp2_with (first
  |refine Zj rfl 57 _ rfl _ rfl ?_
  |refine Zf rfl 57 rfl _ Zm ?_
  |refine Zt rfl 57 rfl _ ZA ?_
  |refine Zp rfl 57 _ _ rfl _ _ rfl rfl rR (by exact Zc) (by simp only[Zk]) (Zu _) ?_)
 exact ZN rfl _ rfl (rR.setRow _) 4 _ b_ (by exact Zc) rfl ⟨rfl,Zr (Z7 _ _) (by omega) _⟩
theorem QL (A:Nat)(k:Int)(w:World)(hA:A<2^256):
  Calls Tryz.prog 193 #[.agg (Zb A),.int .i64 k] w (Rt (.agg (Zb (A/2^k.toNat))) w):=by
 by_cases h0:k<1
 ·rw[show k.toNat=0 by omega,aB0,bY0];exact KK A k w h0
 ·by_cases h1:256<=k
  ·rw[K_ (l_ hA (aQ0 (by decide) (by omega)))];exact M0 A k w h1
  ·obtain⟨K,rfl⟩:=aU0 (show 0<=k by omega);rw[q_];have:=GN A (K/64) (K%64) w (n_ _ (by decide)) (by omega) (by omega) hA;rw[show 64*(K/64)+K%64=K by omega]at this;exact this
