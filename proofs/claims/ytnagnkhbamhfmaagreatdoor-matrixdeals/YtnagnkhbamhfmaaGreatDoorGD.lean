import Derived.Test.YtnagnkhbamhfmaaGreatDoorGB
set_option maxRecDepth 100000
set_option maxHeartbeats 8000000
namespace Go.Proofs.YtnagnkhbamhfmaaGreatDoor
set_option linter.all false
open Go.Proofs.Tryz
open Go.RowKit
theorem O9 (A n k:Nat):(A*2^n).testBit k=(decide (n<=k)&&A.testBit (k-n)):=by
 rw[t_,fW0]
theorem Rq (A n k:Nat):(A/2^n).testBit k=A.testBit (k+n):=by
 rw[aU0,bM0]
def upV (A f j:Nat):Nat:=lm A j*2^f%18446744073709551616
def upW (A f j:Nat):Nat:=upV A f j|||lm A (j-1)/2^(64-f)
def Sz (A f i:Nat):Nat:=lm A i/2^f
def PU (A f i:Nat):Nat:=Sz A f i|||lm A (i+1)*2^(64-f)%18446744073709551616
theorem AS (A f j:Nat):upV A f j<18446744073709551616:=m_ _ (by decide)
theorem Hm (A f j:Nat):Sz A f j<18446744073709551616:=T_ (bP0 _ _) (Xj A j)
theorem Na (x f:Nat):IntKind.u64.wrap ((x:Int)*2^f)=((x*2^f%18446744073709551616:Nat):Int):=by
 rw[P_,show((x:Int)*2^f)=((x*2^f:Nat):Int) by simp];omega
theorem L3 (A f j:Nat):IntKind.u64.wrap ((lm A j:Int)*2^f)=(upV A f j:Nat):=Na _ _
theorem y7 (A f j:Nat):bits .or .u64 (IntKind.u64.wrap ((lm A j:Int)*2^f)) ((lm A (j-1):Int)/2^(64-f))=(upW A f j:Nat):=by
 rw[L3,show((lm A (j-1):Int)/2^(64-f))=((lm A (j-1)/2^(64-f):Nat):Int) by simp];exact gY0 _ _ (AS A f j) (T_ (bP0 _ _) (Xj A _))
theorem Rr (A f j:Nat):((lm A j:Int)/2^f)=(Sz A f j:Nat):=by simp[Sz]
theorem D9 (A f j:Nat):bits .or .u64 ((lm A j:Int)/2^f) (IntKind.u64.wrap ((lm A (j+1):Int)*2^(64-f)))=(PU A f j:Nat):=by
 rw[Rr,Na];exact gY0 _ _ (Hm A f j) (m_ _ (by decide))
theorem L4 (A f j i:Nat):(upV A f j).testBit i=(decide (i<64)&&(decide (f<=i)&&A.testBit (64*j+(i-f)))):=by
 unfold upV;rw[show 18446744073709551616=2^64 from rfl,n_,O9,ZP];by_cases hi:i<64
 ·simp[hi,show i-f<64 by omega]
 ·simp[hi]
theorem Hn (A L f:Nat):lm (A*2^(64*L+f)) (L+0)=upV A f 0:=by
 apply y_;intro i;rw[ZP,O9,L4];by_cases hf:f<=i
 ·rw[d_ hf,d_ (show 64*L+f<=64*(L+0)+i by omega),show 64*(L+0)+i-(64*L+f)=64*0+(i-f) by omega]
 ·rw[e_ hf,e_ (show ¬64*L+f<=64*(L+0)+i by omega),bI0,bI0]
theorem Ca (A L f j:Nat)(hj:0<j)(hf:f<64):lm (A*2^(64*L+f)) (L+j)=upW A f j:=by
 apply y_;intro i;unfold upW;rw[ZP,O9,cI0,L4,Rq,ZP];by_cases hi:i<64
 ·have e1:64*(L+j)+i-(64*L+f)=64*j+i-f:=by omega
  rw[e1,d_ (show 64*L+f<=64*(L+j)+i by omega),d_ hi];by_cases hfi:f<=i
  ·rw[d_ hfi,e_ (show ¬i+(64-f)<64 by omega),show 64*j+i-f=64*j+(i-f) by omega];simp
  ·rw[e_ hfi,d_ (show i+(64-f)<64 by omega),show 64*(j-1)+(i+(64-f))=64*j+i-f by omega];simp
 ·rw[e_ hi,e_ (show ¬i+(64-f)<64 by omega)];simp
theorem L5 (A f j i:Nat):(Sz A f j).testBit i=(decide (i+f<64)&&A.testBit (64*j+(i+f))):=by
 unfold Sz;rw[Rq,ZP]
theorem Qs (A L f j:Nat)(hf:f<64):lm (A/2^(64*L+f)) j=PU A f (j+L):=by
 apply y_;intro i;unfold PU;rw[ZP,Rq,cI0,L5,show 18446744073709551616=2^64 from rfl,n_,O9,ZP];have e1:64*j+i+(64*L+f)=64*(j+L)+(i+f):=by omega
 rw[e1];by_cases hi:i<64
 ·by_cases h2:i+f<64
  ·simp[hi,h2,show ¬64-f<=i by omega]
  ·simp[hi,h2,show 64-f<=i by omega,show i-(64-f)<64 by omega,show 64*(j+L+1)+(i-(64-f))=64*(j+L)+(i+f) by omega]
 ·simp[hi,show ¬i+f<64 by omega]
theorem L6 (A f i:Nat)(h:lm A (i+1)=0):PU A f i=Sz A f i:=by
 unfold PU;rw[h,cD0,eN0,Nat.or_zero]
theorem Cb (A:Nat)(h:A<2^256):lm A 4=0:=by
 unfold lm;rw[F_ h]
theorem AT (A L f:Nat)(w:World)(hf:f<64)(hL:L<4)(h1:1<=64*L+f):
  Calls prog 192 #[.agg (Zc A),.int .i64 (64*L+f:Nat)] w fun e w'=>e= .returned (.agg (Zc (A*2^(64*L+f))))/\Below w.heap.size w w':=by
 have hk1: ¬(((64*L+f:Nat):Int)<1):=by omega
 have hk2: ¬((256:Int)<=((64*L+f:Nat):Int)):=by omega
 have hq:((64*L+f:Nat):Int)/64=(L:Int):=by omega
 have hr:((64*L+f:Nat):Int)%64=(f:Int):=by omega
 have HK:Hid (∃k:Nat,k=64*L+f):=⟨_,rfl⟩;obtain⟨k,hk⟩:=HK.out;rw[<-hk]at hk1 hk2 hq hr ⊢;have HK:Hid (k=64*L+f/\1<=64*L+f):=⟨hk,h1⟩;clear hk h1
 go_enter func192,ntmps192
 go_wp2_with (first
  |refine Zl rfl 57 _ rfl _ rfl ?_
  |refine Zg rfl 57 rfl _ Zp ?_)
 go_loopg [21] (4-L) (fun g s21 wr=> ∃j:Nat,j+g=4-L/\s21= .int .i64 j/\Row wr w.heap.size (Zc A) 57/\Row wr (w.heap.size+1) (Zc 0) 57/\Row wr (w.heap.size+1+1) (Zc (A*2^k%2^(64*(L+j)))) 57/\Below w.heap.size w wr)
 case atStart=>
  refine⟨0,by omega,rfl,Row.two rfl,Row.one (by simp),?_,YD _ _ _⟩;rw[show A*2^k%2^(64*(L+0))=0 by rw[HK.out.1,Z_,<-x_,fV0];exact fP0 _ _];exact Row.here (by simp)
 case round=>
  obtain⟨j,hj,rfl,r0,r1,r2,hb⟩:=hrel
  cases gk with
  |zero=>
   obtain rfl:j=4-L:=by omega
   rw[show 64*(L+(4-L))=256 by omega,Yl]at r2;clear hj;have hx: ¬(((4-L:Nat):Int)<4-L):=by omega
   have hx':((4-L:Nat):Int)=4-L:=by omega
   rw[hx'];have hx'': ¬((4:Int)-L<4-L):=by omega
   clear hx hx'
   go_wp2_with (first
    |refine Zj rfl 57 _ rfl _ rfl r2 4 _ b_ (by exact Zd) ?_
    |refine Zr rfl 57 _ _ rfl _ _ rfl rfl r1 (by exact Zd) (by simp only[Zo]) (Zu _) ?_)
   exact ZM rfl _ rfl (r1.setRow _) 4 _ b_ (by exact Zd) rfl ⟨by rw[HK.out.1],Zq hb (by omega) _⟩
  |succ g=>
   have hlt:(j:Int)<4-L:=by omega
   have hj4:(j:Int)<4:=by omega
   have hjL:(j:Int)+L<4:=by omega
   have hc0:=ZV r0 j (by omega);have hc1:=ZV r0 (j-1) (by omega);have hc2:=ZV r2 (j+L) (by omega);have hf2:=r2.frozen (j+L);have R:Aside (Row wr w.heap.size (Zc A) 57/\Row wr (w.heap.size+1) (Zc 0) 57/\Row wr (w.heap.size+1+1) (Zc (A*2^k%2^(64*(L+j)))) 57/\Below w.heap.size w wr):=⟨r0,r1,r2,hb⟩;clear r0 r1 r2 hb;by_cases hj0:0<j
   ·have hj0':(0:Int)<j:=by omega
    have hjm:((j:Int)-1).toNat=j-1:=by omega
    go_wp2
    go_region
    go_wp2;obtain⟨r0,r1,r2,hb⟩:=R.out
    go_roundg g
    case measure=>omega
    case rel=>
     refine⟨j+1,by omega,by go_num,((r0.setCell_far _ _ _ (by omega)).setCell_far _ _ _ (by omega)).drew,((r1.setCell_far _ _ _ (by omega)).setCell_far _ _ _ (by omega)).drew,?_,(ZN (ZN hb (by omega) _ _) (by omega) _ _).drew⟩;have:=((r2.setCell (j+L) (.int .u64 (upV A f j:Nat))).setCell (j+L) (.int .u64 (upW A f j:Nat))).drew;rw[fX0,bM0 j L,XO (A*2^k) (L+j) _ (by omega) (by rw[HK.out.1,Ca A L f j hj0 hf])]at this;rw[y7,L3,bM0 j L];exact this
   ·obtain rfl:j=0:=by omega
    have hj0': ¬((0:Int)<((0:Nat):Int)):=by omega
    rw[B_]at hc2 hf2;go_wp2;obtain⟨r0,r1,r2,hb⟩:=R.out
    go_roundg g
    case measure=>omega
    case rel=>
     refine⟨1,by omega,by go_num,r0.setCell_far _ _ _ (by omega),r1.setCell_far _ _ _ (by omega),?_,ZN hb (by omega) _ _⟩;have:=r2.setCell (L+0) (.int .u64 (upV A f 0:Nat));rw[XO (A*2^k) (L+0) _ (by omega) (by rw[HK.out.1,Hn A L f])]at this;rw[L3];exact this
theorem Cc (A:Nat)(k:Int)(w:World)(h:k<1):
  Calls prog 192 #[.agg (Zc A),.int .i64 k] w fun e w'=>e= .returned (.agg (Zc A))/\Below w.heap.size w w':=by
 have rA:Row ((w.alloc (.cells (Zc A) 57)).alloc (.cells (Zc 0) 57)) w.heap.size (Zc A) 57:=Row.one rfl;have rR:Row ((w.alloc (.cells (Zc A) 57)).alloc (.cells (Zc 0) 57)) (w.heap.size+1) (Zc 0) 57:=Row.here (by simp)
 go_enter func192,ntmps192
 go_wp2_with (first
  |refine Zl rfl 57 _ rfl _ rfl ?_
  |refine Zg rfl 57 rfl _ Zp ?_
  |refine Zj rfl 57 _ rfl _ rfl rA 4 _ b_ (by exact Zd) ?_
  |refine Zr rfl 57 _ _ rfl _ _ rfl rfl rR (by exact Zd) (by simp only[Zo]) (Zu _) ?_)
 exact ZM rfl _ rfl (rR.setRow _) 4 _ b_ (by exact Zd) rfl ⟨rfl,Zq (Z1 _ _) (by omega) _⟩
theorem Ho (A:Nat)(k:Int)(w:World)(h:256<=k):
  Calls prog 192 #[.agg (Zc A),.int .i64 k] w fun e w'=>e= .returned (.agg (Zc 0))/\Below w.heap.size w w':=by
 have rR:Row ((w.alloc (.cells (Zc A) 57)).alloc (.cells (Zc 0) 57)) (w.heap.size+1) (Zc 0) 57:=Row.here (by simp);have h1: ¬k<1:=by omega
 go_enter func192,ntmps192
 go_wp2_with (first
  |refine Zl rfl 57 _ rfl _ rfl ?_
  |refine Zg rfl 57 rfl _ Zp ?_
  |refine Zv rfl 57 rfl _ ZA ?_
  |refine Zr rfl 57 _ _ rfl _ _ rfl rfl rR (by exact Zd) (by simp only[Zo]) (Zu _) ?_)
 exact ZM rfl _ rfl (rR.setRow _) 4 _ b_ (by exact Zd) rfl ⟨rfl,Zq (Z1 _ _) (by omega) _⟩
theorem Cd (A:Nat)(k:Int)(w:World):
  Calls prog 192 #[.agg (Zc A),.int .i64 k] w (Rt (.agg (Zc (A*2^k.toNat))) w):=by
 by_cases h0:k<1
 ·rw[show k.toNat=0 by omega,W_,M_];exact Cc A k w h0
 ·by_cases h1:256<=k
  ·have e:Zc (A*2^k.toNat)=Zc 0:=by
    refine(W5 _ _).2 ?_;rw[show k.toNat=(k.toNat-256)+256 by omega,Z_,<-x_,fP0,eN0]
   rw[e];exact Ho A k w h1
  ·obtain⟨K,rfl⟩:=aM0 (show 0<=k by omega);rw[q_];have:=AT A (K/64) (K%64) w (m_ _ (by decide)) (by omega) (by omega);rw[show 64*(K/64)+K%64=K by omega]at this;exact this
theorem Hp (A L f:Nat)(w:World)(hf:f<64)(hL:L<4)(h1:1<=64*L+f)(hA:A<2^256):
  Calls prog 193 #[.agg (Zc A),.int .i64 (64*L+f:Nat)] w fun e w'=>e= .returned (.agg (Zc (A/2^(64*L+f))))/\Below w.heap.size w w':=by
 have hk1: ¬(((64*L+f:Nat):Int)<1):=by omega
 have hk2: ¬((256:Int)<=((64*L+f:Nat):Int)):=by omega
 have hq:((64*L+f:Nat):Int)/64=(L:Int):=by omega
 have hr:((64*L+f:Nat):Int)%64=(f:Int):=by omega
 have HK:Hid (∃k:Nat,k=64*L+f):=⟨_,rfl⟩;obtain⟨k,hk⟩:=HK.out;rw[<-hk]at hk1 hk2 hq hr ⊢;have HK:Hid (k=64*L+f/\1<=64*L+f):=⟨hk,h1⟩;clear hk h1;have HA:Hid (A<2^256):=hA;clear hA
 go_enter func193,ntmps193
 go_wp2_with (first
  |refine Zl rfl 57 _ rfl _ rfl ?_
  |refine Zg rfl 57 rfl _ Zp ?_)
 go_loopg [22] (4-L) (fun g s21 wr=> ∃j:Nat,j+g=4-L/\s21= .int .i64 j/\Row wr w.heap.size (Zc A) 57/\Row wr (w.heap.size+1) (Zc 0) 57/\Row wr (w.heap.size+1+1) (Zc (A/2^k%2^(64*j))) 57/\Below w.heap.size w wr)
 case atStart=>
  refine⟨0,by omega,rfl,Row.two rfl,Row.one (by simp),?_,YD _ _ _⟩;rw[show A/2^k%2^(64*0)=0 by simp[aP0]];exact Row.here (by simp)
 case round=>
  obtain⟨j,hj,rfl,r0,r1,r2,hb⟩:=hrel
  cases gk with
  |zero=>
   obtain rfl:j=4-L:=by omega
   have hdl:A/2^k<2^(64*(4-L)):=by
    refine aE0 (l_ HA.out ?_);rw[<-Z_];exact aF0 (by decide) (by have:=HK.out.1;omega)
   rw[g_ hdl]at r2;clear hdl;clear hj;have hx: ¬(((4-L:Nat):Int)<4-L):=by omega
   have hx':((4-L:Nat):Int)=4-L:=by omega
   rw[hx'];have hx'': ¬((4:Int)-L<4-L):=by omega
   clear hx hx'
   go_wp2_with (first
    |refine Zj rfl 57 _ rfl _ rfl r2 4 _ b_ (by exact Zd) ?_
    |refine Zr rfl 57 _ _ rfl _ _ rfl rfl r1 (by exact Zd) (by simp only[Zo]) (Zu _) ?_)
   exact ZM rfl _ rfl (r1.setRow _) 4 _ b_ (by exact Zd) rfl ⟨by rw[HK.out.1],Zq hb (by omega) _⟩
  |succ g=>
   have hlt:(j:Int)<4-L:=by omega
   have hj4:(j:Int)<4:=by omega
   have hjL:(j:Int)+L<4:=by omega
   have hc0:=ZV r0 (j+L) (by omega);have hc2:=ZV r2 j (by omega);have hf2:=r2.frozen j;have R:Aside (Row wr w.heap.size (Zc A) 57/\Row wr (w.heap.size+1) (Zc 0) 57/\Row wr (w.heap.size+1+1) (Zc (A/2^k%2^(64*j))) 57/\Below w.heap.size w wr):=⟨r0,r1,r2,hb⟩;by_cases hj0:(j:Int)+L+1<4
   ·have hc1:=ZV r0 (j+L+1) (by omega);clear r0 r1 r2 hb;go_wp2
    go_region
    go_wp2;obtain⟨r0,r1,r2,hb⟩:=R.out
    go_roundg g
    case measure=>omega
    case rel=>
     refine⟨j+1,by omega,by go_num,((r0.setCell_far _ _ _ (by omega)).setCell_far _ _ _ (by omega)).drew,((r1.setCell_far _ _ _ (by omega)).setCell_far _ _ _ (by omega)).drew,?_,(ZN (ZN hb (by omega) _ _) (by omega) _ _).drew⟩;have:=((r2.setCell j (.int .u64 (Sz A f (j+L):Nat))).setCell j (.int .u64 (PU A f (j+L):Nat))).drew;rw[fX0,XO (A/2^k) j _ (by omega) (by rw[HK.out.1,Qs A L f j hf])]at this;rw[D9,Rr];exact this
   ·clear r0 r1 r2 hb;have HT:Hid (PU A f (j+L)=Sz A f (j+L)):=L6 A f _ (by rw[show j+L+1=4 by omega];exact Cb A HA.out);go_wp2;obtain⟨r0,r1,r2,hb⟩:=R.out
    go_roundg g
    case measure=>omega
    case rel=>
     refine⟨j+1,by omega,by go_num,r0.setCell_far _ _ _ (by omega),r1.setCell_far _ _ _ (by omega),?_,ZN hb (by omega) _ _⟩;have:=r2.setCell j (.int .u64 (Sz A f (j+L):Nat));rw[XO (A/2^k) j _ (by omega) (by rw[HK.out.1,Qs A L f j hf,HT.out])]at this;rw[Rr];exact this
theorem L7 (A:Nat)(k:Int)(w:World)(h:k<1):
  Calls prog 193 #[.agg (Zc A),.int .i64 k] w fun e w'=>e= .returned (.agg (Zc A))/\Below w.heap.size w w':=by
 have rA:Row ((w.alloc (.cells (Zc A) 57)).alloc (.cells (Zc 0) 57)) w.heap.size (Zc A) 57:=Row.one rfl;have rR:Row ((w.alloc (.cells (Zc A) 57)).alloc (.cells (Zc 0) 57)) (w.heap.size+1) (Zc 0) 57:=Row.here (by simp)
 go_enter func193,ntmps193
 go_wp2_with (first
  |refine Zl rfl 57 _ rfl _ rfl ?_
  |refine Zg rfl 57 rfl _ Zp ?_
  |refine Zj rfl 57 _ rfl _ rfl rA 4 _ b_ (by exact Zd) ?_
  |refine Zr rfl 57 _ _ rfl _ _ rfl rfl rR (by exact Zd) (by simp only[Zo]) (Zu _) ?_)
 exact ZM rfl _ rfl (rR.setRow _) 4 _ b_ (by exact Zd) rfl ⟨rfl,Zq (Z1 _ _) (by omega) _⟩
theorem Mr (A:Nat)(k:Int)(w:World)(h:256<=k):
  Calls prog 193 #[.agg (Zc A),.int .i64 k] w fun e w'=>e= .returned (.agg (Zc 0))/\Below w.heap.size w w':=by
 have rR:Row ((w.alloc (.cells (Zc A) 57)).alloc (.cells (Zc 0) 57)) (w.heap.size+1) (Zc 0) 57:=Row.here (by simp);have h1: ¬k<1:=by omega
 go_enter func193,ntmps193
 go_wp2_with (first
  |refine Zl rfl 57 _ rfl _ rfl ?_
  |refine Zg rfl 57 rfl _ Zp ?_
  |refine Zv rfl 57 rfl _ ZA ?_
  |refine Zr rfl 57 _ _ rfl _ _ rfl rfl rR (by exact Zd) (by simp only[Zo]) (Zu _) ?_)
 exact ZM rfl _ rfl (rR.setRow _) 4 _ b_ (by exact Zd) rfl ⟨rfl,Zq (Z1 _ _) (by omega) _⟩
theorem Qt (A:Nat)(k:Int)(w:World)(hA:A<2^256):
  Calls prog 193 #[.agg (Zc A),.int .i64 k] w (Rt (.agg (Zc (A/2^k.toNat))) w):=by
 by_cases h0:k<1
 ·rw[show k.toNat=0 by omega,W_,bR0];exact L7 A k w h0
 ·by_cases h1:256<=k
  ·rw[F_ (l_ hA (aF0 (by decide) (by omega)))];exact Mr A k w h1
  ·obtain⟨K,rfl⟩:=aM0 (show 0<=k by omega);rw[q_];have:=Hp A (K/64) (K%64) w (m_ _ (by decide)) (by omega) (by omega) hA;rw[show 64*(K/64)+K%64=K by omega]at this;exact this
end Go.Proofs.YtnagnkhbamhfmaaGreatDoor
