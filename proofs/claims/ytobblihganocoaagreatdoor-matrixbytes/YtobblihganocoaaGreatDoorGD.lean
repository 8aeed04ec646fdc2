import Derived.Test.YtobblihganocoaaGreatDoorGB
set_option maxRecDepth 100000
set_option maxHeartbeats 2000000
namespace Go.Proofs.YtobblihganocoaaGreatDoor
open Go.Proofs.Tryz
set_option linter.unusedVariables false
open Go.RowKit
theorem Qi (A n k:Nat):(A*2^n).testBit k=(decide (n<=k)&&A.testBit (k-n)):=by
 rw[Nat.mul_comm,Nat.testBit_two_pow_mul]
theorem S8 (A n k:Nat):(A/2^n).testBit k=A.testBit (k+n):=by
 rw[Nat.testBit_div_two_pow,Nat.add_comm]
theorem Do (A:Nat)(n:Int)(w:World):
  Calls Tryz.prog 90 #[.agg (Zc A),.int .i64 n] w fun e w'=>e= .returned (.agg (Zc (A*2^n.toNat)))/\Below w.heap.size w w':=by
 go_enter func90,ntmps90
 go_wp2_with (first
  |refine Zk rfl 62 _ rfl _ rfl ?_
  |refine Ze rfl 62 rfl _ Zm ?_
  |refine Zf rfl 62 _ rfl _ rfl (by first|assumption|(refine Row.here ?_;first|(with_reducible rfl)|(simp;done))|(refine Row.one ?_;first|(with_reducible rfl)|(simp;done))|(refine Row.two ?_;first|(with_reducible rfl)|(simp;done))) 4 _ underlying62 (by exact Zb) ?_
  |(go_at_call 127;refine(WX _ _).mono ?_;rintro e w2 ⟨rfl,hb2⟩;have hs:=hb2.size;have r2:=(Row.here (w:=w.alloc (.cells (Zc A) 62)) (c:=Zc 0) (t:=62) (b:=w.heap.size+1) (by simp)).belowAll hb2;have b2:=Zh (ZS _ _) (Nat.le_refl _) hb2;clear hb2)
  |refine Ze rfl 159 rfl _ YO ?_
  |refine Zt rfl 159 rfl _ Wo ?_
  |refine ZE rfl 159 _ _ rfl _ rfl rfl _ _ (by rw[ZJ];exact Ya) (by simp only[ZJ]) (Y6 _) ?_)
 have r3:Row ((w2.alloc (.cells (Yl A) 159)).alloc (.cells (Yl 0) 159)) w2.heap.size (Yl A) 159:=Row.one rfl
 have r4:Row ((w2.alloc (.cells (Yl A) 159)).alloc (.cells (Yl 0) 159)) (w2.heap.size+1) (Yl 0) 159:=Row.here (by simp)
 have r2':=(r2.alloc (.cells (Yl A) 159)).alloc (.cells (Yl 0) 159)
 have hr:=r2.lt
 have b3:=(b2.alloc (by have:=b2.size;omega) (.cells (Yl A) 159)).alloc (by have:=b2.size;simp;omega) (.cells (Yl 0) 159)
 generalize (w2.alloc (.cells (Yl A) 159)).alloc (.cells (Yl 0) 159)=w3 at*
 generalize w2.heap.size=r at*
 clear r2 b2 hs
 go_loopg [7] 256 (fun g s7 wr=> ∃k:Nat,k+g=256/\s7= .int .i64 k/\Row wr r (Yl A) 159/\Row wr (r+1) (Yl ((A*2^n.toNat)%2^k)) 159/\Row wr (w.heap.size+1) (Zc 0) 62/\Below w.heap.size w wr)
 case atStart=>exact⟨0,by omega,rfl,r3,by rw[Nat.pow_zero,Nat.mod_one];exact r4,r2',b3⟩
 case round=>
  obtain⟨k,hk,rfl,r0,r1,r5,hb⟩:=hrel
  clear r3 r4 r2' b3
  cases gk with
  |zero=>
   obtain rfl:k=256:=by omega
   rw[U5]at r1
   clear hk
   have hx: ¬((256:Int)<256):=by omega
   go_wp2_with (first
    |refine Zf rfl 159 _ rfl _ rfl r1 256 _ underlying159 (by rw[ZJ];exact Ya) ?_
    |(go_at_call 113;refine(UM _ _).mono ?_;rintro e w2 ⟨rfl,hb2⟩;have r6:=r5.belowAll hb2;have b6:=Zh hb (Nat.le_refl _) hb2)
    |refine Zp rfl 62 _ _ rfl _ _ rfl rfl r6 (by exact Zb) (by simp only[Zl]) (Zr _) ?_)
   exact ZH rfl _ rfl (r6.setRow _) 4 _ underlying62 (by exact Zb) rfl ⟨rfl,Zo b6 (by omega) _⟩
  |succ g=>
   have hlt:(k:Int)<256:=by omega
   have hc1:=YY r1 k (by omega)
   have hf1:=r1.frozen k
   have hbit:=Qi A n.toNat k
   have R:Aside ((A*2^n.toNat).testBit k=(A*2^n.toNat).testBit k/\Row wr r (Yl A) 159/\Row wr (r+1) (Yl ((A*2^n.toNat)%2^k)) 159/\Row wr (w.heap.size+1) (Zc 0) 62/\Below w.heap.size w wr):=⟨rfl,r0,r1,r5,hb⟩
   by_cases hn:0<n
   ·by_cases hle:n<=(k:Int)
    ·have hc0:=YY r0 ((k:Int)-n).toNat (by omega)
     have HB:Aside (A.testBit ((k:Int)-n).toNat=(A*2^n.toNat).testBit k):=by
      show _=_
      rw[hbit,show((k:Int)-n).toNat=k-n.toNat by omega,decide_eq_true (show n.toNat<=k by omega),Bool.true_and]
     clear r0 r1 r5 hb hbit
     have hmin:min n 256=n:=by omega
     go_wp2
     obtain⟨_,r0,r1,r5,hb⟩:=R.out
     go_roundg g
     ·exact⟨k+1,by omega,by go_num,r0.setCell_far _ _ _ (by omega),by rw[<-X4 (A*2^n.toNat) k _ HB.out];exact r1.setCell _ _,r5.setCell_far _ _ _ (by omega),ZL hb (by omega) _ _⟩
     omega
    ·have HB:Aside (false=(A*2^n.toNat).testBit k):=by
      show _=_
      rw[hbit,decide_eq_false (show ¬n.toNat<=k by omega),Bool.false_and]
     clear r0 r1 r5 hb hbit
     by_cases h256:n<=256
     ·have hmin:min n 256=n:=by omega
      have hneg: ¬(0<=(k:Int)-n):=by omega
      go_wp2
      obtain⟨_,r0,r1,r5,hb⟩:=R.out
      go_roundg g
      ·exact⟨k+1,by omega,by go_num,r0.setCell_far _ _ _ (by omega),by rw[<-X4 (A*2^n.toNat) k _ HB.out];exact r1.setCell _ _,r5.setCell_far _ _ _ (by omega),ZL hb (by omega) _ _⟩
      omega
     ·have hmin:min n 256=256:=by omega
      have hneg: ¬(0<=(k:Int)-256):=by omega
      go_wp2
      obtain⟨_,r0,r1,r5,hb⟩:=R.out
      go_roundg g
      ·exact⟨k+1,by omega,by go_num,r0.setCell_far _ _ _ (by omega),by rw[<-X4 (A*2^n.toNat) k _ HB.out];exact r1.setCell _ _,r5.setCell_far _ _ _ (by omega),ZL hb (by omega) _ _⟩
      omega
   ·have hc0:=YY r0 k (by omega)
    have HB:Aside (A.testBit k=(A*2^n.toNat).testBit k):=by
     show _=_
     rw[show n.toNat=0 by omega,Nat.pow_zero,Nat.mul_one]
    clear r0 r1 r5 hb hbit
    go_wp2
    obtain⟨_,r0,r1,r5,hb⟩:=R.out
    go_roundg g
    ·exact⟨k+1,by omega,by go_num,r0.setCell_far _ _ _ (by omega),by rw[<-X4 (A*2^n.toNat) k _ HB.out];exact r1.setCell _ _,r5.setCell_far _ _ _ (by omega),ZL hb (by omega) _ _⟩
    omega
def upV (A f j:Nat):Nat:=lm A j*2^f%18446744073709551616
def upW (A f j:Nat):Nat:=upV A f j|||lm A (j-1)/2^(64-f)
def Sj (A f i:Nat):Nat:=lm A i/2^f
def PG (A f i:Nat):Nat:=Sj A f i|||lm A (i+1)*2^(64-f)%18446744073709551616
theorem Ae (A f j:Nat):upV A f j<18446744073709551616:=Nat.mod_lt _ (by decide)
theorem I0 (A f j:Nat):Sj A f j<18446744073709551616:=Nat.lt_of_le_of_lt (Nat.div_le_self _ _) (XN A j)
theorem OU (x f:Nat):IntKind.u64.wrap ((x:Int)*2^f)=((x*2^f%18446744073709551616:Nat):Int):=by
 rw[IntKind.wrap_u64,show((x:Int)*2^f)=((x*2^f:Nat):Int) by simp]
 omega
theorem LC (A f j:Nat):IntKind.u64.wrap ((lm A j:Int)*2^f)=(upV A f j:Nat):=OU _ _
theorem yj (A f j:Nat):bits .or .u64 (IntKind.u64.wrap ((lm A j:Int)*2^f)) ((lm A (j-1):Int)/2^(64-f))=(upW A f j:Nat):=by
 rw[LC,show((lm A (j-1):Int)/2^(64-f))=((lm A (j-1)/2^(64-f):Nat):Int) by simp]
 exact u64_or_nat _ _ (Ae A f j) (Nat.lt_of_le_of_lt (Nat.div_le_self _ _) (XN A _))
theorem S9 (A f j:Nat):((lm A j:Int)/2^f)=(Sj A f j:Nat):=by simp[Sj]
theorem Dp (A f j:Nat):bits .or .u64 ((lm A j:Int)/2^f) (IntKind.u64.wrap ((lm A (j+1):Int)*2^(64-f)))=(PG A f j:Nat):=by
 rw[S9,OU]
 exact u64_or_nat _ _ (I0 A f j) (Nat.mod_lt _ (by decide))
theorem LD (A f j i:Nat):(upV A f j).testBit i=(decide (i<64)&&(decide (f<=i)&&A.testBit (64*j+(i-f)))):=by
 unfold upV
 rw[show 18446744073709551616=2^64 from rfl,Nat.testBit_mod_two_pow,Qi,ZP]
 by_cases hi:i<64
 ·simp[hi,show i-f<64 by omega]
 ·simp[hi]
theorem I1 (A L f:Nat):lm (A*2^(64*L+f)) (L+0)=upV A f 0:=by
 apply Nat.eq_of_testBit_eq
 intro i
 rw[ZP,Qi,LD]
 by_cases hf:f<=i
 ·rw[decide_eq_true hf,decide_eq_true (show 64*L+f<=64*(L+0)+i by omega),show 64*(L+0)+i-(64*L+f)=64*0+(i-f) by omega]
 ·rw[decide_eq_false hf,decide_eq_false (show ¬64*L+f<=64*(L+0)+i by omega),Bool.false_and,Bool.false_and]
theorem Dq (A L f j:Nat)(hj:0<j)(hf:f<64):lm (A*2^(64*L+f)) (L+j)=upW A f j:=by
 apply Nat.eq_of_testBit_eq
 intro i
 unfold upW
 rw[ZP,Qi,Nat.testBit_or,LD,S8,ZP]
 by_cases hi:i<64
 ·have e1:64*(L+j)+i-(64*L+f)=64*j+i-f:=by omega
  rw[e1,decide_eq_true (show 64*L+f<=64*(L+j)+i by omega),decide_eq_true hi]
  by_cases hfi:f<=i
  ·rw[decide_eq_true hfi,decide_eq_false (show ¬i+(64-f)<64 by omega),show 64*j+i-f=64*j+(i-f) by omega]
   simp
  ·rw[decide_eq_false hfi,decide_eq_true (show i+(64-f)<64 by omega),show 64*(j-1)+(i+(64-f))=64*j+i-f by omega]
   simp
 ·rw[decide_eq_false hi,decide_eq_false (show ¬i+(64-f)<64 by omega)]
  simp
theorem LE (A f j i:Nat):(Sj A f j).testBit i=(decide (i+f<64)&&A.testBit (64*j+(i+f))):=by
 unfold Sj
 rw[S8,ZP]
theorem Qj (A L f j:Nat)(hf:f<64):lm (A/2^(64*L+f)) j=PG A f (j+L):=by
 apply Nat.eq_of_testBit_eq
 intro i
 unfold PG
 rw[ZP,S8,Nat.testBit_or,LE,show 18446744073709551616=2^64 from rfl,Nat.testBit_mod_two_pow,Qi,ZP]
 have e1:64*j+i+(64*L+f)=64*(j+L)+(i+f):=by omega
 rw[e1]
 by_cases hi:i<64
 ·by_cases h2:i+f<64
  ·simp[hi,h2,show ¬64-f<=i by omega]
  ·simp[hi,h2,show 64-f<=i by omega,show i-(64-f)<64 by omega,show 64*(j+L+1)+(i-(64-f))=64*(j+L)+(i+f) by omega]
 ·simp[hi,show ¬i+f<64 by omega]
theorem LF (A f i:Nat)(h:lm A (i+1)=0):PG A f i=Sj A f i:=by
 unfold PG
 rw[h,Nat.zero_mul,Nat.zero_mod,Nat.or_zero]
theorem Dr (A:Nat)(h:A<2^256):lm A 4=0:=by
 unfold lm
 rw[Nat.div_eq_of_lt h]
theorem Af (A L f:Nat)(w:World)(hf:f<64)(hL:L<4)(h1:1<=64*L+f):
  Calls Tryz.prog 212 #[.agg (Zc A),.int .i64 (64*L+f:Nat)] w fun e w'=>e= .returned (.agg (Zc (A*2^(64*L+f))))/\Below w.heap.size w w':=by
 have hk1: ¬(((64*L+f:Nat):Int)<1):=by omega
 have hk2: ¬((256:Int)<=((64*L+f:Nat):Int)):=by omega
 have hq:((64*L+f:Nat):Int)/64=(L:Int):=by omega
 have hr:((64*L+f:Nat):Int)%64=(f:Int):=by omega
 have HK:Hid (∃k:Nat,k=64*L+f):=⟨_,rfl⟩
 obtain⟨k,hk⟩:=HK.out
 rw[<-hk]at hk1 hk2 hq hr ⊢
 have HK:Hid (k=64*L+f/\1<=64*L+f):=⟨hk,h1⟩
 clear hk h1
 go_enter func212,ntmps212
 go_wp2_with (first
  |refine Zk rfl 62 _ rfl _ rfl ?_
  |refine Ze rfl 62 rfl _ Zm ?_)
 go_loopg [21] (4-L) (fun g s21 wr=> ∃j:Nat,j+g=4-L/\s21= .int .i64 j/\Row wr w.heap.size (Zc A) 62/\Row wr (w.heap.size+1) (Zc 0) 62/\Row wr (w.heap.size+1+1) (Zc (A*2^k%2^(64*(L+j)))) 62/\Below w.heap.size w wr)
 case atStart=>
  refine⟨0,by omega,rfl,Row.two rfl,Row.one (by simp),?_,YX _ _ _⟩
  rw[show A*2^k%2^(64*(L+0))=0 by rw[HK.out.1,Nat.pow_add,<-Nat.mul_assoc,Nat.mul_right_comm];exact Nat.mul_mod_left _ _]
  exact Row.here (by simp)
 case round=>
  obtain⟨j,hj,rfl,r0,r1,r2,hb⟩:=hrel
  cases gk with
  |zero=>
   obtain rfl:j=4-L:=by omega
   rw[show 64*(L+(4-L))=256 by omega,Yp]at r2
   clear hj
   have hx: ¬(((4-L:Nat):Int)<4-L):=by omega
   have hx':((4-L:Nat):Int)=4-L:=by omega
   rw[hx']
   have hx'': ¬((4:Int)-L<4-L):=by omega
   clear hx hx'
   go_wp2_with (first
    |refine Zf rfl 62 _ rfl _ rfl r2 4 _ underlying62 (by exact Zb) ?_
    |refine Zp rfl 62 _ _ rfl _ _ rfl rfl r1 (by exact Zb) (by simp only[Zl]) (Zr _) ?_)
   exact ZH rfl _ rfl (r1.setRow _) 4 _ underlying62 (by exact Zb) rfl ⟨by rw[HK.out.1],Zo hb (by omega) _⟩
  |succ g=>
   have hlt:(j:Int)<4-L:=by omega
   have hj4:(j:Int)<4:=by omega
   have hjL:(j:Int)+L<4:=by omega
   have hc0:=ZV r0 j (by omega)
   have hc1:=ZV r0 (j-1) (by omega)
   have hc2:=ZV r2 (j+L) (by omega)
   have hf2:=r2.frozen (j+L)
   have R:Aside (Row wr w.heap.size (Zc A) 62/\Row wr (w.heap.size+1) (Zc 0) 62/\Row wr (w.heap.size+1+1) (Zc (A*2^k%2^(64*(L+j)))) 62/\Below w.heap.size w wr):=⟨r0,r1,r2,hb⟩
   clear r0 r1 r2 hb
   by_cases hj0:0<j
   ·have hj0':(0:Int)<j:=by omega
    have hjm:((j:Int)-1).toNat=j-1:=by omega
    go_wp2
    go_region
    go_wp2
    obtain⟨r0,r1,r2,hb⟩:=R.out
    go_roundg g
    case measure=>omega
    case rel=>
     refine⟨j+1,by omega,by go_num,((r0.setCell_far _ _ _ (by omega)).setCell_far _ _ _ (by omega)).drew,((r1.setCell_far _ _ _ (by omega)).setCell_far _ _ _ (by omega)).drew,?_,(ZL (ZL hb (by omega) _ _) (by omega) _ _).drew⟩
     have:=((r2.setCell (j+L) (.int .u64 (upV A f j:Nat))).setCell (j+L) (.int .u64 (upW A f j:Nat))).drew
     rw[Array.setIfInBounds_setIfInBounds,Nat.add_comm j L,XP (A*2^k) (L+j) _ (by omega) (by rw[HK.out.1,Dq A L f j hj0 hf])]at this
     rw[yj,LC,Nat.add_comm j L]
     exact this
   ·obtain rfl:j=0:=by omega
    have hj0': ¬((0:Int)<((0:Nat):Int)):=by omega
    rw[Nat.zero_add]at hc2 hf2
    go_wp2
    obtain⟨r0,r1,r2,hb⟩:=R.out
    go_roundg g
    case measure=>omega
    case rel=>
     refine⟨1,by omega,by go_num,r0.setCell_far _ _ _ (by omega),r1.setCell_far _ _ _ (by omega),?_,ZL hb (by omega) _ _⟩
     have:=r2.setCell (L+0) (.int .u64 (upV A f 0:Nat))
     rw[XP (A*2^k) (L+0) _ (by omega) (by rw[HK.out.1,I1 A L f])]at this
     rw[LC]
     exact this
theorem Ds (A:Nat)(k:Int)(w:World)(h:k<1):
  Calls Tryz.prog 212 #[.agg (Zc A),.int .i64 k] w fun e w'=>e= .returned (.agg (Zc A))/\Below w.heap.size w w':=by
 have rA:Row ((w.alloc (.cells (Zc A) 62)).alloc (.cells (Zc 0) 62)) w.heap.size (Zc A) 62:=Row.one rfl
 have rR:Row ((w.alloc (.cells (Zc A) 62)).alloc (.cells (Zc 0) 62)) (w.heap.size+1) (Zc 0) 62:=Row.here (by simp)
 go_enter func212,ntmps212
 go_wp2_with (first
  |refine Zk rfl 62 _ rfl _ rfl ?_
  |refine Ze rfl 62 rfl _ Zm ?_
  |refine Zf rfl 62 _ rfl _ rfl rA 4 _ underlying62 (by exact Zb) ?_
  |refine Zp rfl 62 _ _ rfl _ _ rfl rfl rR (by exact Zb) (by simp only[Zl]) (Zr _) ?_)
 exact ZH rfl _ rfl (rR.setRow _) 4 _ underlying62 (by exact Zb) rfl ⟨rfl,Zo (ZS _ _) (by omega) _⟩
theorem I2 (A:Nat)(k:Int)(w:World)(h:256<=k):
  Calls Tryz.prog 212 #[.agg (Zc A),.int .i64 k] w fun e w'=>e= .returned (.agg (Zc 0))/\Below w.heap.size w w':=by
 have rR:Row ((w.alloc (.cells (Zc A) 62)).alloc (.cells (Zc 0) 62)) (w.heap.size+1) (Zc 0) 62:=Row.here (by simp)
 have h1: ¬k<1:=by omega
 go_enter func212,ntmps212
 go_wp2_with (first
  |refine Zk rfl 62 _ rfl _ rfl ?_
  |refine Ze rfl 62 rfl _ Zm ?_
  |refine Zt rfl 62 rfl _ Zw ?_
  |refine Zp rfl 62 _ _ rfl _ _ rfl rfl rR (by exact Zb) (by simp only[Zl]) (Zr _) ?_)
 exact ZH rfl _ rfl (rR.setRow _) 4 _ underlying62 (by exact Zb) rfl ⟨rfl,Zo (ZS _ _) (by omega) _⟩
theorem Dt (A:Nat)(k:Int)(w:World):
  Calls Tryz.prog 212 #[.agg (Zc A),.int .i64 k] w fun e w'=>e= .returned (.agg (Zc (A*2^k.toNat)))/\Below w.heap.size w w':=by
 by_cases h0:k<1
 ·rw[show k.toNat=0 by omega,Nat.pow_zero,Nat.mul_one]
  exact Ds A k w h0
 ·by_cases h1:256<=k
  ·have e:Zc (A*2^k.toNat)=Zc 0:=by
    refine(W0 _ _).2 ?_
    rw[show k.toNat=(k.toNat-256)+256 by omega,Nat.pow_add,<-Nat.mul_assoc,Nat.mul_mod_left,Nat.zero_mod]
   rw[e]
   exact I2 A k w h1
  ·obtain⟨K,rfl⟩:=Int.eq_ofNat_of_zero_le (show 0<=k by omega)
   rw[Int.toNat_natCast]
   have:=Af A (K/64) (K%64) w (Nat.mod_lt _ (by decide)) (by omega) (by omega)
   rw[show 64*(K/64)+K%64=K by omega]at this
   exact this
theorem I3 (A L f:Nat)(w:World)(hf:f<64)(hL:L<4)(h1:1<=64*L+f)(hA:A<2^256):
  Calls Tryz.prog 213 #[.agg (Zc A),.int .i64 (64*L+f:Nat)] w fun e w'=>e= .returned (.agg (Zc (A/2^(64*L+f))))/\Below w.heap.size w w':=by
 have hk1: ¬(((64*L+f:Nat):Int)<1):=by omega
 have hk2: ¬((256:Int)<=((64*L+f:Nat):Int)):=by omega
 have hq:((64*L+f:Nat):Int)/64=(L:Int):=by omega
 have hr:((64*L+f:Nat):Int)%64=(f:Int):=by omega
 have HK:Hid (∃k:Nat,k=64*L+f):=⟨_,rfl⟩
 obtain⟨k,hk⟩:=HK.out
 rw[<-hk]at hk1 hk2 hq hr ⊢
 have HK:Hid (k=64*L+f/\1<=64*L+f):=⟨hk,h1⟩
 clear hk h1
 have HA:Hid (A<2^256):=hA
 clear hA
 go_enter func213,ntmps213
 go_wp2_with (first
  |refine Zk rfl 62 _ rfl _ rfl ?_
  |refine Ze rfl 62 rfl _ Zm ?_)
 go_loopg [22] (4-L) (fun g s21 wr=> ∃j:Nat,j+g=4-L/\s21= .int .i64 j/\Row wr w.heap.size (Zc A) 62/\Row wr (w.heap.size+1) (Zc 0) 62/\Row wr (w.heap.size+1+1) (Zc (A/2^k%2^(64*j))) 62/\Below w.heap.size w wr)
 case atStart=>
  refine⟨0,by omega,rfl,Row.two rfl,Row.one (by simp),?_,YX _ _ _⟩
  rw[show A/2^k%2^(64*0)=0 by simp[Nat.mod_one]]
  exact Row.here (by simp)
 case round=>
  obtain⟨j,hj,rfl,r0,r1,r2,hb⟩:=hrel
  cases gk with
  |zero=>
   obtain rfl:j=4-L:=by omega
   have hdl:A/2^k<2^(64*(4-L)):=by
    refine Nat.div_lt_of_lt_mul (Nat.lt_of_lt_of_le HA.out ?_)
    rw[<-Nat.pow_add]
    exact Nat.pow_le_pow_right (by decide) (by have:=HK.out.1;omega)
   rw[Nat.mod_eq_of_lt hdl]at r2
   clear hdl;clear hj
   have hx: ¬(((4-L:Nat):Int)<4-L):=by omega
   have hx':((4-L:Nat):Int)=4-L:=by omega
   rw[hx']
   have hx'': ¬((4:Int)-L<4-L):=by omega
   clear hx hx'
   go_wp2_with (first
    |refine Zf rfl 62 _ rfl _ rfl r2 4 _ underlying62 (by exact Zb) ?_
    |refine Zp rfl 62 _ _ rfl _ _ rfl rfl r1 (by exact Zb) (by simp only[Zl]) (Zr _) ?_)
   exact ZH rfl _ rfl (r1.setRow _) 4 _ underlying62 (by exact Zb) rfl ⟨by rw[HK.out.1],Zo hb (by omega) _⟩
  |succ g=>
   have hlt:(j:Int)<4-L:=by omega
   have hj4:(j:Int)<4:=by omega
   have hjL:(j:Int)+L<4:=by omega
   have hc0:=ZV r0 (j+L) (by omega)
   have hc2:=ZV r2 j (by omega)
   have hf2:=r2.frozen j
   have R:Aside (Row wr w.heap.size (Zc A) 62/\Row wr (w.heap.size+1) (Zc 0) 62/\Row wr (w.heap.size+1+1) (Zc (A/2^k%2^(64*j))) 62/\Below w.heap.size w wr):=⟨r0,r1,r2,hb⟩
   by_cases hj0:(j:Int)+L+1<4
   ·have hc1:=ZV r0 (j+L+1) (by omega)
    clear r0 r1 r2 hb
    go_wp2
    go_region
    go_wp2
    obtain⟨r0,r1,r2,hb⟩:=R.out
    go_roundg g
    case measure=>omega
    case rel=>
     refine⟨j+1,by omega,by go_num,((r0.setCell_far _ _ _ (by omega)).setCell_far _ _ _ (by omega)).drew,((r1.setCell_far _ _ _ (by omega)).setCell_far _ _ _ (by omega)).drew,?_,(ZL (ZL hb (by omega) _ _) (by omega) _ _).drew⟩
     have:=((r2.setCell j (.int .u64 (Sj A f (j+L):Nat))).setCell j (.int .u64 (PG A f (j+L):Nat))).drew
     rw[Array.setIfInBounds_setIfInBounds,XP (A/2^k) j _ (by omega) (by rw[HK.out.1,Qj A L f j hf])]at this
     rw[Dp,S9]
     exact this
   ·clear r0 r1 r2 hb
    have HT:Hid (PG A f (j+L)=Sj A f (j+L)):=LF A f _ (by rw[show j+L+1=4 by omega];exact Dr A HA.out)
    go_wp2
    obtain⟨r0,r1,r2,hb⟩:=R.out
    go_roundg g
    case measure=>omega
    case rel=>
     refine⟨j+1,by omega,by go_num,r0.setCell_far _ _ _ (by omega),r1.setCell_far _ _ _ (by omega),?_,ZL hb (by omega) _ _⟩
     have:=r2.setCell j (.int .u64 (Sj A f (j+L):Nat))
     rw[XP (A/2^k) j _ (by omega) (by rw[HK.out.1,Qj A L f j hf,HT.out])]at this
     rw[S9]
     exact this
theorem LG (A:Nat)(k:Int)(w:World)(h:k<1):
  Calls Tryz.prog 213 #[.agg (Zc A),.int .i64 k] w fun e w'=>e= .returned (.agg (Zc A))/\Below w.heap.size w w':=by
 have rA:Row ((w.alloc (.cells (Zc A) 62)).alloc (.cells (Zc 0) 62)) w.heap.size (Zc A) 62:=Row.one rfl
 have rR:Row ((w.alloc (.cells (Zc A) 62)).alloc (.cells (Zc 0) 62)) (w.heap.size+1) (Zc 0) 62:=Row.here (by simp)
 go_enter func213,ntmps213
 go_wp2_with (first
  |refine Zk rfl 62 _ rfl _ rfl ?_
  |refine Ze rfl 62 rfl _ Zm ?_
  |refine Zf rfl 62 _ rfl _ rfl rA 4 _ underlying62 (by exact Zb) ?_
  |refine Zp rfl 62 _ _ rfl _ _ rfl rfl rR (by exact Zb) (by simp only[Zl]) (Zr _) ?_)
 exact ZH rfl _ rfl (rR.setRow _) 4 _ underlying62 (by exact Zb) rfl ⟨rfl,Zo (ZS _ _) (by omega) _⟩
theorem N7 (A:Nat)(k:Int)(w:World)(h:256<=k):
  Calls Tryz.prog 213 #[.agg (Zc A),.int .i64 k] w fun e w'=>e= .returned (.agg (Zc 0))/\Below w.heap.size w w':=by
 have rR:Row ((w.alloc (.cells (Zc A) 62)).alloc (.cells (Zc 0) 62)) (w.heap.size+1) (Zc 0) 62:=Row.here (by simp)
 have h1: ¬k<1:=by omega
 go_enter func213,ntmps213
 go_wp2_with (first
  |refine Zk rfl 62 _ rfl _ rfl ?_
  |refine Ze rfl 62 rfl _ Zm ?_
  |refine Zt rfl 62 rfl _ Zw ?_
  |refine Zp rfl 62 _ _ rfl _ _ rfl rfl rR (by exact Zb) (by simp only[Zl]) (Zr _) ?_)
 exact ZH rfl _ rfl (rR.setRow _) 4 _ underlying62 (by exact Zb) rfl ⟨rfl,Zo (ZS _ _) (by omega) _⟩
theorem Qk (A:Nat)(k:Int)(w:World)(hA:A<2^256):
  Calls Tryz.prog 213 #[.agg (Zc A),.int .i64 k] w fun e w'=>e= .returned (.agg (Zc (A/2^k.toNat)))/\Below w.heap.size w w':=by
 by_cases h0:k<1
 ·rw[show k.toNat=0 by omega,Nat.pow_zero,Nat.div_one]
  exact LG A k w h0
 ·by_cases h1:256<=k
  ·rw[Nat.div_eq_of_lt (Nat.lt_of_lt_of_le hA (Nat.pow_le_pow_right (by decide) (by omega)))]
   exact N7 A k w h1
  ·obtain⟨K,rfl⟩:=Int.eq_ofNat_of_zero_le (show 0<=k by omega)
   rw[Int.toNat_natCast]
   have:=I3 A (K/64) (K%64) w (Nat.mod_lt _ (by decide)) (by omega) (by omega) hA
   rw[show 64*(K/64)+K%64=K by omega]at this
   exact this
