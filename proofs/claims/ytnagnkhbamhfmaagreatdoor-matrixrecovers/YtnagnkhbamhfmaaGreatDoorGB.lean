import Derived.Test.YtnagnkhbamhfmaaGreatDoorGA
import Derived.Deep.DeepCutAuto
import Derived.Deep.RegionLaw
set_option maxRecDepth 100000
set_option maxHeartbeats 8000000
namespace Go.Proofs.YtnagnkhbamhfmaaGreatDoor
set_option linter.all false
open Go.Proofs.Tryz
open Go.RowKit
theorem Cp (n:Int)(w:World)(h:n<=0):
  Calls Tryz.prog 40 #[.int .i64 n] w fun e w'=>e= .returned (.agg (Zb n.toNat))/\Below w.heap.size w w':=by
 have hg: ¬(0<n):=by omega
 have hd:decide (0<n)=false:=by simpa using hg
 go_enter func40,ntmps40
 go_wp2_with (first
  |refine Zf rfl 57 rfl _ Zm ?_
  |refine Zf rfl 140 rfl _ XT ?_
  |refine Zt rfl 140 rfl _ UC ?_
  |refine ZM rfl 140 _ _ rfl _ rfl rfl _ _ (by rw[Z0];exact YH) (by simp only[Z0]) (X0 _) ?_)
 go_loopg [4] 0 (fun g s4 wr=>s4= .int .i64 0/\Row wr (w.heap.size+1) (Xp 0) 140/\Row wr w.heap.size (Zb 0) 57/\Below w.heap.size w wr)
 case atStart=>exact⟨rfl,Row.here (by simp),Row.one rfl,Z7 _ _⟩
 case round=>
  obtain⟨rfl,r0,r1,hb⟩:=hrel
  go_wp2_with (first
   |refine Zh rfl 140 _ rfl _ rfl r0 256 _ underlying140 (by rw[Z0];exact YH) ?_
   |(go_at_call 89;refine(Nn _ _).mono ?_;rintro e w2 ⟨rfl,hb2⟩;have r5:=r1.belowAll hb2;have b5:=Zi hb (e_ _) hb2)
   |refine Zp rfl 57 _ _ rfl _ _ rfl rfl r5 (by exact Zc) (by simp only[Zk]) (Zu _) ?_)
  rw[show n.toNat=0 by omega];exact ZN rfl _ rfl (r5.setRow _) 4 _ b_ (by exact Zc) rfl ⟨rfl,Zr b5 (by omega) _⟩
theorem Gn (N:Nat)(w:World)(h0:0<N)(h1:N<9223372036854775808):
  Calls Tryz.prog 40 #[.int .i64 N] w fun e w'=>e= .returned (.agg (Zb N))/\Below w.heap.size w w':=by
 have hg:(0:Int)<N:=by omega
 have H1:Hid (N<9223372036854775808):=h1;clear h1 h0
 go_enter func40,ntmps40
 go_wp2_with (first
  |refine Zf rfl 57 rfl _ Zm ?_
  |refine Zf rfl 140 rfl _ XT ?_
  |refine Zt rfl 140 rfl _ UC ?_
  |refine ZM rfl 140 _ _ rfl _ rfl rfl _ _ (by rw[Z0];exact YH) (by simp only[Z0]) (X0 _) ?_)
 go_loopg [4] 63 (fun g s4 wr=> ∃k:Nat,k+g=63/\s4= .int .i64 k/\Row wr (w.heap.size+1) (Xp (N%2^k)) 140/\Row wr w.heap.size (Zb 0) 57/\Below w.heap.size w wr)
 case atStart=>exact⟨0,by omega,rfl,by rw[aB0,aW0];exact Row.here (by simp),Row.one rfl,Z7 _ _⟩
 case round=>
  obtain⟨k,hk,rfl,r0,r1,hb⟩:=hrel
  cases gk with
  |zero=>
   obtain rfl:k=63:=by omega
   rw[g_ (show N<2^63 from H1.out)]at r0;clear hk;have hx: ¬((63:Int)<63):=by omega
   go_wp2_with (first
    |refine Zh rfl 140 _ rfl _ rfl r0 256 _ underlying140 (by rw[Z0];exact YH) ?_
    |(go_at_call 89;refine(Nn _ _).mono ?_;rintro e w2 ⟨rfl,hb2⟩;have r5:=r1.belowAll hb2;have b5:=Zi hb (e_ _) hb2)
    |refine Zp rfl 57 _ _ rfl _ _ rfl rfl r5 (by exact Zc) (by simp only[Zk]) (Zu _) ?_)
   exact ZN rfl _ rfl (r5.setRow _) 4 _ b_ (by exact Zc) rfl ⟨rfl,Zr b5 (by omega) _⟩
  |succ g=>
   have hlt:(k:Int)<63:=by omega
   have hlt':(k:Int)<256:=by omega
   have hc0:=WZ r0 k (by omega);have hf0:=r0.frozen k;have R:Aside (Row wr (w.heap.size+1) (Xp (N%2^k)) 140/\Row wr w.heap.size (Zb 0) 57/\Below w.heap.size w wr):=⟨r0,r1,hb⟩;clear r0 r1 hb;go_wp2;obtain⟨r0,r1,hb⟩:=R.out
   go_roundg g
   case measure=>omega
   case rel=>
    refine⟨k+1,by omega,by go_num,?_,r1.setCell_far _ _ _ (by omega),ZO hb (by omega) _ _⟩;have:=r0.setCell k (.bool (bits BinOp.and IntKind.i64 (↑N/2^k) 1==1));rw[Qt N k _ (MP _ _ H1.out)]at this;exact this
theorem Vo (n:Int)(w:World)(h:n<9223372036854775808):
  Calls Tryz.prog 40 #[.int .i64 n] w (Rt (.agg (Zb n.toNat)) w):=by
 by_cases h0:n<=0
 ·exact Cp n w h0
 ·obtain⟨N,rfl⟩:=aU0 (show 0<=n by omega);rw[q_];exact Gn N w (by omega) (by omega)
def vS (N:Nat):Nat:=2^256-1-N%2^256
def vJ (N k:Nat):Nat:=vS N%2^k+N/2^k*2^k
def VB (A B:Nat):Int:=if A<B then-1 else if B<A then 1 else 0
theorem QC (A g:Nat)(h1:2^g<=A)(h2:A<2^(g+1)):bitLen A=g+1:=by
 have h0:A≠0:=by have:=v_ g;omega
 unfold bitLen;rw[j_ h0,(Nat.log2_eq_iff h0).2 ⟨h1,h2⟩]
theorem Cq (A g:Nat)(h2:A<2^(g+1)):(A.testBit g=true->2^g<=A)/\(A.testBit g=false->A<2^g):=by
 constructor
 ·intro h;exact Nat.ge_two_pow_of_testBit h
 ·intro h;rcases Kl A g with ⟨_,_,h3⟩|⟨h3,_⟩
  ·rw[g_ h2]at h3;rw[h3];exact n_ _ (v_ g)
  ·rw[h]at h3;cases h3
def zy (A:Nat)(k:Int):Int:=if 0<=k/\k<256/\A.testBit k.toNat=true then 1 else 0
theorem Rn (A:Nat)(w:World)(hA:A<2^256):
  Calls Tryz.prog 103 #[.agg (Zb A)] w fun e w'=>e= .returned (.int .i64 (bitLen A))/\Below w.heap.size w w':=by
 have HA:Hid (A<2^256):=hA;clear hA
 go_enter func103,ntmps103
 go_wp2_with (first
  |refine Zj rfl 57 _ rfl _ rfl ?_
  |refine Zh rfl 57 _ rfl _ rfl (by first|assumption|(refine Row.here ?_;first|(with_reducible rfl)|(simp;done))|(refine Row.one ?_;first|(with_reducible rfl)|(simp;done))|(refine Row.two ?_;first|(with_reducible rfl)|(simp;done))) 4 _ b_ (by exact Zc) ?_
  |(go_at_call 104;refine(Tq _ _).mono ?_;rintro e w2 ⟨rfl,hb2⟩;have hs:=hb2.size;have b2:=Zi (Z9 _) (e_ _) hb2;clear hb2)
  |refine Zf rfl 140 rfl _ XT ?_
  |refine ZM rfl 140 _ _ rfl _ rfl rfl _ _ (by rw[Z0];exact YH) (by simp only[Z0]) (X0 _) ?_)
 have r3:=Row.new w2 (Xp A) 140;have b3:=b2.alloc b2.size (.cells (Xp A) 140);generalize w2.alloc (.cells (Xp A) 140)=w3 at*;generalize w2.heap.size=r at*;clear b2 hs
 go_loopg [4] 256 (fun g s4 wr=>s4= .int .i64 ((g:Int)-1)/\A<2^g/\g<=256/\Row wr r (Xp A) 140/\Below w.heap.size w wr)
 case atStart=>exact⟨rfl,HA.out,e_ _,r3,b3⟩
 case round=>
  obtain⟨rfl,hlt,hle,r0,hb⟩:=hrel;clear r3 b3 HA
  cases gk with
  |zero=>
   obtain rfl:A=0:=by simpa using hlt
   clear hlt hle;go_wp2;go_ret;exact⟨rfl,hb⟩
  |succ g=>
   have ht:=Cq A g hlt;have hq:=QC A g;have hc0:=WZ r0 g (by omega);rw[show((g+1:Nat):Int)-1=(g:Int) by omega];have hgl:(g:Int)<256:=by omega
   cases hbit:A.testBit g
   ·rw[hbit]at hc0;have R:Aside (A<2^g/\Row wr r (Xp A) 140/\Below w.heap.size w wr):=⟨ht.2 hbit,r0,hb⟩;clear ht hq r0 hb hlt hbit;go_wp2;obtain⟨h1,r0,hb⟩:=R.out
    go_roundg g
    ·exact⟨rfl,h1,by omega,r0,hb⟩
    omega
   ·rw[hbit]at hc0;have R:Aside (bitLen A=g+1/\Below w.heap.size w wr):=⟨hq (ht.1 hbit) hlt,hb⟩;clear ht hq r0 hb hlt hbit;go_wp2;go_ret;exact⟨by rw[R.out.1];rfl,R.out.2⟩
theorem Cr (A k:Nat)(w:World)(hk:k<256):
  Calls Tryz.prog 177 #[.agg (Zb A),.int .i64 k] w fun e w'=>e= .returned (.int .i64 (if A.testBit k=true then 1 else 0))/\Below w.heap.size w w':=by
 have hk':(k:Int)<256:=by omega
 cases hbit:A.testBit k
 all_goals
  have HB:Hid (A.testBit k=_):=hbit;clear hbit
  go_enter func177,ntmps177
  go_wp2_with (first
   |refine Zj rfl 57 _ rfl _ rfl ?_
   |refine Zh rfl 57 _ rfl _ rfl (by first|assumption|(refine Row.here ?_;first|(with_reducible rfl)|(simp;done))|(refine Row.one ?_;first|(with_reducible rfl)|(simp;done))|(refine Row.two ?_;first|(with_reducible rfl)|(simp;done))) 4 _ b_ (by exact Zc) ?_
   |(go_at_call 104;refine(Tq _ _).mono ?_;rintro e w2 ⟨rfl,hb2⟩;have b2:=(Zi (Z9 _) (e_ _) hb2).alloc (by have:=hb2.size;simp at this;omega) (.cells (Xp A) 140);clear hb2;have hc0:=WZ (Row.new w2 (Xp A) 140) k hk;rw[HB.out]at hc0)
   |refine Zf rfl 140 rfl _ XT ?_
   |refine ZM rfl 140 _ _ rfl _ rfl rfl _ _ (by rw[Z0];exact YH) (by simp only[Z0]) (X0 _) ?_)
  go_ret;exact⟨rfl,b2⟩
theorem Gp (A:Nat)(k:Int)(w:World)(hk:k<0∨256<=k):
  Calls Tryz.prog 177 #[.agg (Zb A),.int .i64 k] w fun e w'=>e= .returned (.int .i64 0)/\Below w.heap.size w w':=by
 rcases hk with hk|hk
 ·have h1: ¬(0<=k):=by omega
  have h2:decide (0<=k)=false:=by simpa using h1
  go_enter func177,ntmps177
  go_wp2_with (first
   |refine Zj rfl 57 _ rfl _ rfl ?_
   |refine Zh rfl 57 _ rfl _ rfl (by first|assumption|(refine Row.here ?_;first|(with_reducible rfl)|(simp;done))|(refine Row.one ?_;first|(with_reducible rfl)|(simp;done))|(refine Row.two ?_;first|(with_reducible rfl)|(simp;done))) 4 _ b_ (by exact Zc) ?_
   |(go_at_call 104;refine(Tq _ _).mono ?_;rintro e w2 ⟨rfl,hb2⟩;have b2:=(Zi (Z9 _) (e_ _) hb2).alloc (by have:=hb2.size;simp at this;omega) (.cells (Xp A) 140);clear hb2)
   |refine Zf rfl 140 rfl _ XT ?_
   |refine ZM rfl 140 _ _ rfl _ rfl rfl _ _ (by rw[Z0];exact YH) (by simp only[Z0]) (X0 _) ?_)
  go_ret;exact⟨rfl,b2⟩
 ·have h1: ¬(k<256):=by omega
  have h2:decide (k<256)=false:=by simpa using h1
  have h3:0<=k:=by omega
  go_enter func177,ntmps177
  go_wp2_with (first
   |refine Zj rfl 57 _ rfl _ rfl ?_
   |refine Zh rfl 57 _ rfl _ rfl (by first|assumption|(refine Row.here ?_;first|(with_reducible rfl)|(simp;done))|(refine Row.one ?_;first|(with_reducible rfl)|(simp;done))|(refine Row.two ?_;first|(with_reducible rfl)|(simp;done))) 4 _ b_ (by exact Zc) ?_
   |(go_at_call 104;refine(Tq _ _).mono ?_;rintro e w2 ⟨rfl,hb2⟩;have b2:=(Zi (Z9 _) (e_ _) hb2).alloc (by have:=hb2.size;simp at this;omega) (.cells (Xp A) 140);clear hb2)
   |refine Zf rfl 140 rfl _ XT ?_
   |refine ZM rfl 140 _ _ rfl _ rfl rfl _ _ (by rw[Z0];exact YH) (by simp only[Z0]) (X0 _) ?_)
  go_ret;exact⟨rfl,b2⟩
theorem Gq (A:Nat)(k:Int)(w:World):
  Calls Tryz.prog 177 #[.agg (Zb A),.int .i64 k] w (Rt (.int .i64 (zy A k)) w):=by
 unfold zy;by_cases h0:0<=k/\k<256
 ·obtain⟨K,rfl⟩:=aU0 h0.1;refine(Cr A K w (by omega)).mono fun e w' ⟨he,hb⟩=>⟨?_,hb⟩
  rw[he,q_];by_cases hb:A.testBit K=true
  ·rw[i_ hb,i_ ⟨h0.1,h0.2,hb⟩]
  ·rw[j_ hb,j_ (fun h=>hb h.2.2)]
 ·rw[j_ (fun h=>h0 ⟨h.1,h.2.1⟩)];exact Gp A k w (by omega)
theorem Cs (A:Nat)(w:World)(hA:A<2^256)(h:63<bitLen A):
  Calls Tryz.prog 50 #[.agg (Zb A)] w fun e w'=>e= .returned (.tuple #[.int .i64 0,.bool false])/\Below w.heap.size w w':=by
 have HA:Hid (A<2^256):=hA;clear hA;have h':(63:Int)<(bitLen A:Int):=by omega
 clear h
 go_enter hI0,ntmps50
 go_wp2_with (first
  |refine Zj rfl 57 _ rfl _ rfl ?_
  |refine Zh rfl 57 _ rfl _ rfl (by first|assumption|(refine Row.here ?_;first|(with_reducible rfl)|(simp;done))|(refine Row.one ?_;first|(with_reducible rfl)|(simp;done))|(refine Row.two ?_;first|(with_reducible rfl)|(simp;done))) 4 _ b_ (by exact Zc) ?_
  |(go_at_call 103;refine(Rn _ _ HA.out).mono ?_;rintro e w2 ⟨rfl,hb2⟩;have b2:=Zi (Z9 _) (e_ _) hb2;clear hb2))
 go_ret2;exact⟨rfl,b2⟩
theorem Gr (A:Nat)(w:World)(hA:A<9223372036854775808)(h:bitLen A<=63):
  Calls Tryz.prog 50 #[.agg (Zb A)] w fun e w'=>e= .returned (.tuple #[.int .i64 A,.bool true])/\Below w.heap.size w w':=by
 have HA:Hid (A<9223372036854775808):=hA;clear hA;have h': ¬(63:Int)<(bitLen A:Int):=by omega
 clear h
 go_enter hI0,ntmps50
 go_wp2_with (first
  |refine Zj rfl 57 _ rfl _ rfl ?_
  |refine Zh rfl 57 _ rfl _ rfl (by first|assumption|(refine Row.here ?_;first|(with_reducible rfl)|(simp;done))|(refine Row.one ?_;first|(with_reducible rfl)|(simp;done))|(refine Row.two ?_;first|(with_reducible rfl)|(simp;done))) 4 _ b_ (by exact Zc) ?_
  |(go_at_call 103;refine(Rn _ _ (E_ HA.out (by decide))).mono ?_;rintro e w2 ⟨rfl,hb2⟩;have r2:=(Row.here (w:=w) (c:=Zb A) (t:=57) (b:=w.heap.size) rfl).belowAll hb2;have b2:=Zi (Z9 _) (e_ _) hb2;clear hb2)
  |refine Zh rfl 57 _ rfl _ rfl r2 4 _ b_ (by exact Zc) ?_
  |(go_at_call 104;refine(Tq _ _).mono ?_;rintro e w3 ⟨rfl,hb3⟩;have b3:=Zi b2 (e_ _) hb3;clear hb3)
  |refine Zf rfl 140 rfl _ XT ?_
  |refine ZM rfl 140 _ _ rfl _ rfl rfl _ _ (by rw[Z0];exact YH) (by simp only[Z0]) (X0 _) ?_)
 have r3:=Row.new w3 (Xp A) 140;have b4:=b3.alloc b3.size (.cells (Xp A) 140);generalize w3.alloc (.cells (Xp A) 140)=w4 at*;generalize w3.heap.size=r at*;clear b2 b3 r2 h'
 go_loopg [4,6] 63 (fun g s4 s6 wr=> ∃k:Nat,k+g=63/\s4= .int .i64 ((A%2^k:Nat):Int)/\s6= .int .i64 k/\Row wr r (Xp A) 140/\Below w.heap.size w wr)
 case atStart=>exact⟨0,by omega,by rw[aB0,aW0];rfl,rfl,r3,b4⟩
 case round=>
  obtain⟨k,hk,rfl,rfl,r0,hb⟩:=hrel;clear r3 b4
  cases gk with
  |zero=>
   obtain rfl:k=63:=by omega
   rw[g_ (show A<2^63 from HA.out)];clear hk;have hx: ¬((63:Int)<63):=by omega
   go_wp2;go_ret2;exact⟨rfl,hb⟩
  |succ g=>
   have hlt:(k:Int)<63:=by omega
   have hlt':(k:Int)<256:=by omega
   have hc0:=WZ r0 k (by omega);have hm:A%2^k<9223372036854775808:=X_ (Nat.mod_le _ _) HA.out;have hno:=Tp A k;have hor:=P8 A k;have HM:Hid (A%2^k<9223372036854775808):=hm;cases hbit:A.testBit k
   ·rw[hbit]at hc0;have R:Aside (A%2^(k+1)=A%2^k/\Row wr r (Xp A) 140/\Below w.heap.size w wr):=⟨hno hbit,r0,hb⟩;clear hno hor r0 hb hbit hm;go_wp2;obtain⟨h1,r0,hb⟩:=R.out
    go_roundg g
    ·exact⟨k+1,by omega,by rw[h1],by go_num,r0,hb⟩
    omega
   ·rw[hbit]at hc0;have R:Aside (A%2^k|||2^k=A%2^(k+1)/\Row wr r (Xp A) 140/\Below w.heap.size w wr):=⟨hor hbit,r0,hb⟩;clear hno hor r0 hb hbit hm;go_wp2;obtain⟨h1,r0,hb⟩:=R.out
    go_roundg g
    ·exact⟨k+1,by omega,by rw[<-h1,<-Nl _ _ HM.out (by omega),O_,fT0];simp[wrap64],by go_num,r0,hb⟩
    omega
theorem XL:Extern.find Tryz.f198=some add64Entry:=by kernel_rfl
theorem XM:Extern.findNext Tryz.f198=none:=by kernel_rfl
theorem MU:Extern.find Tryz.f191=some SI:=by kernel_rfl
theorem MV:Extern.findNext Tryz.f191=none:=by kernel_rfl
theorem Ua (A B:Nat)(w:World):
  Calls Tryz.prog 184 #[.agg (Zb A),.agg (Zb B)] w fun e w'=>e= .returned (.tuple #[.agg (Zb (A+B)),.int .i64 (cN A B 256:Nat)])/\Below w.heap.size w w':=by
 go_enter func184,ntmps184
 go_wp2_with (first
  |refine Zj rfl 57 _ rfl _ rfl ?_
  |refine Zf rfl 57 rfl _ Zm ?_)
 go_loopg [7,9] 4 (fun g s7 s9 wr=> ∃k:Nat,k+g=4/\s7= .int .u64 (cN A B (64*k))/\s9= .int .i64 k/\Row wr w.heap.size (Zb A) 57/\Row wr (w.heap.size+1) (Zb B) 57/\Row wr (w.heap.size+1+1) (Zb 0) 57/\Row wr (w.heap.size+1+1+1) (Zb ((A+B)%2^(64*k))) 57/\Below w.heap.size w wr)
 case atStart=>
  refine⟨0,by omega,by rw[show cN A B (64*0)=0 by unfold cN;rw[show Kk A B (64*0)=false from MN A B];rfl];rfl,rfl,(Row.two rfl).alloc _,Row.two (by simp),Row.one (by simp),?_,(YM _ _ _).alloc (by simp;omega) _⟩;rw[show(A+B)%2^(64*0)=0 by simp[aW0]];exact Row.here (by simp)
 case round=>
  obtain⟨k,hk,rfl,rfl,r0,r1,r2,r3,hb⟩:=hrel
  cases gk with
  |zero=>
   obtain rfl:k=4:=by omega
   rw[show(A+B)%2^(64*4)=(A+B)%2^256 from rfl,Yp]at r3;clear hk;have hx: ¬((4:Int)<4):=by omega
   have hcl:=Cj A B (64*4);rw[show 64*4=256 from rfl]at hcl ⊢;have HC:Hid (∃c,cN A B 256=c):=⟨_,rfl⟩;obtain⟨c,hC⟩:=HC.out;rw[hC]at hcl ⊢;have HC:Hid (cN A B 256=c):=hC;clear hC
   go_wp2_with (first
    |refine Zh rfl 57 _ rfl _ rfl r3 4 _ b_ (by exact Zc) ?_
    |refine Zp rfl 57 _ _ rfl _ _ rfl rfl r2 (by exact Zc) (by simp only[Zk]) (Zu _) ?_)
   refine Yb rfl _ rfl (r2.setRow _) 4 _ b_ (by exact Zc) rfl _ rfl ⟨by rw[HC.out];rfl,Zr hb (by omega) _⟩
  |succ g=>
   have hlt:(k:Int)<4:=by omega
   have hc0:=ZW r0 k (by omega);have hc1:=ZW r1 k (by omega);have hc3:=ZW r3 k (by omega);have hf3:=r3.frozen k;have R:Aside (Row wr w.heap.size (Zb A) 57/\Row wr (w.heap.size+1) (Zb B) 57/\Row wr (w.heap.size+1+1) (Zb 0) 57/\Row wr (w.heap.size+1+1+1) (Zb ((A+B)%2^(64*k))) 57/\Below w.heap.size w wr):=⟨r0,r1,r2,r3,hb⟩;clear r0 r1 r2 r3 hb;have hcl:=Cj A B (64*k);have hl:=Gj A B k;have hs:=Kq A B k;generalize cN A B (64*k)=c at*;have S:Aside (lm (A+B) k=SJ (lm A k) (lm B k) c/\cN A B (64*(k+1))=P1 (lm A k) (lm B k) c):=⟨hl,hs⟩;clear hl hs;go_wp2
   go_region_law (refine VI (by rfl) 198 _ _ (by rfl) func198 (by kernel_rfl) (by kernel_rfl) XM XL #[.int .u64 (lm A k),.int .u64 (lm B k),.int .u64 c] (by rfl) _ (YP _ _ _ hcl _) ?_)
   all_goals
    go_wp2;obtain⟨r0,r1,r2,r3,hb⟩:=R.out;obtain⟨hl,hs⟩:=S.out
    go_roundg g
    case measure=>omega
    case rel=>
     refine⟨k+1,by omega,by rw[hs],by go_num,(r0.setCell_far _ _ _ (by omega)).drew,(r1.setCell_far _ _ _ (by omega)).drew,(r2.setCell_far _ _ _ (by omega)).drew,?_,(ZO hb (by omega) _ _).drew⟩;have:=(r3.setCell k (.int .u64 (SJ (lm A k) (lm B k) c:Nat))).drew;rw[XU (A+B) k _ (by omega) hl.symm]at this;exact this
theorem X4 (A B:Nat)(w:World)(hB:B<2^256):
  Calls Tryz.prog 154 #[.agg (Zb A),.agg (Zb B)] w fun e w'=>e= .returned (.tuple #[.agg (Zb (WC A B)),.int .i64 (bN A B 256:Nat)])/\Below w.heap.size w w':=by
 have HB:Hid (B<2^256):=hB;clear hB
 go_enter iS0,ntmps154
 go_wp2_with (first
  |refine Zj rfl 57 _ rfl _ rfl ?_
  |refine Zf rfl 57 rfl _ Zm ?_)
 go_loopg [7,9] 4 (fun g s7 s9 wr=> ∃k:Nat,k+g=4/\s7= .int .u64 (bN A B (64*k))/\s9= .int .i64 k/\Row wr w.heap.size (Zb A) 57/\Row wr (w.heap.size+1) (Zb B) 57/\Row wr (w.heap.size+1+1) (Zb 0) 57/\Row wr (w.heap.size+1+1+1) (Zb ((WC A B)%2^(64*k))) 57/\Below w.heap.size w wr)
 case atStart=>
  refine⟨0,by omega,by rw[show bN A B (64*0)=0 by simp[bN,aW0]];rfl,rfl,(Row.two rfl).alloc _,Row.two (by simp),Row.one (by simp),?_,(YM _ _ _).alloc (by simp;omega) _⟩;rw[show(WC A B)%2^(64*0)=0 by simp[aW0]];exact Row.here (by simp)
 case round=>
  obtain⟨k,hk,rfl,rfl,r0,r1,r2,r3,hb⟩:=hrel
  cases gk with
  |zero=>
   obtain rfl:k=4:=by omega
   rw[show(WC A B)%2^(64*4)=(WC A B)%2^256 from rfl,Yp]at r3;clear hk;have hx: ¬((4:Int)<4):=by omega
   have hcl:=Gk A B (64*4);rw[show 64*4=256 from rfl]at hcl ⊢;have HC:Hid (∃c,bN A B 256=c):=⟨_,rfl⟩;obtain⟨c,hC⟩:=HC.out;rw[hC]at hcl ⊢;have HC:Hid (bN A B 256=c):=hC;clear hC
   go_wp2_with (first
    |refine Zh rfl 57 _ rfl _ rfl r3 4 _ b_ (by exact Zc) ?_
    |refine Zp rfl 57 _ _ rfl _ _ rfl rfl r2 (by exact Zc) (by simp only[Zk]) (Zu _) ?_)
   refine Yb rfl _ rfl (r2.setRow _) 4 _ b_ (by exact Zc) rfl _ rfl ⟨by rw[HC.out];rfl,Zr hb (by omega) _⟩
  |succ g=>
   have hlt:(k:Int)<4:=by omega
   have hc0:=ZW r0 k (by omega);have hc1:=ZW r1 k (by omega);have hc3:=ZW r3 k (by omega);have hf3:=r3.frozen k;have R:Aside (Row wr w.heap.size (Zb A) 57/\Row wr (w.heap.size+1) (Zb B) 57/\Row wr (w.heap.size+1+1) (Zb 0) 57/\Row wr (w.heap.size+1+1+1) (Zb ((WC A B)%2^(64*k))) 57/\Below w.heap.size w wr):=⟨r0,r1,r2,r3,hb⟩;clear r0 r1 r2 r3 hb;have hcl:=Gk A B (64*k);have hl:=Gm A B k (by omega) HB.out;have hs:=MQ A B k;generalize bN A B (64*k)=c at*;have S:Aside (lm (WC A B) k=xW (lm A k) (lm B k) c/\bN A B (64*(k+1))=vI (lm A k) (lm B k) c):=⟨hl,hs⟩;clear hl hs;go_wp2
   go_region_law (refine VI (by rfl) 191 _ _ (by rfl) func191 (by kernel_rfl) (by kernel_rfl) MV MU #[.int .u64 (lm A k),.int .u64 (lm B k),.int .u64 c] (by rfl) _ (Ko _ _ _ hcl _) ?_)
   all_goals
    go_wp2;obtain⟨r0,r1,r2,r3,hb⟩:=R.out;obtain⟨hl,hs⟩:=S.out
    go_roundg g
    case measure=>omega
    case rel=>
     refine⟨k+1,by omega,by rw[hs],by go_num,(r0.setCell_far _ _ _ (by omega)).drew,(r1.setCell_far _ _ _ (by omega)).drew,(r2.setCell_far _ _ _ (by omega)).drew,?_,(ZO hb (by omega) _ _).drew⟩;have:=(r3.setCell k (.int .u64 (xW (lm A k) (lm B k) c:Nat))).drew;rw[XU (WC A B) k _ (by omega) hl.symm]at this;exact this
theorem W3 (X Y:Nat):Zb X=Zb Y↔X%2^256=Y%2^256:=⟨Gi,fun h=>by rw[<-Yp X,<-Yp Y,h]⟩
theorem Gs (X Y:Nat):(lm X 0=lm Y 0/\lm X 1=lm Y 1/\lm X 2=lm Y 2/\lm X 3=lm Y 3)↔X%2^256=Y%2^256:=by
 rw[<-W3];constructor
 ·rintro⟨h0,h1,h2,h3⟩;unfold Zb;rw[h0,h1,h2,h3]
 ·intro h
  have hl: ∀i,i<4->lm X i=lm Y i:=fun i hi=>by
   have h1:=Yk X i hi;rw[h,Yk Y i hi]at h1;simp only[aT0,Value.int.injEq,iV0]at h1;omega
  exact⟨hl 0 (by omega),hl 1 (by omega),hl 2 (by omega),hl 3 (by omega)⟩
theorem QD (X Y:Nat)(w:World):(Op.equalIn 10000 57 (.agg (Zb X)) (.agg (Zb Y))).run Tryz.prog w= .ok (decide (X%2^256=Y%2^256)) w:=by
 have h:=Gs X Y;rw[show decide (X%2^256=Y%2^256)=decide (lm X 0=lm Y 0/\lm X 1=lm Y 1/\lm X 2=lm Y 2/\lm X 3=lm Y 3)from bO0.2 h.symm];clear h;have u3:=gZ0;have a3:=eK0;have z3:=cB0;unfold Zb;rw[show(10000:Nat)=9999+1 from rfl,Op.equalIn];simp only[r_,aA0 b_,m_];simp only[Std.Legacy.Range.forIn_eq_forIn_range',Std.Legacy.Range.size,Nat.sub_zero,Nat.add_sub_cancel,bY0,List.range'_succ,List.range'_zero,List.forIn_cons,List.forIn_nil]
 go_simp
 by_cases h1:lm X 0=lm Y 0<;>by_cases h2:lm X 1=lm Y 1<;>by_cases h3:lm X 2=lm Y 2<;>by_cases h4:lm X 3=lm Y 3<;>simp[h1,h2,h3,h4]<;>omega
theorem ZJ {o:Oper}{ρ:Operand->Value}(x y:Operand)(u:TypeId)(ho:o.op= .binOp .eql 57 x y u)(X Y:Nat)(hx:ρ x= .agg (Zb X))(hy:ρ y= .agg (Zb Y))(w:World):
  (execOp ρ o).run Tryz.prog w= .ok (.value (.bool (decide (X%2^256=Y%2^256)))) w:=by
 unfold execOp;simp only[ho,hx,hy];simp[eqGuard,run_eql_struct,QD]
theorem Z8 {o:Oper}{ρ:Operand->Value}(x y:Operand)(u:TypeId)(ho:o.op= .binOp .neq 57 x y u)(X Y:Nat)(hx:ρ x= .agg (Zb X))(hy:ρ y= .agg (Zb Y))(w:World):
  (execOp ρ o).run Tryz.prog w= .ok (.value (.bool (!decide (X%2^256=Y%2^256)))) w:=by
 unfold execOp;simp only[ho,hx,hy];simp[eqGuard,run_neq_struct,QD]
theorem Zv {P:Program}{ops:Array Oper}{rest:List Oper}{o:Oper}{a:Act}{w:World}{Q:Exit->Act->World->Prop}(hgd:o.guard=none)(v:Value)
  (hr:(execOp a.eval o).run P w= .ok (.value v) w)(h:wpList P ops Q rest (a.put o.dst v) w):wpList P ops Q (o::rest) a w:=
 gX0 hgd fun _ hK=>by unfold Oper.wp;rw[hr];exact hK _ _ h
theorem Ro (n:Nat)(h:n<18446744073709551616):Zb n=#[.int .u64 n,.int .u64 0,.int .u64 0,.int .u64 0]:=by
 unfold Zb lm;rw[show 64*0=0 from rfl,aB0,bY0,g_ (show n<2^64 from h),K_ (l_ h (by decide)),K_ (l_ h (by decide)),K_ (l_ h (by decide))];rfl
theorem Xv (n:Int)(w:World)(h1:n<9223372036854775808):
  Calls Tryz.prog 57 #[.int .i64 n] w fun e w'=>e= .returned (.agg (Zb n.toNat))/\Below w.heap.size w w':=by
 rw[Ro n.toNat (by omega)];by_cases h0:0<=n
 ·rw[Int.toNat_of_nonneg h0];have hm:max n 0=n:=by omega
  go_enter hP0,ntmps57
  go_wp2;exact ZN rfl _ rfl (Row.here rfl) 4 _ b_ (by exact Zc) rfl ⟨rfl,Z9 _⟩
 ·rw[show((n.toNat:Nat):Int)=0 by omega];have hm:max n 0=0:=by omega
  go_enter hP0,ntmps57
  go_wp2;exact ZN rfl _ rfl (Row.here rfl) 4 _ b_ (by exact Zc) rfl ⟨rfl,Z9 _⟩
theorem Wn (A B:Nat)(w:World)(hA:A<2^256)(hB:B<2^256):
  Calls Tryz.prog 112 #[.agg (Zb A),.agg (Zb B)] w fun e w'=>e= .returned (.int .i64 (VB A B))/\Below w.heap.size w w':=by
 have rA:Row ((w.alloc (.cells (Zb A) 57)).alloc (.cells (Zb B) 57)) w.heap.size (Zb A) 57:=Row.one rfl;have rB:Row ((w.alloc (.cells (Zb A) 57)).alloc (.cells (Zb B) 57)) (w.heap.size+1) (Zb B) 57:=Row.here (by simp);have HB:Hid (B<2^256):=hB;have ma:=g_ hA;have mb:=g_ hB;by_cases heq:A=B
 ·subst heq;clear ma mb hA hB
  go_enter iL0,ntmps112
  go_wp2_with (first
   |refine Zj rfl 57 _ rfl _ rfl ?_
   |refine Zh rfl 57 _ rfl _ rfl rA 4 _ b_ (by exact Zc) ?_
   |refine Zh rfl 57 _ rfl _ rfl rB 4 _ b_ (by exact Zc) ?_
   |refine Zv rfl (.bool true) ((ZJ _ _ _ rfl A A rfl rfl _).trans (by rw[c_ rfl])) ?_)
  go_ret;exact⟨by simp[VB],Z7 _ _⟩
 ·have HD:Hid (decide (A%2^256=B%2^256)=false):=by show _=_;rw[ma,mb];exact d_ heq
  have HN:Hid (bN A B 256=if A<B then 1 else 0):=by show _=_;unfold bN;rw[ma,mb]
  by_cases hlt:A<B
  ·have HC:Hid (VB A B= -1):=by show _=_;unfold VB;rw[i_ hlt]
   have hn:((bN A B 256:Nat):Int)=1:=by rw[HN.out,i_ hlt];rfl
   clear HN hlt heq ma mb hA hB
   go_enter iL0,ntmps112
   go_wp2_with (first
    |refine Zj rfl 57 _ rfl _ rfl ?_
    |refine Zh rfl 57 _ rfl _ rfl rA 4 _ b_ (by exact Zc) ?_
    |refine Zh rfl 57 _ rfl _ rfl rB 4 _ b_ (by exact Zc) ?_
    |refine Zv rfl (.bool false) ((ZJ _ _ _ rfl A B rfl rfl _).trans (by rw[HD.out])) ?_
    |(go_at_call 154;refine(X4 _ _ _ HB.out).mono ?_;rintro e w2 ⟨rfl,hb2⟩;have b2:=Zi (Z7 _ _) (e_ _) hb2;clear hb2)
    |refine Zf rfl 57 rfl _ Zm ?_
    |refine ZM rfl 57 _ _ rfl _ rfl rfl _ _ (by exact Zc) (by simp only[Zk]) (Zu _) ?_)
   go_ret;exact⟨by rw[HC.out];rfl,b2.alloc b2.size _⟩
  ·have HC:Hid (VB A B=1):=by show _=_;unfold VB;rw[j_ hlt,i_ (by omega)]
   have hn:((bN A B 256:Nat):Int)=0:=by rw[HN.out,j_ hlt];rfl
   clear HN hlt heq ma mb hA hB
   go_enter iL0,ntmps112
   go_wp2_with (first
    |refine Zj rfl 57 _ rfl _ rfl ?_
    |refine Zh rfl 57 _ rfl _ rfl rA 4 _ b_ (by exact Zc) ?_
    |refine Zh rfl 57 _ rfl _ rfl rB 4 _ b_ (by exact Zc) ?_
    |refine Zv rfl (.bool false) ((ZJ _ _ _ rfl A B rfl rfl _).trans (by rw[HD.out])) ?_
    |(go_at_call 154;refine(X4 _ _ _ HB.out).mono ?_;rintro e w2 ⟨rfl,hb2⟩;have b2:=Zi (Z7 _ _) (e_ _) hb2;clear hb2)
    |refine Zf rfl 57 rfl _ Zm ?_
    |refine ZM rfl 57 _ _ rfl _ rfl rfl _ _ (by exact Zc) (by simp only[Zk]) (Zu _) ?_)
   go_ret;exact⟨by rw[HC.out];rfl,b2.alloc b2.size _⟩
def QE (A:Nat):Int:=if A<9223372036854775808 then A else 0
def Qp (A:Nat):Bool:=decide (A<9223372036854775808)
theorem Kv (A:Nat):lm A 0=A%18446744073709551616:=by unfold lm;simp
theorem Kw (A:Nat)(w:World)(hA:A<2^256)(h:18446744073709551616<=A):
  Calls Tryz.prog 149 #[.agg (Zb A)] w fun e w'=>e= .returned (.tuple #[.int .i64 0,.bool false])/\Below w.heap.size w w':=by
 have rA:=Row.new w (Zb A) 57;have hc0:=ZW rA 0 (by omega)
 have HV:Hid ((!decide (A%2^256=lm A 0%2^256))=true):=by
  show _=_
  rw[Kv,g_ hA,d_];rfl;intro e;omega
 clear hA h
 go_enter func149,ntmps149
 go_wp2_with (first
  |refine Zj rfl 57 _ rfl _ rfl ?_
  |refine Zh rfl 57 _ rfl _ rfl rA 4 _ b_ (by exact Zc) ?_
  |refine Zv rfl (.bool true) ((Z8 _ _ _ rfl A (lm A 0) rfl (by rw[Ro _ (Xt A 0)];rfl) _).trans (by rw[HV.out])) ?_)
 go_ret2;exact⟨rfl,Z9 _⟩
theorem Gt (A:Nat)(w:World)(h:A<18446744073709551616):
  Calls Tryz.prog 149 #[.agg (Zb A)] w fun e w'=>e= .returned (.tuple #[.int .i64 (QE A),.bool (Qp A)])/\Below w.heap.size w w':=by
 have rA:=Row.new w (Zb A) 57;have hc0:=ZW rA 0 (by omega);rw[Kv,g_ h]at hc0
 have HV:Hid ((!decide (A%2^256=A%2^256))=false):=by show _=_;simp
 have HL:Hid (Zb A=#[.int .u64 A,.int .u64 0,.int .u64 0,.int .u64 0]):=Ro A h;by_cases h63:A<9223372036854775808
 ·have h1: ¬((9223372036854775807:Int)<A):=by omega
  have HI:Hid (QE A=A/\Qp A=true):=⟨i_ h63,c_ h63⟩;clear h h63
  go_enter func149,ntmps149
  go_wp2_with (first
   |refine Zj rfl 57 _ rfl _ rfl ?_
   |refine Zh rfl 57 _ rfl _ rfl rA 4 _ b_ (by exact Zc) ?_
   |refine Zv rfl (.bool false) ((Z8 _ _ _ rfl A A rfl (by rw[HL.out];rfl) _).trans (by rw[HV.out])) ?_)
  go_ret2;exact⟨by rw[HI.out.1,HI.out.2];rfl,Z9 _⟩
 ·have h1:(9223372036854775807:Int)<A:=by omega
  have HI:Hid (QE A=0/\Qp A=false):=⟨j_ h63,d_ h63⟩;clear h h63
  go_enter func149,ntmps149
  go_wp2_with (first
   |refine Zj rfl 57 _ rfl _ rfl ?_
   |refine Zh rfl 57 _ rfl _ rfl rA 4 _ b_ (by exact Zc) ?_
   |refine Zv rfl (.bool false) ((Z8 _ _ _ rfl A A rfl (by rw[HL.out];rfl) _).trans (by rw[HV.out])) ?_)
  go_ret2;exact⟨by rw[HI.out.1,HI.out.2];rfl,Z9 _⟩
theorem Gv (A:Nat)(w:World)(hA:A<2^256):
  Calls Tryz.prog 149 #[.agg (Zb A)] w (Rt (.tuple #[.int .i64 (QE A),.bool (Qp A)]) w):=by
 by_cases h:A<18446744073709551616
 ·exact Gt A w h
 ·rw[show QE A=0 from j_ (by omega),show Qp A=false from d_ (by omega)];exact Kw A w hA (by omega)
theorem QG (A:Nat):bitLen A<=63↔A<9223372036854775808:=by
 have h:=bitLen_spec A;constructor
 ·intro hl;exact l_ h.1 (aQ0 (by decide) hl)
 ·intro hA;unfold bitLen
  split
  ·omega
  ·rename_i h0
   have:=(hQ0 h0).2 (show A<2^63 from hA);omega
theorem U3 (A:Nat)(w:World)(hA:A<2^256):
  Calls Tryz.prog 50 #[.agg (Zb A)] w (Rt (.tuple #[.int .i64 (QE A),.bool (Qp A)]) w):=by
 by_cases h:A<9223372036854775808
 ·rw[show QE A=A from i_ h,show Qp A=true from c_ h];exact Gr A w h ((QG A).2 h)
 ·rw[show QE A=0 from j_ h,show Qp A=false from d_ h];refine Cs A w hA ?_;have:=QG A;omega
theorem Yr {P:Program}{o:Oper}{ρ:Operand->Value}(t:TypeId)(x ix:Operand)(ho:o.op= .index t x ix)(hu:P.underlying t=some .string)(S:ByteArray)(hx:ρ x= .string S)
  (hS:S.data.toList.map UInt8.toNat=(List.range 256).map bitLen)(k:IntKind)(i:Int)(hi:ρ ix= .int k i)(h0:0<=i)(h1:i<256)(w:World):
  (execOp ρ o).run P w= .ok (.value (.int .u8 (bitLen i.toNat))) w:=by
 have hsz:S.size=256:=by
  have:=dB0 List.length hS
  simpa using this
 have hlt:i.toNat<S.size:=by omega
 have hget:(S[i.toNat]'hlt).toNat=bitLen i.toNat:=by
  have h2:=dB0 (fun l:List Nat=>l[i.toNat]?) hS;simp only[cZ0]at h2;rw[hR0 (by omega)]at h2
  have h3:S.data.toList[i.toNat]?=some (S[i.toNat]'hlt):=by
   rw[k_];exact W_ hlt
  rw[h3]at h2
  simpa using h2
 unfold execOp;simp only[ho,hx,hi,r_];rw[run_index_string w t S k i hu,dif_pos ⟨h0,by omega⟩,hget];rfl
theorem WE {k:IntKind}{a b:Int}(h:a=b):Ending.returned (.int k a)= .returned (.int k b):=by rw[h]
theorem Xa (q n:Nat)(hq:q<=8)(hn:n<=56):wrap64 ((n:Int)+wrap64 (q:Int))=((n+q:Nat):Int):=by unfold wrap64;omega
theorem Rp (q:Nat)(hq:q<=8):wrap64 (wrap64 (q:Int))=(q:Int):=by unfold wrap64;omega
set_option maxRecDepth 1000000 in
theorem Cu (x:Nat)(w:World)(h0:0<=x)(h1:x<256):
  Calls Tryz.prog 153 #[.int .u64 x] w fun e w'=>e= .returned (.int .i64 (bitLen x))/\w'=w:=by
 have t0: ¬(4294967296:Int)<=(x:Int):=by omega
 have t1: ¬(65536:Int)<=(x:Int):=by omega
 have t2: ¬(256:Int)<=(x:Int):=by omega
 have HX:Hid (0<=(x:Int)/\(x:Int)<256):=⟨by omega,by omega⟩;have HB8:Hid (bitLen (x/1)<=8):=gM0 _ (by omega)
 have HB:Hid (bitLen x=0+bitLen (x/1)):=by
  show _=_
  rw[bY0];omega
 clear h0 h1
 go_enter func153,iM0
 go_wp2_with (first
  |(refine Zv rfl _ (Yr 9 _ _ rfl S_ _ rfl ?_ _ _ rfl ?_ ?_ _) ?_;(· kernel_rfl);(· exact HX.out.1);(· exact HX.out.2)))
 go_ret;have hb:=HB8.out;rw[bY0]at hb;exact⟨WE (Rp _ hb),rfl⟩
set_option maxRecDepth 1000000 in
theorem Cv (x:Nat)(w:World)(h0:256<=x)(h1:x<65536):
  Calls Tryz.prog 153 #[.int .u64 x] w fun e w'=>e= .returned (.int .i64 (bitLen x))/\w'=w:=by
 have t0: ¬(4294967296:Int)<=(x:Int):=by omega
 have t1: ¬(65536:Int)<=(x:Int):=by omega
 have t2:(256:Int)<=(x:Int):=by omega
 have HX:Hid (0<=(x:Int)/256/\(x:Int)/256<256):=⟨by omega,by omega⟩;have HB8:Hid (bitLen (x/256)<=8):=gM0 _ (by omega)
 have HB:Hid (bitLen x=8+bitLen (x/256)):=by
  show _=_
  exact fI0 x 8 (show x/256≠0 by omega)
 clear h0 h1
 go_enter func153,iM0
 go_wp2_with (first
  |(refine Zv rfl _ (Yr 9 _ _ rfl S_ _ rfl ?_ _ _ rfl ?_ ?_ _) ?_;(· kernel_rfl);(· exact HX.out.1);(· exact HX.out.2)))
 go_ret;refine⟨WE ?_,rfl⟩;rw[HB.out];exact Xa _ 8 HB8.out (by decide)
set_option maxRecDepth 1000000 in
theorem Cw (x:Nat)(w:World)(h0:65536<=x)(h1:x<16777216):
  Calls Tryz.prog 153 #[.int .u64 x] w fun e w'=>e= .returned (.int .i64 (bitLen x))/\w'=w:=by
 have t0: ¬(4294967296:Int)<=(x:Int):=by omega
 have t1:(65536:Int)<=(x:Int):=by omega
 have t2: ¬(256:Int)<=(x:Int)/65536:=by omega
 have HX:Hid (0<=(x:Int)/65536/\(x:Int)/65536<256):=⟨by omega,by omega⟩;have HB8:Hid (bitLen (x/65536)<=8):=gM0 _ (by omega)
 have HB:Hid (bitLen x=16+bitLen (x/65536)):=by
  show _=_
  exact fI0 x 16 (show x/65536≠0 by omega)
 clear h0 h1
 go_enter func153,iM0
 go_wp2_with (first
  |(refine Zv rfl _ (Yr 9 _ _ rfl S_ _ rfl ?_ _ _ rfl ?_ ?_ _) ?_;(· kernel_rfl);(· exact HX.out.1);(· exact HX.out.2)))
 go_ret;refine⟨WE ?_,rfl⟩;rw[HB.out];exact Xa _ 16 HB8.out (by decide)
set_option maxRecDepth 1000000 in
theorem Cx (x:Nat)(w:World)(h0:16777216<=x)(h1:x<4294967296):
  Calls Tryz.prog 153 #[.int .u64 x] w fun e w'=>e= .returned (.int .i64 (bitLen x))/\w'=w:=by
 have t0: ¬(4294967296:Int)<=(x:Int):=by omega
 have t1:(65536:Int)<=(x:Int):=by omega
 have t2:(256:Int)<=(x:Int)/65536:=by omega
 have HX:Hid (0<=(x:Int)/65536/256/\(x:Int)/65536/256<256):=⟨by omega,by omega⟩
 have HE:Hid (x/65536/256=x/16777216):=by show _=_;omega
 have HB8:Hid (bitLen (x/16777216)<=8):=gM0 _ (by omega)
 have HB:Hid (bitLen x=24+bitLen (x/16777216)):=by
  show _=_
  exact fI0 x 24 (show x/16777216≠0 by omega)
 clear h0 h1
 go_enter func153,iM0
 go_wp2_with (first
  |(refine Zv rfl _ (Yr 9 _ _ rfl S_ _ rfl ?_ _ _ rfl ?_ ?_ _) ?_;(· kernel_rfl);(· exact HX.out.1);(· exact HX.out.2)))
 go_ret;refine⟨WE ?_,rfl⟩;have hb:=HB8.out;rw[HB.out];rw[<-HE.out]at hb ⊢;exact Xa _ 24 hb (by decide)
set_option maxRecDepth 1000000 in
theorem Cy (x:Nat)(w:World)(h0:4294967296<=x)(h1:x<1099511627776):
  Calls Tryz.prog 153 #[.int .u64 x] w fun e w'=>e= .returned (.int .i64 (bitLen x))/\w'=w:=by
 have t0:(4294967296:Int)<=(x:Int):=by omega
 have t1: ¬(65536:Int)<=(x:Int)/4294967296:=by omega
 have t2: ¬(256:Int)<=(x:Int)/4294967296:=by omega
 have HX:Hid (0<=(x:Int)/4294967296/\(x:Int)/4294967296<256):=⟨by omega,by omega⟩;have HB8:Hid (bitLen (x/4294967296)<=8):=gM0 _ (by omega)
 have HB:Hid (bitLen x=32+bitLen (x/4294967296)):=by
  show _=_
  exact fI0 x 32 (show x/4294967296≠0 by omega)
 clear h0 h1
 go_enter func153,iM0
 go_wp2_with (first
  |(refine Zv rfl _ (Yr 9 _ _ rfl S_ _ rfl ?_ _ _ rfl ?_ ?_ _) ?_;(· kernel_rfl);(· exact HX.out.1);(· exact HX.out.2)))
 go_ret;refine⟨WE ?_,rfl⟩;rw[HB.out];exact Xa _ 32 HB8.out (by decide)
set_option maxRecDepth 1000000 in
theorem Cz (x:Nat)(w:World)(h0:1099511627776<=x)(h1:x<281474976710656):
  Calls Tryz.prog 153 #[.int .u64 x] w fun e w'=>e= .returned (.int .i64 (bitLen x))/\w'=w:=by
 have t0:(4294967296:Int)<=(x:Int):=by omega
 have t1: ¬(65536:Int)<=(x:Int)/4294967296:=by omega
 have t2:(256:Int)<=(x:Int)/4294967296:=by omega
 have HX:Hid (0<=(x:Int)/4294967296/256/\(x:Int)/4294967296/256<256):=⟨by omega,by omega⟩
 have HE:Hid (x/4294967296/256=x/1099511627776):=by show _=_;omega
 have HB8:Hid (bitLen (x/1099511627776)<=8):=gM0 _ (by omega)
 have HB:Hid (bitLen x=40+bitLen (x/1099511627776)):=by
  show _=_
  exact fI0 x 40 (show x/1099511627776≠0 by omega)
 clear h0 h1
 go_enter func153,iM0
 go_wp2_with (first
  |(refine Zv rfl _ (Yr 9 _ _ rfl S_ _ rfl ?_ _ _ rfl ?_ ?_ _) ?_;(· kernel_rfl);(· exact HX.out.1);(· exact HX.out.2)))
 go_ret;refine⟨WE ?_,rfl⟩;have hb:=HB8.out;rw[HB.out];rw[<-HE.out]at hb ⊢;exact Xa _ 40 hb (by decide)
set_option maxRecDepth 1000000 in
theorem CA (x:Nat)(w:World)(h0:281474976710656<=x)(h1:x<72057594037927936):
  Calls Tryz.prog 153 #[.int .u64 x] w fun e w'=>e= .returned (.int .i64 (bitLen x))/\w'=w:=by
 have t0:(4294967296:Int)<=(x:Int):=by omega
 have t1:(65536:Int)<=(x:Int)/4294967296:=by omega
 have t2: ¬(256:Int)<=(x:Int)/4294967296/65536:=by omega
 have HX:Hid (0<=(x:Int)/4294967296/65536/\(x:Int)/4294967296/65536<256):=⟨by omega,by omega⟩
 have HE:Hid (x/4294967296/65536=x/281474976710656):=by show _=_;omega
 have HB8:Hid (bitLen (x/281474976710656)<=8):=gM0 _ (by omega)
 have HB:Hid (bitLen x=48+bitLen (x/281474976710656)):=by
  show _=_
  exact fI0 x 48 (show x/281474976710656≠0 by omega)
 clear h0 h1
 go_enter func153,iM0
 go_wp2_with (first
  |(refine Zv rfl _ (Yr 9 _ _ rfl S_ _ rfl ?_ _ _ rfl ?_ ?_ _) ?_;(· kernel_rfl);(· exact HX.out.1);(· exact HX.out.2)))
 go_ret;refine⟨WE ?_,rfl⟩;have hb:=HB8.out;rw[HB.out];rw[<-HE.out]at hb ⊢;exact Xa _ 48 hb (by decide)
set_option maxRecDepth 1000000 in
theorem CB (x:Nat)(w:World)(h0:72057594037927936<=x)(h1:x<18446744073709551616):
  Calls Tryz.prog 153 #[.int .u64 x] w fun e w'=>e= .returned (.int .i64 (bitLen x))/\w'=w:=by
 have t0:(4294967296:Int)<=(x:Int):=by omega
 have t1:(65536:Int)<=(x:Int)/4294967296:=by omega
 have t2:(256:Int)<=(x:Int)/4294967296/65536:=by omega
 have HX:Hid (0<=(x:Int)/4294967296/65536/256%256/\(x:Int)/4294967296/65536/256%256<256):=⟨by omega,by omega⟩
 have HE:Hid (x/4294967296/65536/256%256=x/72057594037927936):=by show _=_;omega
 have HB8:Hid (bitLen (x/72057594037927936)<=8):=gM0 _ (by omega)
 have HB:Hid (bitLen x=56+bitLen (x/72057594037927936)):=by
  show _=_
  exact fI0 x 56 (show x/72057594037927936≠0 by omega)
 clear h0 h1
 go_enter func153,iM0
 go_wp2_with (first
  |(refine Zv rfl _ (Yr 9 _ _ rfl S_ _ rfl ?_ _ _ rfl ?_ ?_ _) ?_;(· kernel_rfl);(· exact HX.out.1);(· exact HX.out.2)))
 go_ret;refine⟨WE ?_,rfl⟩;have hb:=HB8.out;rw[HB.out];rw[<-HE.out]at hb ⊢;exact Xa _ 56 hb (by decide)
theorem Tx (x:Nat)(w:World)(h:x<18446744073709551616):
  Calls Tryz.prog 153 #[.int .u64 x] w fun e w'=>e= .returned (.int .i64 (bitLen x))/\w'=w:=by
 by_cases h0:x<256
 ·exact Cu x w (by omega) h0
 by_cases h1:x<65536
 ·exact Cv x w (by omega) h1
 by_cases h2:x<16777216
 ·exact Cw x w (by omega) h2
 by_cases h3:x<4294967296
 ·exact Cx x w (by omega) h3
 by_cases h4:x<1099511627776
 ·exact Cy x w (by omega) h4
 by_cases h5:x<281474976710656
 ·exact Cz x w (by omega) h5
 by_cases h6:x<72057594037927936
 ·exact CA x w (by omega) h6
 exact CB x w (by omega) h
theorem Kx (x:Nat)(h:x<18446744073709551616):bitLen x<=64:=by
 unfold bitLen
 split
 ·omega
 ·rename_i h0
  have:=(hQ0 h0).2 (show x<2^64 from h);omega
theorem Do (A k:Nat)(h:A<2^(64*(k+1))):lm A k=A/2^(64*k):=by
 unfold lm;refine g_ (aP0 ?_);rw[<-aG0];exact h
theorem Ky (A k:Nat)(h:A<2^(64*(k+1)))(h0:lm A k≠0):bitLen A=64*k+bitLen (lm A k):=by
 rw[Do A k h]at h0 ⊢;exact fI0 A (64*k) h0
theorem CD (A k:Nat)(h:A<2^(64*(k+1)))(h0:lm A k=0):A<2^(64*k):=by
 rw[Do A k h]at h0;exact(Nat.div_eq_zero_iff_lt (v_ _)).1 h0
theorem Vp (A:Nat)(w:World)(hA:A<2^256):
  Calls Tryz.prog 111 #[.agg (Zb A)] w fun e w'=>e= .returned (.int .i64 (bitLen A))/\Below w.heap.size w w':=by
 have HA:Hid (A<2^256):=hA;clear hA
 go_enter func111,ntmps111
 go_wp2_with (first
  |refine Zj rfl 57 _ rfl _ rfl ?_)
 go_loopg [5] 4 (fun g s5 wr=> ∃k:Nat,k+g=4/\s5= .int .i64 k/\A<2^(64*g)/\Row wr w.heap.size (Zb A) 57/\Below w.heap.size w wr)
 case atStart=>exact⟨0,by omega,rfl,HA.out,Row.new _ _ _,Z9 _⟩
 case round=>
  obtain⟨k,hk,rfl,hlt,r0,hb⟩:=hrel
  cases gk with
  |zero=>
   obtain rfl:k=4:=by omega
   obtain rfl:A=0:=by simpa using hlt
   clear hlt hk HA;have hx: ¬((4:Int)<4):=by omega
   go_wp2;go_ret;exact⟨rfl,hb⟩
  |succ g=>
   have hk4:(k:Int)<4:=by omega
   have hc0:=ZW r0 g (by omega);have hsub:(3:Int)-k=g:=by omega
   have hl:=Xt A g;by_cases h0:lm A g=0
   ·have R:Aside (A<2^(64*g)/\Row wr w.heap.size (Zb A) 57/\Below w.heap.size w wr):=⟨CD A g hlt h0,r0,hb⟩;rw[h0]at hc0;clear r0 hb hlt HA h0 hl;go_wp2;obtain⟨h1,r0,hb⟩:=R.out
    go_roundg g
    ·exact⟨k+1,by omega,by go_num,h1,r0,hb⟩
    omega
   ·have R:Aside (bitLen A=64*g+bitLen (lm A g)/\bitLen (lm A g)<=64/\Below w.heap.size w wr):=⟨Ky A g hlt h0,?_,hb⟩
    ·have hne:((lm A g:Nat):Int)≠0:=by omega
     have HL:Hid (lm A g<18446744073709551616):=hl;clear r0 hb hlt HA h0 hl
     go_wp2_with (first
      |(go_at_call 153;refine(Tx _ _ HL.out).mono ?_;rintro e w2 ⟨rfl,rfl⟩))
     go_ret;obtain⟨h1,h2,hb⟩:=R.out;refine⟨WE ?_,hb⟩;rw[h1];unfold wrap64;omega
    ·exact Kx _ hl
