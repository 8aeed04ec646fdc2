import Derived.Test.YtnagnkhbamhfmaaGreatDoorGA
import Derived.Deep.DeepCutAuto
import Derived.Deep.RegionLaw
set_option maxRecDepth 100000
set_option maxHeartbeats 8000000
namespace Go.Proofs.YtnagnkhbamhfmaaGreatDoor
set_option linter.all false
open Go.Proofs.Tryz
open Go.RowKit
theorem F0 (n:Int)(w:World)(h:n<=0):
  Calls prog 40 #[.int .i64 n] w fun e w'=>e= .returned (.agg (Zd n.toNat))/\Below w.heap.size w w':=by
 have hg: ¬(0<n):=by omega
 have hd:decide (0<n)=false:=by simpa using hg
 go_enter func40,ntmps40
 go_wp2_with (first
  |refine Zg rfl 57 rfl _ Zo ?_
  |refine Zg rfl 140 rfl _ Wv ?_
  |refine Zw rfl 140 rfl _ VQ ?_
  |refine ZR rfl 140 _ _ rfl _ rfl rfl _ _ (by rw[Z1];exact Y8) (by simp only[Z1]) (WJ _) ?_)
 go_loopg [4] 0 (fun g s4 wr=>s4= .int .i64 0/\Row wr (w.heap.size+1) (Xl 0) 140/\Row wr w.heap.size (Zd 0) 57/\Below w.heap.size w wr)
 case atStart=>exact⟨rfl,Row.here (by simp),Row.one rfl,Z0 _ _⟩
 case round=>
  obtain⟨rfl,r0,r1,hb⟩:=hrel
  go_wp2_with (first
   |refine Zj rfl 140 _ rfl _ rfl r0 256 _ underlying140 (by rw[Z1];exact Y8) ?_
   |(go_at_call 89;refine(PX _ _).mono ?_;rintro e w2 ⟨rfl,hb2⟩;have r5:=r1.belowAll hb2;have b5:=Zk hb (Nat.le_refl _) hb2)
   |refine Zs rfl 57 _ _ rfl _ _ rfl rfl r5 (by exact Zc) (by simp only[Zm]) (Zv _) ?_)
  rw[show n.toNat=0 by omega];exact ZL rfl _ rfl (r5.setRow _) 4 _ underlying57 (by exact Zc) rfl ⟨rfl,Zt b5 (by omega) _⟩
theorem JS (N:Nat)(w:World)(h0:0<N)(h1:N<9223372036854775808):
  Calls prog 40 #[.int .i64 N] w fun e w'=>e= .returned (.agg (Zd N))/\Below w.heap.size w w':=by
 have hg:(0:Int)<N:=by omega
 have H1:Hid (N<9223372036854775808):=h1;clear h1 h0
 go_enter func40,ntmps40
 go_wp2_with (first
  |refine Zg rfl 57 rfl _ Zo ?_
  |refine Zg rfl 140 rfl _ Wv ?_
  |refine Zw rfl 140 rfl _ VQ ?_
  |refine ZR rfl 140 _ _ rfl _ rfl rfl _ _ (by rw[Z1];exact Y8) (by simp only[Z1]) (WJ _) ?_)
 go_loopg [4] 63 (fun g s4 wr=> ∃k:Nat,k+g=63/\s4= .int .i64 k/\Row wr (w.heap.size+1) (Xl (N%2^k)) 140/\Row wr w.heap.size (Zd 0) 57/\Below w.heap.size w wr)
 case atStart=>exact⟨0,by omega,rfl,by rw[Nat.pow_zero,Nat.mod_one];exact Row.here (by simp),Row.one rfl,Z0 _ _⟩
 case round=>
  obtain⟨k,hk,rfl,r0,r1,hb⟩:=hrel
  cases gk with
  |zero=>
   obtain rfl:k=63:=by omega
   rw[Nat.mod_eq_of_lt (show N<2^63 from H1.out)]at r0;clear hk;have hx: ¬((63:Int)<63):=by omega
   go_wp2_with (first
    |refine Zj rfl 140 _ rfl _ rfl r0 256 _ underlying140 (by rw[Z1];exact Y8) ?_
    |(go_at_call 89;refine(PX _ _).mono ?_;rintro e w2 ⟨rfl,hb2⟩;have r5:=r1.belowAll hb2;have b5:=Zk hb (Nat.le_refl _) hb2)
    |refine Zs rfl 57 _ _ rfl _ _ rfl rfl r5 (by exact Zc) (by simp only[Zm]) (Zv _) ?_)
   exact ZL rfl _ rfl (r5.setRow _) 4 _ underlying57 (by exact Zc) rfl ⟨rfl,Zt b5 (by omega) _⟩
  |succ g=>
   have hlt:(k:Int)<63:=by omega
   have hlt':(k:Int)<256:=by omega
   have hc0:=Vm r0 k (by omega);have hf0:=r0.frozen k;have R:Aside (Row wr (w.heap.size+1) (Xl (N%2^k)) 140/\Row wr w.heap.size (Zd 0) 57/\Below w.heap.size w wr):=⟨r0,r1,hb⟩;clear r0 r1 hb;go_wp2;obtain⟨r0,r1,hb⟩:=R.out
   go_roundg g
   case measure=>omega
   case rel=>
    refine⟨k+1,by omega,by go_num,?_,r1.setCell_far _ _ _ (by omega),ZU hb (by omega) _ _⟩;have:=r0.setCell k (.bool (bits BinOp.and IntKind.i64 (↑N/2^k) 1==1));rw[Rk N k _ (Nk _ _ H1.out)]at this;exact this
theorem JT (n:Int)(w:World)(h:n<9223372036854775808):
  Calls prog 40 #[.int .i64 n] w (Rt (.agg (Zd n.toNat)) w):=by
 by_cases h0:n<=0
 ·exact F0 n w h0
 ·obtain⟨N,rfl⟩:=Int.eq_ofNat_of_zero_le (show 0<=n by omega);rw[Int.toNat_natCast];exact JS N w (by omega) (by omega)
def yf (N:Nat):Nat:=2^256-1-N%2^256
def zU (N k:Nat):Nat:=yf N%2^k+N/2^k*2^k
def WV (A B:Nat):Int:=if A<B then-1 else if B<A then 1 else 0
theorem Ru (A g:Nat)(h1:2^g<=A)(h2:A<2^(g+1)):bitLen A=g+1:=by
 have h0:A≠0:=by have:=Nat.two_pow_pos g;omega
 unfold bitLen;rw[if_neg h0,(Nat.log2_eq_iff h0).2 ⟨h1,h2⟩]
theorem F3 (A g:Nat)(h2:A<2^(g+1)):(A.testBit g=true->2^g<=A)/\(A.testBit g=false->A<2^g):=by
 constructor
 ·intro h;exact Nat.ge_two_pow_of_testBit h
 ·intro h;rcases Mt A g with ⟨_,_,h3⟩|⟨h3,_⟩
  ·rw[Nat.mod_eq_of_lt h2]at h3;rw[h3];exact Nat.mod_lt _ (Nat.two_pow_pos g)
  ·rw[h]at h3;cases h3
def bitI (A:Nat)(k:Int):Int:=if 0<=k/\k<256/\A.testBit k.toNat=true then 1 else 0
theorem P7 (A:Nat)(w:World)(hA:A<2^256):
  Calls prog 103 #[.agg (Zd A)] w fun e w'=>e= .returned (.int .i64 (bitLen A))/\Below w.heap.size w w':=by
 have HA:Hid (A<2^256):=hA;clear hA
 go_enter func103,ntmps103
 go_wp2_with (first
  |refine Zp rfl 57 _ rfl _ rfl ?_
  |refine Zj rfl 57 _ rfl _ rfl (by first|assumption|(refine Row.here ?_;first|(with_reducible rfl)|(simp;done))|(refine Row.one ?_;first|(with_reducible rfl)|(simp;done))|(refine Row.two ?_;first|(with_reducible rfl)|(simp;done))) 4 _ underlying57 (by exact Zc) ?_
  |(go_at_call 104;refine(Mv _ _).mono ?_;rintro e w2 ⟨rfl,hb2⟩;have hs:=hb2.size;have b2:=Zk (Z8 _) (Nat.le_refl _) hb2;clear hb2)
  |refine Zg rfl 140 rfl _ Wv ?_
  |refine ZR rfl 140 _ _ rfl _ rfl rfl _ _ (by rw[Z1];exact Y8) (by simp only[Z1]) (WJ _) ?_)
 have r3:=Row.new w2 (Xl A) 140;have b3:=b2.alloc b2.size (.cells (Xl A) 140);generalize w2.alloc (.cells (Xl A) 140)=w3 at*;generalize w2.heap.size=r at*;clear b2 hs
 go_loopg [4] 256 (fun g s4 wr=>s4= .int .i64 ((g:Int)-1)/\A<2^g/\g<=256/\Row wr r (Xl A) 140/\Below w.heap.size w wr)
 case atStart=>exact⟨rfl,HA.out,Nat.le_refl _,r3,b3⟩
 case round=>
  obtain⟨rfl,hlt,hle,r0,hb⟩:=hrel;clear r3 b3 HA
  cases gk with
  |zero=>
   obtain rfl:A=0:=by simpa using hlt
   clear hlt hle;go_wp2;go_ret;exact⟨rfl,hb⟩
  |succ g=>
   have ht:=F3 A g hlt;have hq:=Ru A g;have hc0:=Vm r0 g (by omega);rw[show((g+1:Nat):Int)-1=(g:Int) by omega];have hgl:(g:Int)<256:=by omega
   cases hbit:A.testBit g
   ·rw[hbit]at hc0;have R:Aside (A<2^g/\Row wr r (Xl A) 140/\Below w.heap.size w wr):=⟨ht.2 hbit,r0,hb⟩;clear ht hq r0 hb hlt hbit;go_wp2;obtain⟨h1,r0,hb⟩:=R.out
    go_roundg g
    case measure=>omega
    case rel=>exact⟨rfl,h1,by omega,r0,hb⟩
   ·rw[hbit]at hc0;have R:Aside (bitLen A=g+1/\Below w.heap.size w wr):=⟨hq (ht.1 hbit) hlt,hb⟩;clear ht hq r0 hb hlt hbit;go_wp2;go_ret;exact⟨by rw[R.out.1];rfl,R.out.2⟩
theorem F4 (A:Nat)(w:World)(hA:A<2^256)(h:63<bitLen A):
  Calls prog 50 #[.agg (Zd A)] w fun e w'=>e= .returned (.tuple #[.int .i64 0,.bool false])/\Below w.heap.size w w':=by
 have HA:Hid (A<2^256):=hA;clear hA;have h':(63:Int)<(bitLen A:Int):=by omega
 clear h
 go_enter func50,ntmps50
 go_wp2_with (first
  |refine Zp rfl 57 _ rfl _ rfl ?_
  |refine Zj rfl 57 _ rfl _ rfl (by first|assumption|(refine Row.here ?_;first|(with_reducible rfl)|(simp;done))|(refine Row.one ?_;first|(with_reducible rfl)|(simp;done))|(refine Row.two ?_;first|(with_reducible rfl)|(simp;done))) 4 _ underlying57 (by exact Zc) ?_
  |(go_at_call 103;refine(P7 _ _ HA.out).mono ?_;rintro e w2 ⟨rfl,hb2⟩;have b2:=Zk (Z8 _) (Nat.le_refl _) hb2;clear hb2))
 go_ret2;exact⟨rfl,b2⟩
theorem JU (A:Nat)(w:World)(hA:A<9223372036854775808)(h:bitLen A<=63):
  Calls prog 50 #[.agg (Zd A)] w fun e w'=>e= .returned (.tuple #[.int .i64 A,.bool true])/\Below w.heap.size w w':=by
 have HA:Hid (A<9223372036854775808):=hA;clear hA;have h': ¬(63:Int)<(bitLen A:Int):=by omega
 clear h
 go_enter func50,ntmps50
 go_wp2_with (first
  |refine Zp rfl 57 _ rfl _ rfl ?_
  |refine Zj rfl 57 _ rfl _ rfl (by first|assumption|(refine Row.here ?_;first|(with_reducible rfl)|(simp;done))|(refine Row.one ?_;first|(with_reducible rfl)|(simp;done))|(refine Row.two ?_;first|(with_reducible rfl)|(simp;done))) 4 _ underlying57 (by exact Zc) ?_
  |(go_at_call 103;refine(P7 _ _ (Nat.lt_trans HA.out (by decide))).mono ?_;rintro e w2 ⟨rfl,hb2⟩;have r2:=(Row.here (w:=w) (c:=Zd A) (t:=57) (b:=w.heap.size) rfl).belowAll hb2;have b2:=Zk (Z8 _) (Nat.le_refl _) hb2;clear hb2)
  |refine Zj rfl 57 _ rfl _ rfl r2 4 _ underlying57 (by exact Zc) ?_
  |(go_at_call 104;refine(Mv _ _).mono ?_;rintro e w3 ⟨rfl,hb3⟩;have b3:=Zk b2 (Nat.le_refl _) hb3;clear hb3)
  |refine Zg rfl 140 rfl _ Wv ?_
  |refine ZR rfl 140 _ _ rfl _ rfl rfl _ _ (by rw[Z1];exact Y8) (by simp only[Z1]) (WJ _) ?_)
 have r3:=Row.new w3 (Xl A) 140;have b4:=b3.alloc b3.size (.cells (Xl A) 140);generalize w3.alloc (.cells (Xl A) 140)=w4 at*;generalize w3.heap.size=r at*;clear b2 b3 r2 h'
 go_loopg [4,6] 63 (fun g s4 s6 wr=> ∃k:Nat,k+g=63/\s4= .int .i64 ((A%2^k:Nat):Int)/\s6= .int .i64 k/\Row wr r (Xl A) 140/\Below w.heap.size w wr)
 case atStart=>exact⟨0,by omega,by rw[Nat.pow_zero,Nat.mod_one];rfl,rfl,r3,b4⟩
 case round=>
  obtain⟨k,hk,rfl,rfl,r0,hb⟩:=hrel;clear r3 b4
  cases gk with
  |zero=>
   obtain rfl:k=63:=by omega
   rw[Nat.mod_eq_of_lt (show A<2^63 from HA.out)];clear hk;have hx: ¬((63:Int)<63):=by omega
   go_wp2;go_ret2;exact⟨rfl,hb⟩
  |succ g=>
   have hlt:(k:Int)<63:=by omega
   have hlt':(k:Int)<256:=by omega
   have hc0:=Vm r0 k (by omega);have hm:A%2^k<9223372036854775808:=Nat.lt_of_le_of_lt (Nat.mod_le _ _) HA.out;have hno:=UH A k;have hor:=QJ A k;have HM:Hid (A%2^k<9223372036854775808):=hm;cases hbit:A.testBit k
   ·rw[hbit]at hc0;have R:Aside (A%2^(k+1)=A%2^k/\Row wr r (Xl A) 140/\Below w.heap.size w wr):=⟨hno hbit,r0,hb⟩;clear hno hor r0 hb hbit hm;go_wp2;obtain⟨h1,r0,hb⟩:=R.out
    go_roundg g
    case measure=>omega
    case rel=>exact⟨k+1,by omega,by rw[h1],by go_num,r0,hb⟩
   ·rw[hbit]at hc0;have R:Aside (A%2^k|||2^k=A%2^(k+1)/\Row wr r (Xl A) 140/\Below w.heap.size w wr):=⟨hor hbit,r0,hb⟩;clear hno hor r0 hb hbit hm;go_wp2;obtain⟨h1,r0,hb⟩:=R.out
    go_roundg g
    case measure=>omega
    case rel=>exact⟨k+1,by omega,by rw[<-h1,<-JO _ _ HM.out (by omega),IntKind.wrap_i64,Int.natCast_emod];simp[wrap64],by go_num,r0,hb⟩
theorem Xs:Extern.find Tryz.f198=some add64Entry:=by kernel_rfl
theorem Xt:Extern.findNext Tryz.f198=none:=by kernel_rfl
theorem Np:Extern.find Tryz.f191=some TN:=by kernel_rfl
theorem Nq:Extern.findNext Tryz.f191=none:=by kernel_rfl
theorem Vs (A B:Nat)(w:World):
  Calls prog 184 #[.agg (Zd A),.agg (Zd B)] w fun e w'=>e= .returned (.tuple #[.agg (Zd (A+B)),.int .i64 (cN A B 256:Nat)])/\Below w.heap.size w w':=by
 go_enter func184,ntmps184
 go_wp2_with (first
  |refine Zp rfl 57 _ rfl _ rfl ?_
  |refine Zg rfl 57 rfl _ Zo ?_)
 go_loopg [7,9] 4 (fun g s7 s9 wr=> ∃k:Nat,k+g=4/\s7= .int .u64 (cN A B (64*k))/\s9= .int .i64 k/\Row wr w.heap.size (Zd A) 57/\Row wr (w.heap.size+1) (Zd B) 57/\Row wr (w.heap.size+1+1) (Zd 0) 57/\Row wr (w.heap.size+1+1+1) (Zd ((A+B)%2^(64*k))) 57/\Below w.heap.size w wr)
 case atStart=>
  refine⟨0,by omega,by rw[show cN A B (64*0)=0 by unfold cN;rw[show Ms A B (64*0)=false from Ni A B];rfl];rfl,rfl,(Row.two rfl).alloc _,Row.two (by simp),Row.one (by simp),?_,(YS _ _ _).alloc (by simp;omega) _⟩;rw[show(A+B)%2^(64*0)=0 by simp[Nat.mod_one]];exact Row.here (by simp)
 case round=>
  obtain⟨k,hk,rfl,rfl,r0,r1,r2,r3,hb⟩:=hrel
  cases gk with
  |zero=>
   obtain rfl:k=4:=by omega
   rw[show(A+B)%2^(64*4)=(A+B)%2^256 from rfl,Yk]at r3;clear hk;have hx: ¬((4:Int)<4):=by omega
   have hcl:=FT A B (64*4);rw[show 64*4=256 from rfl]at hcl ⊢;have HC:Hid (∃c,cN A B 256=c):=⟨_,rfl⟩;obtain⟨c,hC⟩:=HC.out;rw[hC]at hcl ⊢;have HC:Hid (cN A B 256=c):=hC;clear hC
   go_wp2_with (first
    |refine Zj rfl 57 _ rfl _ rfl r3 4 _ underlying57 (by exact Zc) ?_
    |refine Zs rfl 57 _ _ rfl _ _ rfl rfl r2 (by exact Zc) (by simp only[Zm]) (Zv _) ?_)
   refine Z2 rfl _ rfl (r2.setRow _) 4 _ underlying57 (by exact Zc) rfl _ rfl ⟨by rw[HC.out];rfl,Zt hb (by omega) _⟩
  |succ g=>
   have hlt:(k:Int)<4:=by omega
   have hc0:=ZS r0 k (by omega);have hc1:=ZS r1 k (by omega);have hc3:=ZS r3 k (by omega);have hf3:=r3.frozen k;have R:Aside (Row wr w.heap.size (Zd A) 57/\Row wr (w.heap.size+1) (Zd B) 57/\Row wr (w.heap.size+1+1) (Zd 0) 57/\Row wr (w.heap.size+1+1+1) (Zd ((A+B)%2^(64*k))) 57/\Below w.heap.size w wr):=⟨r0,r1,r2,r3,hb⟩;clear r0 r1 r2 r3 hb;have hcl:=FT A B (64*k);have hl:=JP A B k;have hs:=MA A B k;generalize cN A B (64*k)=c at*;have S:Aside (lm (A+B) k=TO (lm A k) (lm B k) c/\cN A B (64*(k+1))=QC (lm A k) (lm B k) c):=⟨hl,hs⟩;clear hl hs;go_wp2
   go_region_law (refine W2 (by rfl) 198 _ _ (by rfl) func198 (by kernel_rfl) (by kernel_rfl) Xt Xs #[.int .u64 (lm A k),.int .u64 (lm B k),.int .u64 c] (by rfl) _ (YA _ _ _ hcl _) ?_)
   all_goals
    go_wp2;obtain⟨r0,r1,r2,r3,hb⟩:=R.out;obtain⟨hl,hs⟩:=S.out
    go_roundg g
    case measure=>omega
    case rel=>
     refine⟨k+1,by omega,by rw[hs],by go_num,(r0.setCell_far _ _ _ (by omega)).drew,(r1.setCell_far _ _ _ (by omega)).drew,(r2.setCell_far _ _ _ (by omega)).drew,?_,(ZU hb (by omega) _ _).drew⟩;have:=(r3.setCell k (.int .u64 (TO (lm A k) (lm B k) c:Nat))).drew;rw[XB (A+B) k _ (by omega) hl.symm]at this;exact this
theorem XH (A B:Nat)(w:World)(hB:B<2^256):
  Calls prog 154 #[.agg (Zd A),.agg (Zd B)] w fun e w'=>e= .returned (.tuple #[.agg (Zd (Wb A B)),.int .i64 (bN A B 256:Nat)])/\Below w.heap.size w w':=by
 have HB:Hid (B<2^256):=hB;clear hB
 go_enter func154,ntmps154
 go_wp2_with (first
  |refine Zp rfl 57 _ rfl _ rfl ?_
  |refine Zg rfl 57 rfl _ Zo ?_)
 go_loopg [7,9] 4 (fun g s7 s9 wr=> ∃k:Nat,k+g=4/\s7= .int .u64 (bN A B (64*k))/\s9= .int .i64 k/\Row wr w.heap.size (Zd A) 57/\Row wr (w.heap.size+1) (Zd B) 57/\Row wr (w.heap.size+1+1) (Zd 0) 57/\Row wr (w.heap.size+1+1+1) (Zd ((Wb A B)%2^(64*k))) 57/\Below w.heap.size w wr)
 case atStart=>
  refine⟨0,by omega,by rw[show bN A B (64*0)=0 by simp[bN,Nat.mod_one]];rfl,rfl,(Row.two rfl).alloc _,Row.two (by simp),Row.one (by simp),?_,(YS _ _ _).alloc (by simp;omega) _⟩;rw[show(Wb A B)%2^(64*0)=0 by simp[Nat.mod_one]];exact Row.here (by simp)
 case round=>
  obtain⟨k,hk,rfl,rfl,r0,r1,r2,r3,hb⟩:=hrel
  cases gk with
  |zero=>
   obtain rfl:k=4:=by omega
   rw[show(Wb A B)%2^(64*4)=(Wb A B)%2^256 from rfl,Yk]at r3;clear hk;have hx: ¬((4:Int)<4):=by omega
   have hcl:=FU A B (64*4);rw[show 64*4=256 from rfl]at hcl ⊢;have HC:Hid (∃c,bN A B 256=c):=⟨_,rfl⟩;obtain⟨c,hC⟩:=HC.out;rw[hC]at hcl ⊢;have HC:Hid (bN A B 256=c):=hC;clear hC
   go_wp2_with (first
    |refine Zj rfl 57 _ rfl _ rfl r3 4 _ underlying57 (by exact Zc) ?_
    |refine Zs rfl 57 _ _ rfl _ _ rfl rfl r2 (by exact Zc) (by simp only[Zm]) (Zv _) ?_)
   refine Z2 rfl _ rfl (r2.setRow _) 4 _ underlying57 (by exact Zc) rfl _ rfl ⟨by rw[HC.out];rfl,Zt hb (by omega) _⟩
  |succ g=>
   have hlt:(k:Int)<4:=by omega
   have hc0:=ZS r0 k (by omega);have hc1:=ZS r1 k (by omega);have hc3:=ZS r3 k (by omega);have hf3:=r3.frozen k;have R:Aside (Row wr w.heap.size (Zd A) 57/\Row wr (w.heap.size+1) (Zd B) 57/\Row wr (w.heap.size+1+1) (Zd 0) 57/\Row wr (w.heap.size+1+1+1) (Zd ((Wb A B)%2^(64*k))) 57/\Below w.heap.size w wr):=⟨r0,r1,r2,r3,hb⟩;clear r0 r1 r2 r3 hb;have hcl:=FU A B (64*k);have hl:=JR A B k (by omega) HB.out;have hs:=Nl A B k;generalize bN A B (64*k)=c at*;have S:Aside (lm (Wb A B) k=AJ (lm A k) (lm B k) c/\bN A B (64*(k+1))=zT (lm A k) (lm B k) c):=⟨hl,hs⟩;clear hl hs;go_wp2
   go_region_law (refine W2 (by rfl) 191 _ _ (by rfl) func191 (by kernel_rfl) (by kernel_rfl) Nq Np #[.int .u64 (lm A k),.int .u64 (lm B k),.int .u64 c] (by rfl) _ (My _ _ _ hcl _) ?_)
   all_goals
    go_wp2;obtain⟨r0,r1,r2,r3,hb⟩:=R.out;obtain⟨hl,hs⟩:=S.out
    go_roundg g
    case measure=>omega
    case rel=>
     refine⟨k+1,by omega,by rw[hs],by go_num,(r0.setCell_far _ _ _ (by omega)).drew,(r1.setCell_far _ _ _ (by omega)).drew,(r2.setCell_far _ _ _ (by omega)).drew,?_,(ZU hb (by omega) _ _).drew⟩;have:=(r3.setCell k (.int .u64 (AJ (lm A k) (lm B k) c:Nat))).drew;rw[XB (Wb A B) k _ (by omega) hl.symm]at this;exact this
theorem WA (X Y:Nat):Zd X=Zd Y↔X%2^256=Y%2^256:=⟨JN,fun h=>by rw[<-Yk X,<-Yk Y,h]⟩
theorem JV (X Y:Nat):(lm X 0=lm Y 0/\lm X 1=lm Y 1/\lm X 2=lm Y 2/\lm X 3=lm Y 3)↔X%2^256=Y%2^256:=by
 rw[<-WA];constructor
 ·rintro⟨h0,h1,h2,h3⟩;unfold Zd;rw[h0,h1,h2,h3]
 ·intro h
  have hl: ∀i,i<4->lm X i=lm Y i:=fun i hi=>by
   have h1:=Yc X i hi;rw[h,Yc Y i hi]at h1;simp only[Option.some.injEq,Value.int.injEq,true_and]at h1;omega
  exact⟨hl 0 (by omega),hl 1 (by omega),hl 2 (by omega),hl 3 (by omega)⟩
theorem Rv (X Y:Nat)(w:World):(Op.equalIn 10000 57 (.agg (Zd X)) (.agg (Zd Y))).run prog w= .ok (decide (X%2^256=Y%2^256)) w:=by
 have h:=JV X Y;rw[show decide (X%2^256=Y%2^256)=decide (lm X 0=lm Y 0/\lm X 1=lm Y 1/\lm X 2=lm Y 2/\lm X 3=lm Y 3)from decide_eq_decide.2 h.symm];clear h;have u3:=underlying55;have a3:=isAgg55;have z3:=sizeOf55;unfold Zd;rw[show(10000:Nat)=9999+1 from rfl,Op.equalIn];simp only[Sem.run_bind,run_underlying underlying57,Result.andThen_ok];simp only[Std.Legacy.Range.forIn_eq_forIn_range',Std.Legacy.Range.size,Nat.sub_zero,Nat.add_sub_cancel,Nat.div_one,List.range'_succ,List.range'_zero,List.forIn_cons,List.forIn_nil]
 go_simp
 by_cases h1:lm X 0=lm Y 0<;>by_cases h2:lm X 1=lm Y 1<;>by_cases h3:lm X 2=lm Y 2<;>by_cases h4:lm X 3=lm Y 3<;>simp[h1,h2,h3,h4]<;>omega
theorem ZD {o:Oper}{ρ:Operand->Value}(x y:Operand)(u:TypeId)(ho:o.op= .binOp .eql 57 x y u)(X Y:Nat)(hx:ρ x= .agg (Zd X))(hy:ρ y= .agg (Zd Y))(w:World):
  (execOp ρ o).run prog w= .ok (.value (.bool (decide (X%2^256=Y%2^256)))) w:=by
 unfold execOp;simp only[ho,hx,hy];simp[eqGuard,run_eql_struct,Rv]
theorem ZT {o:Oper}{ρ:Operand->Value}(x y:Operand)(u:TypeId)(ho:o.op= .binOp .neq 57 x y u)(X Y:Nat)(hx:ρ x= .agg (Zd X))(hy:ρ y= .agg (Zd Y))(w:World):
  (execOp ρ o).run prog w= .ok (.value (.bool (!decide (X%2^256=Y%2^256)))) w:=by
 unfold execOp;simp only[ho,hx,hy];simp[eqGuard,run_neq_struct,Rv]
theorem ZG {P:Program}{ops:Array Oper}{rest:List Oper}{o:Oper}{a:Act}{w:World}{Q:Exit->Act->World->Prop}(hgd:o.guard=none)(v:Value)
  (hr:(execOp a.eval o).run P w= .ok (.value v) w)(h:wpList P ops Q rest (a.put o.dst v) w):wpList P ops Q (o::rest) a w:=
 wpList_plain hgd fun _ hK=>by unfold Oper.wp;rw[hr];exact hK _ _ h
theorem Sk (n:Nat)(h:n<18446744073709551616):Zd n=#[.int .u64 n,.int .u64 0,.int .u64 0,.int .u64 0]:=by
 unfold Zd lm;rw[show 64*0=0 from rfl,Nat.pow_zero,Nat.div_one,Nat.mod_eq_of_lt (show n<2^64 from h),Nat.div_eq_of_lt (Nat.lt_of_lt_of_le h (by decide)),Nat.div_eq_of_lt (Nat.lt_of_lt_of_le h (by decide)),Nat.div_eq_of_lt (Nat.lt_of_lt_of_le h (by decide))];rfl
theorem Xe (n:Int)(w:World)(h1:n<9223372036854775808):
  Calls prog 57 #[.int .i64 n] w fun e w'=>e= .returned (.agg (Zd n.toNat))/\Below w.heap.size w w':=by
 rw[Sk n.toNat (by omega)];by_cases h0:0<=n
 ·rw[Int.toNat_of_nonneg h0];have hm:max n 0=n:=by omega
  go_enter func57,ntmps57
  go_wp2;exact ZL rfl _ rfl (Row.here rfl) 4 _ underlying57 (by exact Zc) rfl ⟨rfl,Z8 _⟩
 ·rw[show((n.toNat:Nat):Int)=0 by omega];have hm:max n 0=0:=by omega
  go_enter func57,ntmps57
  go_wp2;exact ZL rfl _ rfl (Row.here rfl) 4 _ underlying57 (by exact Zc) rfl ⟨rfl,Z8 _⟩
theorem X0 (A B:Nat)(w:World)(hA:A<2^256)(hB:B<2^256):
  Calls prog 112 #[.agg (Zd A),.agg (Zd B)] w fun e w'=>e= .returned (.int .i64 (WV A B))/\Below w.heap.size w w':=by
 have rA:Row ((w.alloc (.cells (Zd A) 57)).alloc (.cells (Zd B) 57)) w.heap.size (Zd A) 57:=Row.one rfl;have rB:Row ((w.alloc (.cells (Zd A) 57)).alloc (.cells (Zd B) 57)) (w.heap.size+1) (Zd B) 57:=Row.here (by simp);have HB:Hid (B<2^256):=hB;have ma:=Nat.mod_eq_of_lt hA;have mb:=Nat.mod_eq_of_lt hB;by_cases heq:A=B
 ·subst heq;clear ma mb hA hB
  go_enter func112,ntmps112
  go_wp2_with (first
   |refine Zp rfl 57 _ rfl _ rfl ?_
   |refine Zj rfl 57 _ rfl _ rfl rA 4 _ underlying57 (by exact Zc) ?_
   |refine Zj rfl 57 _ rfl _ rfl rB 4 _ underlying57 (by exact Zc) ?_
   |refine ZG rfl (.bool true) ((ZD _ _ _ rfl A A rfl rfl _).trans (by rw[decide_eq_true rfl])) ?_)
  go_ret;exact⟨by simp[WV],Z0 _ _⟩
 ·have HD:Hid (decide (A%2^256=B%2^256)=false):=by show _=_;rw[ma,mb];exact decide_eq_false heq
  have HN:Hid (bN A B 256=if A<B then 1 else 0):=by show _=_;unfold bN;rw[ma,mb]
  by_cases hlt:A<B
  ·have HC:Hid (WV A B= -1):=by show _=_;unfold WV;rw[if_pos hlt]
   have hn:((bN A B 256:Nat):Int)=1:=by rw[HN.out,if_pos hlt];rfl
   clear HN hlt heq ma mb hA hB
   go_enter func112,ntmps112
   go_wp2_with (first
    |refine Zp rfl 57 _ rfl _ rfl ?_
    |refine Zj rfl 57 _ rfl _ rfl rA 4 _ underlying57 (by exact Zc) ?_
    |refine Zj rfl 57 _ rfl _ rfl rB 4 _ underlying57 (by exact Zc) ?_
    |refine ZG rfl (.bool false) ((ZD _ _ _ rfl A B rfl rfl _).trans (by rw[HD.out])) ?_
    |(go_at_call 154;refine(XH _ _ _ HB.out).mono ?_;rintro e w2 ⟨rfl,hb2⟩;have b2:=Zk (Z0 _ _) (Nat.le_refl _) hb2;clear hb2)
    |refine Zg rfl 57 rfl _ Zo ?_
    |refine ZR rfl 57 _ _ rfl _ rfl rfl _ _ (by exact Zc) (by simp only[Zm]) (Zv _) ?_)
   go_ret;exact⟨by rw[HC.out];rfl,b2.alloc b2.size _⟩
  ·have HC:Hid (WV A B=1):=by show _=_;unfold WV;rw[if_neg hlt,if_pos (by omega)]
   have hn:((bN A B 256:Nat):Int)=0:=by rw[HN.out,if_neg hlt];rfl
   clear HN hlt heq ma mb hA hB
   go_enter func112,ntmps112
   go_wp2_with (first
    |refine Zp rfl 57 _ rfl _ rfl ?_
    |refine Zj rfl 57 _ rfl _ rfl rA 4 _ underlying57 (by exact Zc) ?_
    |refine Zj rfl 57 _ rfl _ rfl rB 4 _ underlying57 (by exact Zc) ?_
    |refine ZG rfl (.bool false) ((ZD _ _ _ rfl A B rfl rfl _).trans (by rw[HD.out])) ?_
    |(go_at_call 154;refine(XH _ _ _ HB.out).mono ?_;rintro e w2 ⟨rfl,hb2⟩;have b2:=Zk (Z0 _ _) (Nat.le_refl _) hb2;clear hb2)
    |refine Zg rfl 57 rfl _ Zo ?_
    |refine ZR rfl 57 _ _ rfl _ rfl rfl _ _ (by exact Zc) (by simp only[Zm]) (Zv _) ?_)
   go_ret;exact⟨by rw[HC.out];rfl,b2.alloc b2.size _⟩
def MH (A:Nat):Int:=if A<9223372036854775808 then A else 0
def MJ (A:Nat):Bool:=decide (A<9223372036854775808)
theorem MK (A:Nat):lm A 0=A%18446744073709551616:=by unfold lm;simp
theorem ML (A:Nat)(w:World)(hA:A<2^256)(h:18446744073709551616<=A):
  Calls prog 149 #[.agg (Zd A)] w fun e w'=>e= .returned (.tuple #[.int .i64 0,.bool false])/\Below w.heap.size w w':=by
 have rA:=Row.new w (Zd A) 57;have hc0:=ZS rA 0 (by omega)
 have HV:Hid ((!decide (A%2^256=lm A 0%2^256))=true):=by
  show _=_
  rw[MK,Nat.mod_eq_of_lt hA,decide_eq_false];rfl;intro e;omega
 clear hA h
 go_enter func149,ntmps149
 go_wp2_with (first
  |refine Zp rfl 57 _ rfl _ rfl ?_
  |refine Zj rfl 57 _ rfl _ rfl rA 4 _ underlying57 (by exact Zc) ?_
  |refine ZG rfl (.bool true) ((ZT _ _ _ rfl A (lm A 0) rfl (by rw[Sk _ (XA A 0)];rfl) _).trans (by rw[HV.out])) ?_)
 go_ret2;exact⟨rfl,Z8 _⟩
theorem JW (A:Nat)(w:World)(h:A<18446744073709551616):
  Calls prog 149 #[.agg (Zd A)] w fun e w'=>e= .returned (.tuple #[.int .i64 (MH A),.bool (MJ A)])/\Below w.heap.size w w':=by
 have rA:=Row.new w (Zd A) 57;have hc0:=ZS rA 0 (by omega);rw[MK,Nat.mod_eq_of_lt h]at hc0
 have HV:Hid ((!decide (A%2^256=A%2^256))=false):=by show _=_;simp
 have HL:Hid (Zd A=#[.int .u64 A,.int .u64 0,.int .u64 0,.int .u64 0]):=Sk A h;by_cases h63:A<9223372036854775808
 ·have h1: ¬((9223372036854775807:Int)<A):=by omega
  have HI:Hid (MH A=A/\MJ A=true):=⟨if_pos h63,decide_eq_true h63⟩;clear h h63
  go_enter func149,ntmps149
  go_wp2_with (first
   |refine Zp rfl 57 _ rfl _ rfl ?_
   |refine Zj rfl 57 _ rfl _ rfl rA 4 _ underlying57 (by exact Zc) ?_
   |refine ZG rfl (.bool false) ((ZT _ _ _ rfl A A rfl (by rw[HL.out];rfl) _).trans (by rw[HV.out])) ?_)
  go_ret2;exact⟨by rw[HI.out.1,HI.out.2];rfl,Z8 _⟩
 ·have h1:(9223372036854775807:Int)<A:=by omega
  have HI:Hid (MH A=0/\MJ A=false):=⟨if_neg h63,decide_eq_false h63⟩;clear h h63
  go_enter func149,ntmps149
  go_wp2_with (first
   |refine Zp rfl 57 _ rfl _ rfl ?_
   |refine Zj rfl 57 _ rfl _ rfl rA 4 _ underlying57 (by exact Zc) ?_
   |refine ZG rfl (.bool false) ((ZT _ _ _ rfl A A rfl (by rw[HL.out];rfl) _).trans (by rw[HV.out])) ?_)
  go_ret2;exact⟨by rw[HI.out.1,HI.out.2];rfl,Z8 _⟩
theorem JX (A:Nat)(w:World)(hA:A<2^256):
  Calls prog 149 #[.agg (Zd A)] w (Rt (.tuple #[.int .i64 (MH A),.bool (MJ A)]) w):=by
 by_cases h:A<18446744073709551616
 ·exact JW A w h
 ·rw[show MH A=0 from if_neg (by omega),show MJ A=false from decide_eq_false (by omega)];exact ML A w hA (by omega)
theorem Rw (A:Nat):bitLen A<=63↔A<9223372036854775808:=by
 have h:=bitLen_spec A;constructor
 ·intro hl;exact Nat.lt_of_lt_of_le h.1 (Nat.pow_le_pow_right (by decide) hl)
 ·intro hA;unfold bitLen
  split
  ·omega
  ·rename_i h0
   have:=(Nat.log2_lt h0).2 (show A<2^63 from hA);omega
theorem JY (A:Nat)(w:World)(hA:A<2^256):
  Calls prog 50 #[.agg (Zd A)] w (Rt (.tuple #[.int .i64 (MH A),.bool (MJ A)]) w):=by
 by_cases h:A<9223372036854775808
 ·rw[show MH A=A from if_pos h,show MJ A=true from decide_eq_true h];exact JU A w h ((Rw A).2 h)
 ·rw[show MH A=0 from if_neg h,show MJ A=false from decide_eq_false h];refine F4 A w hA ?_;have:=Rw A;omega
theorem Yj {P:Program}{o:Oper}{ρ:Operand->Value}(t:TypeId)(x ix:Operand)(ho:o.op= .index t x ix)(hu:P.underlying t=some .string)(S:ByteArray)(hx:ρ x= .string S)
  (hS:S.data.toList.map UInt8.toNat=(List.range 256).map bitLen)(k:IntKind)(i:Int)(hi:ρ ix= .int k i)(h0:0<=i)(h1:i<256)(w:World):
  (execOp ρ o).run P w= .ok (.value (.int .u8 (bitLen i.toNat))) w:=by
 have hsz:S.size=256:=by
  have:=congrArg List.length hS
  simpa using this
 have hlt:i.toNat<S.size:=by omega
 have hget:(S[i.toNat]'hlt).toNat=bitLen i.toNat:=by
  have h2:=congrArg (fun l:List Nat=>l[i.toNat]?) hS;simp only[List.getElem?_map]at h2;rw[List.getElem?_range (by omega)]at h2
  have h3:S.data.toList[i.toNat]?=some (S[i.toNat]'hlt):=by
   rw[Array.getElem?_toList];exact Array.getElem?_eq_getElem hlt
  rw[h3]at h2
  simpa using h2
 unfold execOp;simp only[ho,hx,hi,Sem.run_bind];rw[run_index_string w t S k i hu,dif_pos ⟨h0,by omega⟩,hget];rfl
theorem Wd {k:IntKind}{a b:Int}(h:a=b):Ending.returned (.int k a)= .returned (.int k b):=by rw[h]
theorem YU (q n:Nat)(hq:q<=8)(hn:n<=56):wrap64 ((n:Int)+wrap64 (q:Int))=((n+q:Nat):Int):=by unfold wrap64;omega
theorem Sl (q:Nat)(hq:q<=8):wrap64 (wrap64 (q:Int))=(q:Int):=by unfold wrap64;omega
set_option maxRecDepth 1000000 in
theorem F5 (x:Nat)(w:World)(h0:0<=x)(h1:x<256):
  Calls prog 153 #[.int .u64 x] w fun e w'=>e= .returned (.int .i64 (bitLen x))/\w'=w:=by
 have t0: ¬(4294967296:Int)<=(x:Int):=by omega
 have t1: ¬(65536:Int)<=(x:Int):=by omega
 have t2: ¬(256:Int)<=(x:Int):=by omega
 have HX:Hid (0<=(x:Int)/\(x:Int)<256):=⟨by omega,by omega⟩;have HB8:Hid (bitLen (x/1)<=8):=bitLen_le8 _ (by omega)
 have HB:Hid (bitLen x=0+bitLen (x/1)):=by
  show _=_
  rw[Nat.div_one];omega
 clear h0 h1
 go_enter func153,ntmps153
 go_wp2_with (first
  |(refine ZG rfl _ (Yj 9 _ _ rfl underlying9 _ rfl ?_ _ _ rfl ?_ ?_ _) ?_;(· kernel_rfl);(· exact HX.out.1);(· exact HX.out.2)))
 go_ret;have hb:=HB8.out;rw[Nat.div_one]at hb;exact⟨Wd (Sl _ hb),rfl⟩
set_option maxRecDepth 1000000 in
theorem F6 (x:Nat)(w:World)(h0:256<=x)(h1:x<65536):
  Calls prog 153 #[.int .u64 x] w fun e w'=>e= .returned (.int .i64 (bitLen x))/\w'=w:=by
 have t0: ¬(4294967296:Int)<=(x:Int):=by omega
 have t1: ¬(65536:Int)<=(x:Int):=by omega
 have t2:(256:Int)<=(x:Int):=by omega
 have HX:Hid (0<=(x:Int)/256/\(x:Int)/256<256):=⟨by omega,by omega⟩;have HB8:Hid (bitLen (x/256)<=8):=bitLen_le8 _ (by omega)
 have HB:Hid (bitLen x=8+bitLen (x/256)):=by
  show _=_
  exact bitLen_shift x 8 (show x/256≠0 by omega)
 clear h0 h1
 go_enter func153,ntmps153
 go_wp2_with (first
  |(refine ZG rfl _ (Yj 9 _ _ rfl underlying9 _ rfl ?_ _ _ rfl ?_ ?_ _) ?_;(· kernel_rfl);(· exact HX.out.1);(· exact HX.out.2)))
 go_ret;refine⟨Wd ?_,rfl⟩;rw[HB.out];exact YU _ 8 HB8.out (by decide)
set_option maxRecDepth 1000000 in
theorem F7 (x:Nat)(w:World)(h0:65536<=x)(h1:x<16777216):
  Calls prog 153 #[.int .u64 x] w fun e w'=>e= .returned (.int .i64 (bitLen x))/\w'=w:=by
 have t0: ¬(4294967296:Int)<=(x:Int):=by omega
 have t1:(65536:Int)<=(x:Int):=by omega
 have t2: ¬(256:Int)<=(x:Int)/65536:=by omega
 have HX:Hid (0<=(x:Int)/65536/\(x:Int)/65536<256):=⟨by omega,by omega⟩;have HB8:Hid (bitLen (x/65536)<=8):=bitLen_le8 _ (by omega)
 have HB:Hid (bitLen x=16+bitLen (x/65536)):=by
  show _=_
  exact bitLen_shift x 16 (show x/65536≠0 by omega)
 clear h0 h1
 go_enter func153,ntmps153
 go_wp2_with (first
  |(refine ZG rfl _ (Yj 9 _ _ rfl underlying9 _ rfl ?_ _ _ rfl ?_ ?_ _) ?_;(· kernel_rfl);(· exact HX.out.1);(· exact HX.out.2)))
 go_ret;refine⟨Wd ?_,rfl⟩;rw[HB.out];exact YU _ 16 HB8.out (by decide)
set_option maxRecDepth 1000000 in
theorem F8 (x:Nat)(w:World)(h0:16777216<=x)(h1:x<4294967296):
  Calls prog 153 #[.int .u64 x] w fun e w'=>e= .returned (.int .i64 (bitLen x))/\w'=w:=by
 have t0: ¬(4294967296:Int)<=(x:Int):=by omega
 have t1:(65536:Int)<=(x:Int):=by omega
 have t2:(256:Int)<=(x:Int)/65536:=by omega
 have HX:Hid (0<=(x:Int)/65536/256/\(x:Int)/65536/256<256):=⟨by omega,by omega⟩
 have HE:Hid (x/65536/256=x/16777216):=by show _=_;omega
 have HB8:Hid (bitLen (x/16777216)<=8):=bitLen_le8 _ (by omega)
 have HB:Hid (bitLen x=24+bitLen (x/16777216)):=by
  show _=_
  exact bitLen_shift x 24 (show x/16777216≠0 by omega)
 clear h0 h1
 go_enter func153,ntmps153
 go_wp2_with (first
  |(refine ZG rfl _ (Yj 9 _ _ rfl underlying9 _ rfl ?_ _ _ rfl ?_ ?_ _) ?_;(· kernel_rfl);(· exact HX.out.1);(· exact HX.out.2)))
 go_ret;refine⟨Wd ?_,rfl⟩;have hb:=HB8.out;rw[HB.out];rw[<-HE.out]at hb ⊢;exact YU _ 24 hb (by decide)
set_option maxRecDepth 1000000 in
theorem F9 (x:Nat)(w:World)(h0:4294967296<=x)(h1:x<1099511627776):
  Calls prog 153 #[.int .u64 x] w fun e w'=>e= .returned (.int .i64 (bitLen x))/\w'=w:=by
 have t0:(4294967296:Int)<=(x:Int):=by omega
 have t1: ¬(65536:Int)<=(x:Int)/4294967296:=by omega
 have t2: ¬(256:Int)<=(x:Int)/4294967296:=by omega
 have HX:Hid (0<=(x:Int)/4294967296/\(x:Int)/4294967296<256):=⟨by omega,by omega⟩;have HB8:Hid (bitLen (x/4294967296)<=8):=bitLen_le8 _ (by omega)
 have HB:Hid (bitLen x=32+bitLen (x/4294967296)):=by
  show _=_
  exact bitLen_shift x 32 (show x/4294967296≠0 by omega)
 clear h0 h1
 go_enter func153,ntmps153
 go_wp2_with (first
  |(refine ZG rfl _ (Yj 9 _ _ rfl underlying9 _ rfl ?_ _ _ rfl ?_ ?_ _) ?_;(· kernel_rfl);(· exact HX.out.1);(· exact HX.out.2)))
 go_ret;refine⟨Wd ?_,rfl⟩;rw[HB.out];exact YU _ 32 HB8.out (by decide)
set_option maxRecDepth 1000000 in
theorem Ea (x:Nat)(w:World)(h0:1099511627776<=x)(h1:x<281474976710656):
  Calls prog 153 #[.int .u64 x] w fun e w'=>e= .returned (.int .i64 (bitLen x))/\w'=w:=by
 have t0:(4294967296:Int)<=(x:Int):=by omega
 have t1: ¬(65536:Int)<=(x:Int)/4294967296:=by omega
 have t2:(256:Int)<=(x:Int)/4294967296:=by omega
 have HX:Hid (0<=(x:Int)/4294967296/256/\(x:Int)/4294967296/256<256):=⟨by omega,by omega⟩
 have HE:Hid (x/4294967296/256=x/1099511627776):=by show _=_;omega
 have HB8:Hid (bitLen (x/1099511627776)<=8):=bitLen_le8 _ (by omega)
 have HB:Hid (bitLen x=40+bitLen (x/1099511627776)):=by
  show _=_
  exact bitLen_shift x 40 (show x/1099511627776≠0 by omega)
 clear h0 h1
 go_enter func153,ntmps153
 go_wp2_with (first
  |(refine ZG rfl _ (Yj 9 _ _ rfl underlying9 _ rfl ?_ _ _ rfl ?_ ?_ _) ?_;(· kernel_rfl);(· exact HX.out.1);(· exact HX.out.2)))
 go_ret;refine⟨Wd ?_,rfl⟩;have hb:=HB8.out;rw[HB.out];rw[<-HE.out]at hb ⊢;exact YU _ 40 hb (by decide)
set_option maxRecDepth 1000000 in
theorem Eb (x:Nat)(w:World)(h0:281474976710656<=x)(h1:x<72057594037927936):
  Calls prog 153 #[.int .u64 x] w fun e w'=>e= .returned (.int .i64 (bitLen x))/\w'=w:=by
 have t0:(4294967296:Int)<=(x:Int):=by omega
 have t1:(65536:Int)<=(x:Int)/4294967296:=by omega
 have t2: ¬(256:Int)<=(x:Int)/4294967296/65536:=by omega
 have HX:Hid (0<=(x:Int)/4294967296/65536/\(x:Int)/4294967296/65536<256):=⟨by omega,by omega⟩
 have HE:Hid (x/4294967296/65536=x/281474976710656):=by show _=_;omega
 have HB8:Hid (bitLen (x/281474976710656)<=8):=bitLen_le8 _ (by omega)
 have HB:Hid (bitLen x=48+bitLen (x/281474976710656)):=by
  show _=_
  exact bitLen_shift x 48 (show x/281474976710656≠0 by omega)
 clear h0 h1
 go_enter func153,ntmps153
 go_wp2_with (first
  |(refine ZG rfl _ (Yj 9 _ _ rfl underlying9 _ rfl ?_ _ _ rfl ?_ ?_ _) ?_;(· kernel_rfl);(· exact HX.out.1);(· exact HX.out.2)))
 go_ret;refine⟨Wd ?_,rfl⟩;have hb:=HB8.out;rw[HB.out];rw[<-HE.out]at hb ⊢;exact YU _ 48 hb (by decide)
set_option maxRecDepth 1000000 in
theorem Ec (x:Nat)(w:World)(h0:72057594037927936<=x)(h1:x<18446744073709551616):
  Calls prog 153 #[.int .u64 x] w fun e w'=>e= .returned (.int .i64 (bitLen x))/\w'=w:=by
 have t0:(4294967296:Int)<=(x:Int):=by omega
 have t1:(65536:Int)<=(x:Int)/4294967296:=by omega
 have t2:(256:Int)<=(x:Int)/4294967296/65536:=by omega
 have HX:Hid (0<=(x:Int)/4294967296/65536/256%256/\(x:Int)/4294967296/65536/256%256<256):=⟨by omega,by omega⟩
 have HE:Hid (x/4294967296/65536/256%256=x/72057594037927936):=by show _=_;omega
 have HB8:Hid (bitLen (x/72057594037927936)<=8):=bitLen_le8 _ (by omega)
 have HB:Hid (bitLen x=56+bitLen (x/72057594037927936)):=by
  show _=_
  exact bitLen_shift x 56 (show x/72057594037927936≠0 by omega)
 clear h0 h1
 go_enter func153,ntmps153
 go_wp2_with (first
  |(refine ZG rfl _ (Yj 9 _ _ rfl underlying9 _ rfl ?_ _ _ rfl ?_ ?_ _) ?_;(· kernel_rfl);(· exact HX.out.1);(· exact HX.out.2)))
 go_ret;refine⟨Wd ?_,rfl⟩;have hb:=HB8.out;rw[HB.out];rw[<-HE.out]at hb ⊢;exact YU _ 56 hb (by decide)
theorem Rx (x:Nat)(w:World)(h:x<18446744073709551616):
  Calls prog 153 #[.int .u64 x] w fun e w'=>e= .returned (.int .i64 (bitLen x))/\w'=w:=by
 by_cases h0:x<256
 ·exact F5 x w (by omega) h0
 by_cases h1:x<65536
 ·exact F6 x w (by omega) h1
 by_cases h2:x<16777216
 ·exact F7 x w (by omega) h2
 by_cases h3:x<4294967296
 ·exact F8 x w (by omega) h3
 by_cases h4:x<1099511627776
 ·exact F9 x w (by omega) h4
 by_cases h5:x<281474976710656
 ·exact Ea x w (by omega) h5
 by_cases h6:x<72057594037927936
 ·exact Eb x w (by omega) h6
 exact Ec x w (by omega) h
theorem MM (x:Nat)(h:x<18446744073709551616):bitLen x<=64:=by
 unfold bitLen
 split
 ·omega
 ·rename_i h0
  have:=(Nat.log2_lt h0).2 (show x<2^64 from h);omega
theorem GV (A k:Nat)(h:A<2^(64*(k+1))):lm A k=A/2^(64*k):=by
 unfold lm;refine Nat.mod_eq_of_lt (Nat.div_lt_of_lt_mul ?_);rw[<-Nat.pow_add];exact h
theorem MN (A k:Nat)(h:A<2^(64*(k+1)))(h0:lm A k≠0):bitLen A=64*k+bitLen (lm A k):=by
 rw[GV A k h]at h0 ⊢;exact bitLen_shift A (64*k) h0
theorem Ed (A k:Nat)(h:A<2^(64*(k+1)))(h0:lm A k=0):A<2^(64*k):=by
 rw[GV A k h]at h0;exact(Nat.div_eq_zero_iff_lt (Nat.two_pow_pos _)).1 h0
theorem WM (A:Nat)(w:World)(hA:A<2^256):
  Calls prog 111 #[.agg (Zd A)] w fun e w'=>e= .returned (.int .i64 (bitLen A))/\Below w.heap.size w w':=by
 have HA:Hid (A<2^256):=hA;clear hA
 go_enter func111,ntmps111
 go_wp2_with (first
  |refine Zp rfl 57 _ rfl _ rfl ?_)
 go_loopg [5] 4 (fun g s5 wr=> ∃k:Nat,k+g=4/\s5= .int .i64 k/\A<2^(64*g)/\Row wr w.heap.size (Zd A) 57/\Below w.heap.size w wr)
 case atStart=>exact⟨0,by omega,rfl,HA.out,Row.new _ _ _,Z8 _⟩
 case round=>
  obtain⟨k,hk,rfl,hlt,r0,hb⟩:=hrel
  cases gk with
  |zero=>
   obtain rfl:k=4:=by omega
   obtain rfl:A=0:=by simpa using hlt
   clear hlt hk HA;have hx: ¬((4:Int)<4):=by omega
   go_wp2;go_ret;exact⟨rfl,hb⟩
  |succ g=>
   have hk4:(k:Int)<4:=by omega
   have hc0:=ZS r0 g (by omega);have hsub:(3:Int)-k=g:=by omega
   have hl:=XA A g;by_cases h0:lm A g=0
   ·have R:Aside (A<2^(64*g)/\Row wr w.heap.size (Zd A) 57/\Below w.heap.size w wr):=⟨Ed A g hlt h0,r0,hb⟩;rw[h0]at hc0;clear r0 hb hlt HA h0 hl;go_wp2;obtain⟨h1,r0,hb⟩:=R.out
    go_roundg g
    case measure=>omega
    case rel=>exact⟨k+1,by omega,by go_num,h1,r0,hb⟩
   ·have R:Aside (bitLen A=64*g+bitLen (lm A g)/\bitLen (lm A g)<=64/\Below w.heap.size w wr):=⟨MN A g hlt h0,?_,hb⟩
    ·have hne:((lm A g:Nat):Int)≠0:=by omega
     have HL:Hid (lm A g<18446744073709551616):=hl;clear r0 hb hlt HA h0 hl
     go_wp2_with (first
      |(go_at_call 153;refine(Rx _ _ HL.out).mono ?_;rintro e w2 ⟨rfl,rfl⟩))
     go_ret;obtain⟨h1,h2,hb⟩:=R.out;refine⟨Wd ?_,hb⟩;rw[h1];unfold wrap64;omega
    ·exact MM _ hl
end Go.Proofs.YtnagnkhbamhfmaaGreatDoor
