import Derived.Test.YtcdahmommonnfaaGreatDoorGA
import Derived.Deep.DeepCutAuto
import Derived.Deep.RegionLaw
set_option maxRecDepth 100000
set_option maxHeartbeats 8000000
namespace Go.Proofs.YtcdahmommonnfaaGreatDoor
set_option linter.all false
open Go.Proofs.Tryz
open Go.RowKit
def Ax (N:Nat):Nat:=2^256-1-N%2^256
def Ak (N k:Nat):Nat:=Ax N%2^k+N/2^k*2^k
def WB (A B:Nat):Int:=if A<B then-1 else if B<A then 1 else 0
theorem SC (A g:Nat)(h1:2^g<=A)(h2:A<2^(g+1)):bitLen A=g+1:=by
 have h0:A≠0:=by have:=Nat.two_pow_pos g;omega
 unfold bitLen;rw[if_neg h0,(Nat.log2_eq_iff h0).2 ⟨h1,h2⟩]
theorem Gh (A g:Nat)(h2:A<2^(g+1)):(A.testBit g=true->2^g<=A)/\(A.testBit g=false->A<2^g):=by
 constructor
 ·intro h;exact Nat.ge_two_pow_of_testBit h
 ·intro h;rcases Nn A g with ⟨_,_,h3⟩|⟨h3,_⟩
  ·rw[Nat.mod_eq_of_lt h2]at h3;rw[h3];exact Nat.mod_lt _ (Nat.two_pow_pos g)
  ·rw[h]at h3;cases h3
def bitI (A:Nat)(k:Int):Int:=if 0<=k/\k<256/\A.testBit k.toNat=true then 1 else 0
theorem Q4 (A:Nat)(w:World)(hA:A<2^256):
  Calls prog 110 #[.agg (Zc A)] w fun e w'=>e= .returned (.int .i64 (bitLen A))/\Below w.heap.size w w':=by
 have HA:Hid (A<2^256):=hA;clear hA
 go_enter func110,ntmps110
 go_wp2_with (first
  |refine Zr rfl 39 _ rfl _ rfl ?_
  |refine Zh rfl 39 _ rfl _ rfl (by first|assumption|(refine Row.here ?_;first|(with_reducible rfl)|(simp;done))|(refine Row.one ?_;first|(with_reducible rfl)|(simp;done))|(refine Row.two ?_;first|(with_reducible rfl)|(simp;done))) 4 _ underlying39 (by exact Ze) ?_
  |(go_at_call 111;refine(Np _ _).mono ?_;rintro e w2 ⟨rfl,hb2⟩;have hs:=hb2.size;have b2:=Zk (Z5 _) (Nat.le_refl _) hb2;clear hb2)
  |refine Zj rfl 180 rfl _ V7 ?_
  |refine Ym rfl 180 _ _ rfl _ rfl rfl _ _ (by rw[Yp];exact X8) (by simp only[Yp]) (VV _) ?_)
 have r3:=Row.new w2 (Xp A) 180;have b3:=b2.alloc b2.size (.cells (Xp A) 180);generalize w2.alloc (.cells (Xp A) 180)=w3 at*;generalize w2.heap.size=r at*;clear b2 hs
 go_loopg [4] 256 (fun g s4 wr=>s4= .int .i64 ((g:Int)-1)/\A<2^g/\g<=256/\Row wr r (Xp A) 180/\Below w.heap.size w wr)
 case atStart=>exact⟨rfl,HA.out,Nat.le_refl _,r3,b3⟩
 case round=>
  obtain⟨rfl,hlt,hle,r0,hb⟩:=hrel;clear r3 b3 HA
  cases gk with
  |zero=>
   obtain rfl:A=0:=by simpa using hlt
   clear hlt hle;go_wp2;go_ret;exact⟨rfl,hb⟩
  |succ g=>
   have ht:=Gh A g hlt;have hq:=SC A g;have hc0:=Su r0 g (by omega);rw[show((g+1:Nat):Int)-1=(g:Int) by omega];have hgl:(g:Int)<256:=by omega
   cases hbit:A.testBit g
   ·rw[hbit]at hc0;have R:Aside (A<2^g/\Row wr r (Xp A) 180/\Below w.heap.size w wr):=⟨ht.2 hbit,r0,hb⟩;clear ht hq r0 hb hlt hbit;go_wp2;obtain⟨h1,r0,hb⟩:=R.out
    go_roundg g
    case measure=>omega
    case rel=>exact⟨rfl,h1,by omega,r0,hb⟩
   ·rw[hbit]at hc0;have R:Aside (bitLen A=g+1/\Below w.heap.size w wr):=⟨hq (ht.1 hbit) hlt,hb⟩;clear ht hq r0 hb hlt hbit;go_wp2;go_ret;exact⟨by rw[R.out.1];rfl,R.out.2⟩
theorem Gi (A:Nat)(w:World)(hA:A<2^256)(h:63<bitLen A):
  Calls prog 64 #[.agg (Zc A)] w fun e w'=>e= .returned (.tuple #[.int .i64 0,.bool false])/\Below w.heap.size w w':=by
 have HA:Hid (A<2^256):=hA;clear hA;have h':(63:Int)<(bitLen A:Int):=by omega
 clear h
 go_enter func64,ntmps64
 go_wp2_with (first
  |refine Zr rfl 39 _ rfl _ rfl ?_
  |refine Zh rfl 39 _ rfl _ rfl (by first|assumption|(refine Row.here ?_;first|(with_reducible rfl)|(simp;done))|(refine Row.one ?_;first|(with_reducible rfl)|(simp;done))|(refine Row.two ?_;first|(with_reducible rfl)|(simp;done))) 4 _ underlying39 (by exact Ze) ?_
  |(go_at_call 110;refine(Q4 _ _ HA.out).mono ?_;rintro e w2 ⟨rfl,hb2⟩;have b2:=Zk (Z5 _) (Nat.le_refl _) hb2;clear hb2))
 go_ret2;exact⟨rfl,b2⟩
theorem KM (A:Nat)(w:World)(hA:A<9223372036854775808)(h:bitLen A<=63):
  Calls prog 64 #[.agg (Zc A)] w fun e w'=>e= .returned (.tuple #[.int .i64 A,.bool true])/\Below w.heap.size w w':=by
 have HA:Hid (A<9223372036854775808):=hA;clear hA;have h': ¬(63:Int)<(bitLen A:Int):=by omega
 clear h
 go_enter func64,ntmps64
 go_wp2_with (first
  |refine Zr rfl 39 _ rfl _ rfl ?_
  |refine Zh rfl 39 _ rfl _ rfl (by first|assumption|(refine Row.here ?_;first|(with_reducible rfl)|(simp;done))|(refine Row.one ?_;first|(with_reducible rfl)|(simp;done))|(refine Row.two ?_;first|(with_reducible rfl)|(simp;done))) 4 _ underlying39 (by exact Ze) ?_
  |(go_at_call 110;refine(Q4 _ _ (Nat.lt_trans HA.out (by decide))).mono ?_;rintro e w2 ⟨rfl,hb2⟩;have r2:=(Row.here (w:=w) (c:=Zc A) (t:=39) (b:=w.heap.size) rfl).belowAll hb2;have b2:=Zk (Z5 _) (Nat.le_refl _) hb2;clear hb2)
  |refine Zh rfl 39 _ rfl _ rfl r2 4 _ underlying39 (by exact Ze) ?_
  |(go_at_call 111;refine(Np _ _).mono ?_;rintro e w3 ⟨rfl,hb3⟩;have b3:=Zk b2 (Nat.le_refl _) hb3;clear hb3)
  |refine Zj rfl 180 rfl _ V7 ?_
  |refine Ym rfl 180 _ _ rfl _ rfl rfl _ _ (by rw[Yp];exact X8) (by simp only[Yp]) (VV _) ?_)
 have r3:=Row.new w3 (Xp A) 180;have b4:=b3.alloc b3.size (.cells (Xp A) 180);generalize w3.alloc (.cells (Xp A) 180)=w4 at*;generalize w3.heap.size=r at*;clear b2 b3 r2 h'
 go_loopg [4,6] 63 (fun g s4 s6 wr=> ∃k:Nat,k+g=63/\s4= .int .i64 ((A%2^k:Nat):Int)/\s6= .int .i64 k/\Row wr r (Xp A) 180/\Below w.heap.size w wr)
 case atStart=>exact⟨0,by omega,by rw[Nat.pow_zero,Nat.mod_one];rfl,rfl,r3,b4⟩
 case round=>
  obtain⟨k,hk,rfl,rfl,r0,hb⟩:=hrel;clear r3 b4
  cases gk with
  |zero=>
   obtain rfl:k=63:=by omega
   rw[Nat.mod_eq_of_lt (show A<2^63 from HA.out)];clear hk;have hx: ¬((63:Int)<63):=by omega
   go_wp2;go_ret2;exact⟨rfl,hb⟩
  |succ g=>
   have hlt:(k:Int)<63:=by omega
   have hlt':(k:Int)<256:=by omega
   have hc0:=Su r0 k (by omega);have hm:A%2^k<9223372036854775808:=Nat.lt_of_le_of_lt (Nat.mod_le _ _) HA.out;have hno:=RM A k;have hor:=RN A k;have HM:Hid (A%2^k<9223372036854775808):=hm;cases hbit:A.testBit k
   ·rw[hbit]at hc0;have R:Aside (A%2^(k+1)=A%2^k/\Row wr r (Xp A) 180/\Below w.heap.size w wr):=⟨hno hbit,r0,hb⟩;clear hno hor r0 hb hbit hm;go_wp2;obtain⟨h1,r0,hb⟩:=R.out
    go_roundg g
    case measure=>omega
    case rel=>exact⟨k+1,by omega,by rw[h1],by go_num,r0,hb⟩
   ·rw[hbit]at hc0;have R:Aside (A%2^k|||2^k=A%2^(k+1)/\Row wr r (Xp A) 180/\Below w.heap.size w wr):=⟨hor hbit,r0,hb⟩;clear hno hor r0 hb hbit hm;go_wp2;obtain⟨h1,r0,hb⟩:=R.out
    go_roundg g
    case measure=>omega
    case rel=>exact⟨k+1,by omega,by rw[<-h1,<-KI _ _ HM.out (by omega),IntKind.wrap_i64,Int.natCast_emod];simp[wrap64],by go_num,r0,hb⟩
theorem Xm:Extern.find Tryz.f183=some add64Entry:=by kernel_rfl
theorem Xn:Extern.findNext Tryz.f183=none:=by kernel_rfl
theorem Oi:Extern.find Tryz.f174=some U0:=by kernel_rfl
theorem Oj:Extern.findNext Tryz.f174=none:=by kernel_rfl
theorem Tw (A B:Nat)(w:World):
  Calls prog 176 #[.agg (Zc A),.agg (Zc B)] w fun e w'=>e= .returned (.tuple #[.agg (Zc (A+B)),.int .i64 (cN A B 256:Nat)])/\Below w.heap.size w w':=by
 go_enter func176,ntmps176
 go_wp2_with (first
  |refine Zr rfl 39 _ rfl _ rfl ?_
  |refine Zj rfl 39 rfl _ Zv ?_)
 go_loopg [7,9] 4 (fun g s7 s9 wr=> ∃k:Nat,k+g=4/\s7= .int .u64 (cN A B (64*k))/\s9= .int .i64 k/\Row wr w.heap.size (Zc A) 39/\Row wr (w.heap.size+1) (Zc B) 39/\Row wr (w.heap.size+1+1) (Zc 0) 39/\Row wr (w.heap.size+1+1+1) (Zc ((A+B)%2^(64*k))) 39/\Below w.heap.size w wr)
 case atStart=>
  refine⟨0,by omega,by rw[show cN A B (64*0)=0 by unfold cN;rw[show Nm A B (64*0)=false from Oa A B];rfl];rfl,rfl,(Row.two rfl).alloc _,Row.two (by simp),Row.one (by simp),?_,(Y9 _ _ _).alloc (by simp;omega) _⟩;rw[show(A+B)%2^(64*0)=0 by simp[Nat.mod_one]];exact Row.here (by simp)
 case round=>
  obtain⟨k,hk,rfl,rfl,r0,r1,r2,r3,hb⟩:=hrel
  cases gk with
  |zero=>
   obtain rfl:k=4:=by omega
   rw[show(A+B)%2^(64*4)=(A+B)%2^256 from rfl,Yu]at r3;clear hk;have hx: ¬((4:Int)<4):=by omega
   have hcl:=Ga A B (64*4);rw[show 64*4=256 from rfl]at hcl ⊢;have HC:Hid (∃c,cN A B 256=c):=⟨_,rfl⟩;obtain⟨c,hC⟩:=HC.out;rw[hC]at hcl ⊢;have HC:Hid (cN A B 256=c):=hC;clear hC
   go_wp2_with (first
    |refine Zh rfl 39 _ rfl _ rfl r3 4 _ underlying39 (by exact Ze) ?_
    |refine Zw rfl 39 _ _ rfl _ _ rfl rfl r2 (by exact Ze) (by simp only[Zt]) (ZA _) ?_)
   refine Yl rfl _ rfl (r2.setRow _) 4 _ underlying39 (by exact Ze) rfl _ rfl ⟨by rw[HC.out];rfl,Zy hb (by omega) _⟩
  |succ g=>
   have hlt:(k:Int)<4:=by omega
   have hc0:=ZV r0 k (by omega);have hc1:=ZV r1 k (by omega);have hc3:=ZV r3 k (by omega);have hf3:=r3.frozen k;have R:Aside (Row wr w.heap.size (Zc A) 39/\Row wr (w.heap.size+1) (Zc B) 39/\Row wr (w.heap.size+1+1) (Zc 0) 39/\Row wr (w.heap.size+1+1+1) (Zc ((A+B)%2^(64*k))) 39/\Below w.heap.size w wr):=⟨r0,r1,r2,r3,hb⟩;clear r0 r1 r2 r3 hb;have hcl:=Ga A B (64*k);have hl:=KJ A B k;have hs:=Nt A B k;generalize cN A B (64*k)=c at*;have S:Aside (lm (A+B) k=U1 (lm A k) (lm B k) c/\cN A B (64*(k+1))=RI (lm A k) (lm B k) c):=⟨hl,hs⟩;clear hl hs;go_wp2
   go_region_law (refine W1 (by rfl) 183 _ _ (by rfl) func183 (by kernel_rfl) (by kernel_rfl) Xn Xm #[.int .u64 (lm A k),.int .u64 (lm B k),.int .u64 c] (by rfl) _ (YH _ _ _ hcl _) ?_)
   all_goals
    go_wp2;obtain⟨r0,r1,r2,r3,hb⟩:=R.out;obtain⟨hl,hs⟩:=S.out
    go_roundg g
    case measure=>omega
    case rel=>
     refine⟨k+1,by omega,by rw[hs],by go_num,(r0.setCell_far _ _ _ (by omega)).drew,(r1.setCell_far _ _ _ (by omega)).drew,(r2.setCell_far _ _ _ (by omega)).drew,?_,(Z3 hb (by omega) _ _).drew⟩;have:=(r3.setCell k (.int .u64 (U1 (lm A k) (lm B k) c:Nat))).drew;rw[Xr (A+B) k _ (by omega) hl.symm]at this;exact this
theorem Wk (A B:Nat)(w:World)(hB:B<2^256):
  Calls prog 127 #[.agg (Zc A),.agg (Zc B)] w fun e w'=>e= .returned (.tuple #[.agg (Zc (WU A B)),.int .i64 (bN A B 256:Nat)])/\Below w.heap.size w w':=by
 have HB:Hid (B<2^256):=hB;clear hB
 go_enter func127,ntmps127
 go_wp2_with (first
  |refine Zr rfl 39 _ rfl _ rfl ?_
  |refine Zj rfl 39 rfl _ Zv ?_)
 go_loopg [7,9] 4 (fun g s7 s9 wr=> ∃k:Nat,k+g=4/\s7= .int .u64 (bN A B (64*k))/\s9= .int .i64 k/\Row wr w.heap.size (Zc A) 39/\Row wr (w.heap.size+1) (Zc B) 39/\Row wr (w.heap.size+1+1) (Zc 0) 39/\Row wr (w.heap.size+1+1+1) (Zc ((WU A B)%2^(64*k))) 39/\Below w.heap.size w wr)
 case atStart=>
  refine⟨0,by omega,by rw[show bN A B (64*0)=0 by simp[bN,Nat.mod_one]];rfl,rfl,(Row.two rfl).alloc _,Row.two (by simp),Row.one (by simp),?_,(Y9 _ _ _).alloc (by simp;omega) _⟩;rw[show(WU A B)%2^(64*0)=0 by simp[Nat.mod_one]];exact Row.here (by simp)
 case round=>
  obtain⟨k,hk,rfl,rfl,r0,r1,r2,r3,hb⟩:=hrel
  cases gk with
  |zero=>
   obtain rfl:k=4:=by omega
   rw[show(WU A B)%2^(64*4)=(WU A B)%2^256 from rfl,Yu]at r3;clear hk;have hx: ¬((4:Int)<4):=by omega
   have hcl:=Gb A B (64*4);rw[show 64*4=256 from rfl]at hcl ⊢;have HC:Hid (∃c,bN A B 256=c):=⟨_,rfl⟩;obtain⟨c,hC⟩:=HC.out;rw[hC]at hcl ⊢;have HC:Hid (bN A B 256=c):=hC;clear hC
   go_wp2_with (first
    |refine Zh rfl 39 _ rfl _ rfl r3 4 _ underlying39 (by exact Ze) ?_
    |refine Zw rfl 39 _ _ rfl _ _ rfl rfl r2 (by exact Ze) (by simp only[Zt]) (ZA _) ?_)
   refine Yl rfl _ rfl (r2.setRow _) 4 _ underlying39 (by exact Ze) rfl _ rfl ⟨by rw[HC.out];rfl,Zy hb (by omega) _⟩
  |succ g=>
   have hlt:(k:Int)<4:=by omega
   have hc0:=ZV r0 k (by omega);have hc1:=ZV r1 k (by omega);have hc3:=ZV r3 k (by omega);have hf3:=r3.frozen k;have R:Aside (Row wr w.heap.size (Zc A) 39/\Row wr (w.heap.size+1) (Zc B) 39/\Row wr (w.heap.size+1+1) (Zc 0) 39/\Row wr (w.heap.size+1+1+1) (Zc ((WU A B)%2^(64*k))) 39/\Below w.heap.size w wr):=⟨r0,r1,r2,r3,hb⟩;clear r0 r1 r2 r3 hb;have hcl:=Gb A B (64*k);have hl:=KL A B k (by omega) HB.out;have hs:=Oe A B k;generalize bN A B (64*k)=c at*;have S:Aside (lm (WU A B) k=C7 (lm A k) (lm B k) c/\bN A B (64*(k+1))=Aj (lm A k) (lm B k) c):=⟨hl,hs⟩;clear hl hs;go_wp2
   go_region_law (refine W1 (by rfl) 174 _ _ (by rfl) func174 (by kernel_rfl) (by kernel_rfl) Oj Oi #[.int .u64 (lm A k),.int .u64 (lm B k),.int .u64 c] (by rfl) _ (Nr _ _ _ hcl _) ?_)
   all_goals
    go_wp2;obtain⟨r0,r1,r2,r3,hb⟩:=R.out;obtain⟨hl,hs⟩:=S.out
    go_roundg g
    case measure=>omega
    case rel=>
     refine⟨k+1,by omega,by rw[hs],by go_num,(r0.setCell_far _ _ _ (by omega)).drew,(r1.setCell_far _ _ _ (by omega)).drew,(r2.setCell_far _ _ _ (by omega)).drew,?_,(Z3 hb (by omega) _ _).drew⟩;have:=(r3.setCell k (.int .u64 (C7 (lm A k) (lm B k) c:Nat))).drew;rw[Xr (WU A B) k _ (by omega) hl.symm]at this;exact this
theorem VF (X Y:Nat):Zc X=Zc Y↔X%2^256=Y%2^256:=⟨KH,fun h=>by rw[<-Yu X,<-Yu Y,h]⟩
theorem KN (X Y:Nat):(lm X 0=lm Y 0/\lm X 1=lm Y 1/\lm X 2=lm Y 2/\lm X 3=lm Y 3)↔X%2^256=Y%2^256:=by
 rw[<-VF];constructor
 ·rintro⟨h0,h1,h2,h3⟩;unfold Zc;rw[h0,h1,h2,h3]
 ·intro h
  have hl: ∀i,i<4->lm X i=lm Y i:=fun i hi=>by
   have h1:=Yi X i hi;rw[h,Yi Y i hi]at h1;simp only[Option.some.injEq,Value.int.injEq,true_and]at h1;omega
  exact⟨hl 0 (by omega),hl 1 (by omega),hl 2 (by omega),hl 3 (by omega)⟩
theorem SD (X Y:Nat)(w:World):(Op.equalIn 10000 39 (.agg (Zc X)) (.agg (Zc Y))).run prog w= .ok (decide (X%2^256=Y%2^256)) w:=by
 have h:=KN X Y;rw[show decide (X%2^256=Y%2^256)=decide (lm X 0=lm Y 0/\lm X 1=lm Y 1/\lm X 2=lm Y 2/\lm X 3=lm Y 3)from decide_eq_decide.2 h.symm];clear h;have u3:=underlying37;have a3:=isAgg37;have z3:=sizeOf37;unfold Zc;rw[show(10000:Nat)=9999+1 from rfl,Op.equalIn];simp only[Sem.run_bind,run_underlying underlying39,Result.andThen_ok];simp only[Std.Legacy.Range.forIn_eq_forIn_range',Std.Legacy.Range.size,Nat.sub_zero,Nat.add_sub_cancel,Nat.div_one,List.range'_succ,List.range'_zero,List.forIn_cons,List.forIn_nil]
 go_simp
 by_cases h1:lm X 0=lm Y 0<;>by_cases h2:lm X 1=lm Y 1<;>by_cases h3:lm X 2=lm Y 2<;>by_cases h4:lm X 3=lm Y 3<;>simp[h1,h2,h3,h4]<;>omega
theorem ZZ {o:Oper}{ρ:Operand->Value}(x y:Operand)(u:TypeId)(ho:o.op= .binOp .eql 39 x y u)(X Y:Nat)(hx:ρ x= .agg (Zc X))(hy:ρ y= .agg (Zc Y))(w:World):
  (execOp ρ o).run prog w= .ok (.value (.bool (decide (X%2^256=Y%2^256)))) w:=by
 unfold execOp;simp only[ho,hx,hy];simp[eqGuard,run_eql_struct,SD]
theorem Yf {o:Oper}{ρ:Operand->Value}(x y:Operand)(u:TypeId)(ho:o.op= .binOp .neq 39 x y u)(X Y:Nat)(hx:ρ x= .agg (Zc X))(hy:ρ y= .agg (Zc Y))(w:World):
  (execOp ρ o).run prog w= .ok (.value (.bool (!decide (X%2^256=Y%2^256)))) w:=by
 unfold execOp;simp only[ho,hx,hy];simp[eqGuard,run_neq_struct,SD]
theorem ZK {P:Program}{ops:Array Oper}{rest:List Oper}{o:Oper}{a:Act}{w:World}{Q:Exit->Act->World->Prop}(hgd:o.guard=none)(v:Value)
  (hr:(execOp a.eval o).run P w= .ok (.value v) w)(h:wpList P ops Q rest (a.put o.dst v) w):wpList P ops Q (o::rest) a w:=
 wpList_plain hgd fun _ hK=>by unfold Oper.wp;rw[hr];exact hK _ _ h
theorem Tx (n:Nat)(h:n<18446744073709551616):Zc n=#[.int .u64 n,.int .u64 0,.int .u64 0,.int .u64 0]:=by
 unfold Zc lm;rw[show 64*0=0 from rfl,Nat.pow_zero,Nat.div_one,Nat.mod_eq_of_lt (show n<2^64 from h),Nat.div_eq_of_lt (Nat.lt_of_lt_of_le h (by decide)),Nat.div_eq_of_lt (Nat.lt_of_lt_of_le h (by decide)),Nat.div_eq_of_lt (Nat.lt_of_lt_of_le h (by decide))];rfl
theorem X1 (n:Int)(w:World)(h1:n<9223372036854775808):
  Calls prog 42 #[.int .i64 n] w fun e w'=>e= .returned (.agg (Zc n.toNat))/\Below w.heap.size w w':=by
 rw[Tx n.toNat (by omega)];by_cases h0:0<=n
 ·rw[Int.toNat_of_nonneg h0];have hm:max n 0=n:=by omega
  go_enter func42,ntmps42
  go_wp2;exact ZX rfl _ rfl (Row.here rfl) 4 _ underlying39 (by exact Ze) rfl ⟨rfl,Z5 _⟩
 ·rw[show((n.toNat:Nat):Int)=0 by omega];have hm:max n 0=0:=by omega
  go_enter func42,ntmps42
  go_wp2;exact ZX rfl _ rfl (Row.here rfl) 4 _ underlying39 (by exact Ze) rfl ⟨rfl,Z5 _⟩
theorem XF (A B:Nat)(w:World)(hA:A<2^256)(hB:B<2^256):
  Calls prog 83 #[.agg (Zc A),.agg (Zc B)] w fun e w'=>e= .returned (.int .i64 (WB A B))/\Below w.heap.size w w':=by
 have rA:Row ((w.alloc (.cells (Zc A) 39)).alloc (.cells (Zc B) 39)) w.heap.size (Zc A) 39:=Row.one rfl;have rB:Row ((w.alloc (.cells (Zc A) 39)).alloc (.cells (Zc B) 39)) (w.heap.size+1) (Zc B) 39:=Row.here (by simp);have HB:Hid (B<2^256):=hB;have ma:=Nat.mod_eq_of_lt hA;have mb:=Nat.mod_eq_of_lt hB;by_cases heq:A=B
 ·subst heq;clear ma mb hA hB
  go_enter func83,ntmps83
  go_wp2_with (first
   |refine Zr rfl 39 _ rfl _ rfl ?_
   |refine Zh rfl 39 _ rfl _ rfl rA 4 _ underlying39 (by exact Ze) ?_
   |refine Zh rfl 39 _ rfl _ rfl rB 4 _ underlying39 (by exact Ze) ?_
   |refine ZK rfl (.bool true) ((ZZ _ _ _ rfl A A rfl rfl _).trans (by rw[decide_eq_true rfl])) ?_)
  go_ret;exact⟨by simp[WB],Ye _ _⟩
 ·have HD:Hid (decide (A%2^256=B%2^256)=false):=by show _=_;rw[ma,mb];exact decide_eq_false heq
  have HN:Hid (bN A B 256=if A<B then 1 else 0):=by show _=_;unfold bN;rw[ma,mb]
  by_cases hlt:A<B
  ·have HC:Hid (WB A B= -1):=by show _=_;unfold WB;rw[if_pos hlt]
   have hn:((bN A B 256:Nat):Int)=1:=by rw[HN.out,if_pos hlt];rfl
   clear HN hlt heq ma mb hA hB
   go_enter func83,ntmps83
   go_wp2_with (first
    |refine Zr rfl 39 _ rfl _ rfl ?_
    |refine Zh rfl 39 _ rfl _ rfl rA 4 _ underlying39 (by exact Ze) ?_
    |refine Zh rfl 39 _ rfl _ rfl rB 4 _ underlying39 (by exact Ze) ?_
    |refine ZK rfl (.bool false) ((ZZ _ _ _ rfl A B rfl rfl _).trans (by rw[HD.out])) ?_
    |(go_at_call 127;refine(Wk _ _ _ HB.out).mono ?_;rintro e w2 ⟨rfl,hb2⟩;have b2:=Zk (Ye _ _) (Nat.le_refl _) hb2;clear hb2)
    |refine Zj rfl 39 rfl _ Zv ?_
    |refine Ym rfl 39 _ _ rfl _ rfl rfl _ _ (by exact Ze) (by simp only[Zt]) (ZA _) ?_)
   go_ret;exact⟨by rw[HC.out];rfl,b2.alloc b2.size _⟩
  ·have HC:Hid (WB A B=1):=by show _=_;unfold WB;rw[if_neg hlt,if_pos (by omega)]
   have hn:((bN A B 256:Nat):Int)=0:=by rw[HN.out,if_neg hlt];rfl
   clear HN hlt heq ma mb hA hB
   go_enter func83,ntmps83
   go_wp2_with (first
    |refine Zr rfl 39 _ rfl _ rfl ?_
    |refine Zh rfl 39 _ rfl _ rfl rA 4 _ underlying39 (by exact Ze) ?_
    |refine Zh rfl 39 _ rfl _ rfl rB 4 _ underlying39 (by exact Ze) ?_
    |refine ZK rfl (.bool false) ((ZZ _ _ _ rfl A B rfl rfl _).trans (by rw[HD.out])) ?_
    |(go_at_call 127;refine(Wk _ _ _ HB.out).mono ?_;rintro e w2 ⟨rfl,hb2⟩;have b2:=Zk (Ye _ _) (Nat.le_refl _) hb2;clear hb2)
    |refine Zj rfl 39 rfl _ Zv ?_
    |refine Ym rfl 39 _ _ rfl _ rfl rfl _ _ (by exact Ze) (by simp only[Zt]) (ZA _) ?_)
   go_ret;exact⟨by rw[HC.out];rfl,b2.alloc b2.size _⟩
def Ny (A:Nat):Int:=if A<9223372036854775808 then A else 0
def Nz (A:Nat):Bool:=decide (A<9223372036854775808)
theorem NA (A:Nat):lm A 0=A%18446744073709551616:=by unfold lm;simp
theorem NB (A:Nat)(w:World)(hA:A<2^256)(h:18446744073709551616<=A):
  Calls prog 122 #[.agg (Zc A)] w fun e w'=>e= .returned (.tuple #[.int .i64 0,.bool false])/\Below w.heap.size w w':=by
 have rA:=Row.new w (Zc A) 39;have hc0:=ZV rA 0 (by omega)
 have HV:Hid ((!decide (A%2^256=lm A 0%2^256))=true):=by
  show _=_
  rw[NA,Nat.mod_eq_of_lt hA,decide_eq_false];rfl;intro e;omega
 clear hA h
 go_enter func122,ntmps122
 go_wp2_with (first
  |refine Zr rfl 39 _ rfl _ rfl ?_
  |refine Zh rfl 39 _ rfl _ rfl rA 4 _ underlying39 (by exact Ze) ?_
  |refine ZK rfl (.bool true) ((Yf _ _ _ rfl A (lm A 0) rfl (by rw[Tx _ (Xz A 0)];rfl) _).trans (by rw[HV.out])) ?_)
 go_ret2;exact⟨rfl,Z5 _⟩
theorem KO (A:Nat)(w:World)(h:A<18446744073709551616):
  Calls prog 122 #[.agg (Zc A)] w fun e w'=>e= .returned (.tuple #[.int .i64 (Ny A),.bool (Nz A)])/\Below w.heap.size w w':=by
 have rA:=Row.new w (Zc A) 39;have hc0:=ZV rA 0 (by omega);rw[NA,Nat.mod_eq_of_lt h]at hc0
 have HV:Hid ((!decide (A%2^256=A%2^256))=false):=by show _=_;simp
 have HL:Hid (Zc A=#[.int .u64 A,.int .u64 0,.int .u64 0,.int .u64 0]):=Tx A h;by_cases h63:A<9223372036854775808
 ·have h1: ¬((9223372036854775807:Int)<A):=by omega
  have HI:Hid (Ny A=A/\Nz A=true):=⟨if_pos h63,decide_eq_true h63⟩;clear h h63
  go_enter func122,ntmps122
  go_wp2_with (first
   |refine Zr rfl 39 _ rfl _ rfl ?_
   |refine Zh rfl 39 _ rfl _ rfl rA 4 _ underlying39 (by exact Ze) ?_
   |refine ZK rfl (.bool false) ((Yf _ _ _ rfl A A rfl (by rw[HL.out];rfl) _).trans (by rw[HV.out])) ?_)
  go_ret2;exact⟨by rw[HI.out.1,HI.out.2];rfl,Z5 _⟩
 ·have h1:(9223372036854775807:Int)<A:=by omega
  have HI:Hid (Ny A=0/\Nz A=false):=⟨if_neg h63,decide_eq_false h63⟩;clear h h63
  go_enter func122,ntmps122
  go_wp2_with (first
   |refine Zr rfl 39 _ rfl _ rfl ?_
   |refine Zh rfl 39 _ rfl _ rfl rA 4 _ underlying39 (by exact Ze) ?_
   |refine ZK rfl (.bool false) ((Yf _ _ _ rfl A A rfl (by rw[HL.out];rfl) _).trans (by rw[HV.out])) ?_)
  go_ret2;exact⟨by rw[HI.out.1,HI.out.2];rfl,Z5 _⟩
theorem KP (A:Nat)(w:World)(hA:A<2^256):
  Calls prog 122 #[.agg (Zc A)] w (Rt (.tuple #[.int .i64 (Ny A),.bool (Nz A)]) w):=by
 by_cases h:A<18446744073709551616
 ·exact KO A w h
 ·rw[show Ny A=0 from if_neg (by omega),show Nz A=false from decide_eq_false (by omega)];exact NB A w hA (by omega)
theorem SE (A:Nat):bitLen A<=63↔A<9223372036854775808:=by
 have h:=bitLen_spec A;constructor
 ·intro hl;exact Nat.lt_of_lt_of_le h.1 (Nat.pow_le_pow_right (by decide) hl)
 ·intro hA;unfold bitLen
  split
  ·omega
  ·rename_i h0
   have:=(Nat.log2_lt h0).2 (show A<2^63 from hA);omega
theorem KQ (A:Nat)(w:World)(hA:A<2^256):
  Calls prog 64 #[.agg (Zc A)] w (Rt (.tuple #[.int .i64 (Ny A),.bool (Nz A)]) w):=by
 by_cases h:A<9223372036854775808
 ·rw[show Ny A=A from if_pos h,show Nz A=true from decide_eq_true h];exact KM A w h ((SE A).2 h)
 ·rw[show Ny A=0 from if_neg h,show Nz A=false from decide_eq_false h];refine Gi A w hA ?_;have:=SE A;omega
theorem Yt {P:Program}{o:Oper}{ρ:Operand->Value}(t:TypeId)(x ix:Operand)(ho:o.op= .index t x ix)(hu:P.underlying t=some .string)(S:ByteArray)(hx:ρ x= .string S)
  (hS:S.data.toList.map UInt8.toNat=(List.range 256).map bitLen)(k:IntKind)(i:Int)(hi:ρ ix= .int k i)(h0:0<=i)(h1:i<256)(w:World):
  (execOp ρ o).run P w= .ok (.value (.int .u8 (bitLen i.toNat))) w:=by
 have hsz:S.size=256:=by
  have:=congrArg List.length hS
  simpa using this
 have hlt:i.toNat<S.size:=by omega
 have hget:(S[i.toNat]'hlt).toNat=bitLen i.toNat:=by
  have h2:=congrArg (fun l:List Nat=>l[i.toNat]?) hS;simp only[List.getElem?_map]at h2;rw[List.getElem?_range (by omega)]at h2
  have h3:S.data.toList[i.toNat]?=some (S[i.toNat]'hlt):=by
   rw[Array.getElem?_toList];exact Array.getElem?_eq_getElem hlt
  rw[h3]at h2
  simpa using h2
 unfold execOp;simp only[ho,hx,hi,Sem.run_bind];rw[run_index_string w t S k i hu,dif_pos ⟨h0,by omega⟩,hget];rfl
theorem Wl {k:IntKind}{a b:Int}(h:a=b):Ending.returned (.int k a)= .returned (.int k b):=by rw[h]
theorem YS (q n:Nat)(hq:q<=8)(hn:n<=56):wrap64 ((n:Int)+wrap64 (q:Int))=((n+q:Nat):Int):=by unfold wrap64;omega
theorem Ty (q:Nat)(hq:q<=8):wrap64 (wrap64 (q:Int))=(q:Int):=by unfold wrap64;omega
set_option maxRecDepth 1000000 in
theorem Gj (x:Nat)(w:World)(h0:0<=x)(h1:x<256):
  Calls prog 126 #[.int .u64 x] w fun e w'=>e= .returned (.int .i64 (bitLen x))/\w'=w:=by
 have t0: ¬(4294967296:Int)<=(x:Int):=by omega
 have t1: ¬(65536:Int)<=(x:Int):=by omega
 have t2: ¬(256:Int)<=(x:Int):=by omega
 have HX:Hid (0<=(x:Int)/\(x:Int)<256):=⟨by omega,by omega⟩;have HB8:Hid (bitLen (x/1)<=8):=bitLen_le8 _ (by omega)
 have HB:Hid (bitLen x=0+bitLen (x/1)):=by
  show _=_
  rw[Nat.div_one];omega
 clear h0 h1
 go_enter func126,ntmps126
 go_wp2_with (first
  |(refine ZK rfl _ (Yt 9 _ _ rfl underlying9 _ rfl ?_ _ _ rfl ?_ ?_ _) ?_;(· kernel_rfl);(· exact HX.out.1);(· exact HX.out.2)))
 go_ret;have hb:=HB8.out;rw[Nat.div_one]at hb;exact⟨Wl (Ty _ hb),rfl⟩
set_option maxRecDepth 1000000 in
theorem Gk (x:Nat)(w:World)(h0:256<=x)(h1:x<65536):
  Calls prog 126 #[.int .u64 x] w fun e w'=>e= .returned (.int .i64 (bitLen x))/\w'=w:=by
 have t0: ¬(4294967296:Int)<=(x:Int):=by omega
 have t1: ¬(65536:Int)<=(x:Int):=by omega
 have t2:(256:Int)<=(x:Int):=by omega
 have HX:Hid (0<=(x:Int)/256/\(x:Int)/256<256):=⟨by omega,by omega⟩;have HB8:Hid (bitLen (x/256)<=8):=bitLen_le8 _ (by omega)
 have HB:Hid (bitLen x=8+bitLen (x/256)):=by
  show _=_
  exact bitLen_shift x 8 (show x/256≠0 by omega)
 clear h0 h1
 go_enter func126,ntmps126
 go_wp2_with (first
  |(refine ZK rfl _ (Yt 9 _ _ rfl underlying9 _ rfl ?_ _ _ rfl ?_ ?_ _) ?_;(· kernel_rfl);(· exact HX.out.1);(· exact HX.out.2)))
 go_ret;refine⟨Wl ?_,rfl⟩;rw[HB.out];exact YS _ 8 HB8.out (by decide)
set_option maxRecDepth 1000000 in
theorem Gl (x:Nat)(w:World)(h0:65536<=x)(h1:x<16777216):
  Calls prog 126 #[.int .u64 x] w fun e w'=>e= .returned (.int .i64 (bitLen x))/\w'=w:=by
 have t0: ¬(4294967296:Int)<=(x:Int):=by omega
 have t1:(65536:Int)<=(x:Int):=by omega
 have t2: ¬(256:Int)<=(x:Int)/65536:=by omega
 have HX:Hid (0<=(x:Int)/65536/\(x:Int)/65536<256):=⟨by omega,by omega⟩;have HB8:Hid (bitLen (x/65536)<=8):=bitLen_le8 _ (by omega)
 have HB:Hid (bitLen x=16+bitLen (x/65536)):=by
  show _=_
  exact bitLen_shift x 16 (show x/65536≠0 by omega)
 clear h0 h1
 go_enter func126,ntmps126
 go_wp2_with (first
  |(refine ZK rfl _ (Yt 9 _ _ rfl underlying9 _ rfl ?_ _ _ rfl ?_ ?_ _) ?_;(· kernel_rfl);(· exact HX.out.1);(· exact HX.out.2)))
 go_ret;refine⟨Wl ?_,rfl⟩;rw[HB.out];exact YS _ 16 HB8.out (by decide)
set_option maxRecDepth 1000000 in
theorem Gm (x:Nat)(w:World)(h0:16777216<=x)(h1:x<4294967296):
  Calls prog 126 #[.int .u64 x] w fun e w'=>e= .returned (.int .i64 (bitLen x))/\w'=w:=by
 have t0: ¬(4294967296:Int)<=(x:Int):=by omega
 have t1:(65536:Int)<=(x:Int):=by omega
 have t2:(256:Int)<=(x:Int)/65536:=by omega
 have HX:Hid (0<=(x:Int)/65536/256/\(x:Int)/65536/256<256):=⟨by omega,by omega⟩
 have HE:Hid (x/65536/256=x/16777216):=by show _=_;omega
 have HB8:Hid (bitLen (x/16777216)<=8):=bitLen_le8 _ (by omega)
 have HB:Hid (bitLen x=24+bitLen (x/16777216)):=by
  show _=_
  exact bitLen_shift x 24 (show x/16777216≠0 by omega)
 clear h0 h1
 go_enter func126,ntmps126
 go_wp2_with (first
  |(refine ZK rfl _ (Yt 9 _ _ rfl underlying9 _ rfl ?_ _ _ rfl ?_ ?_ _) ?_;(· kernel_rfl);(· exact HX.out.1);(· exact HX.out.2)))
 go_ret;refine⟨Wl ?_,rfl⟩;have hb:=HB8.out;rw[HB.out];rw[<-HE.out]at hb ⊢;exact YS _ 24 hb (by decide)
set_option maxRecDepth 1000000 in
theorem Gn (x:Nat)(w:World)(h0:4294967296<=x)(h1:x<1099511627776):
  Calls prog 126 #[.int .u64 x] w fun e w'=>e= .returned (.int .i64 (bitLen x))/\w'=w:=by
 have t0:(4294967296:Int)<=(x:Int):=by omega
 have t1: ¬(65536:Int)<=(x:Int)/4294967296:=by omega
 have t2: ¬(256:Int)<=(x:Int)/4294967296:=by omega
 have HX:Hid (0<=(x:Int)/4294967296/\(x:Int)/4294967296<256):=⟨by omega,by omega⟩;have HB8:Hid (bitLen (x/4294967296)<=8):=bitLen_le8 _ (by omega)
 have HB:Hid (bitLen x=32+bitLen (x/4294967296)):=by
  show _=_
  exact bitLen_shift x 32 (show x/4294967296≠0 by omega)
 clear h0 h1
 go_enter func126,ntmps126
 go_wp2_with (first
  |(refine ZK rfl _ (Yt 9 _ _ rfl underlying9 _ rfl ?_ _ _ rfl ?_ ?_ _) ?_;(· kernel_rfl);(· exact HX.out.1);(· exact HX.out.2)))
 go_ret;refine⟨Wl ?_,rfl⟩;rw[HB.out];exact YS _ 32 HB8.out (by decide)
set_option maxRecDepth 1000000 in
theorem Gp (x:Nat)(w:World)(h0:1099511627776<=x)(h1:x<281474976710656):
  Calls prog 126 #[.int .u64 x] w fun e w'=>e= .returned (.int .i64 (bitLen x))/\w'=w:=by
 have t0:(4294967296:Int)<=(x:Int):=by omega
 have t1: ¬(65536:Int)<=(x:Int)/4294967296:=by omega
 have t2:(256:Int)<=(x:Int)/4294967296:=by omega
 have HX:Hid (0<=(x:Int)/4294967296/256/\(x:Int)/4294967296/256<256):=⟨by omega,by omega⟩
 have HE:Hid (x/4294967296/256=x/1099511627776):=by show _=_;omega
 have HB8:Hid (bitLen (x/1099511627776)<=8):=bitLen_le8 _ (by omega)
 have HB:Hid (bitLen x=40+bitLen (x/1099511627776)):=by
  show _=_
  exact bitLen_shift x 40 (show x/1099511627776≠0 by omega)
 clear h0 h1
 go_enter func126,ntmps126
 go_wp2_with (first
  |(refine ZK rfl _ (Yt 9 _ _ rfl underlying9 _ rfl ?_ _ _ rfl ?_ ?_ _) ?_;(· kernel_rfl);(· exact HX.out.1);(· exact HX.out.2)))
 go_ret;refine⟨Wl ?_,rfl⟩;have hb:=HB8.out;rw[HB.out];rw[<-HE.out]at hb ⊢;exact YS _ 40 hb (by decide)
set_option maxRecDepth 1000000 in
theorem Gq (x:Nat)(w:World)(h0:281474976710656<=x)(h1:x<72057594037927936):
  Calls prog 126 #[.int .u64 x] w fun e w'=>e= .returned (.int .i64 (bitLen x))/\w'=w:=by
 have t0:(4294967296:Int)<=(x:Int):=by omega
 have t1:(65536:Int)<=(x:Int)/4294967296:=by omega
 have t2: ¬(256:Int)<=(x:Int)/4294967296/65536:=by omega
 have HX:Hid (0<=(x:Int)/4294967296/65536/\(x:Int)/4294967296/65536<256):=⟨by omega,by omega⟩
 have HE:Hid (x/4294967296/65536=x/281474976710656):=by show _=_;omega
 have HB8:Hid (bitLen (x/281474976710656)<=8):=bitLen_le8 _ (by omega)
 have HB:Hid (bitLen x=48+bitLen (x/281474976710656)):=by
  show _=_
  exact bitLen_shift x 48 (show x/281474976710656≠0 by omega)
 clear h0 h1
 go_enter func126,ntmps126
 go_wp2_with (first
  |(refine ZK rfl _ (Yt 9 _ _ rfl underlying9 _ rfl ?_ _ _ rfl ?_ ?_ _) ?_;(· kernel_rfl);(· exact HX.out.1);(· exact HX.out.2)))
 go_ret;refine⟨Wl ?_,rfl⟩;have hb:=HB8.out;rw[HB.out];rw[<-HE.out]at hb ⊢;exact YS _ 48 hb (by decide)
set_option maxRecDepth 1000000 in
theorem Gr (x:Nat)(w:World)(h0:72057594037927936<=x)(h1:x<18446744073709551616):
  Calls prog 126 #[.int .u64 x] w fun e w'=>e= .returned (.int .i64 (bitLen x))/\w'=w:=by
 have t0:(4294967296:Int)<=(x:Int):=by omega
 have t1:(65536:Int)<=(x:Int)/4294967296:=by omega
 have t2:(256:Int)<=(x:Int)/4294967296/65536:=by omega
 have HX:Hid (0<=(x:Int)/4294967296/65536/256%256/\(x:Int)/4294967296/65536/256%256<256):=⟨by omega,by omega⟩
 have HE:Hid (x/4294967296/65536/256%256=x/72057594037927936):=by show _=_;omega
 have HB8:Hid (bitLen (x/72057594037927936)<=8):=bitLen_le8 _ (by omega)
 have HB:Hid (bitLen x=56+bitLen (x/72057594037927936)):=by
  show _=_
  exact bitLen_shift x 56 (show x/72057594037927936≠0 by omega)
 clear h0 h1
 go_enter func126,ntmps126
 go_wp2_with (first
  |(refine ZK rfl _ (Yt 9 _ _ rfl underlying9 _ rfl ?_ _ _ rfl ?_ ?_ _) ?_;(· kernel_rfl);(· exact HX.out.1);(· exact HX.out.2)))
 go_ret;refine⟨Wl ?_,rfl⟩;have hb:=HB8.out;rw[HB.out];rw[<-HE.out]at hb ⊢;exact YS _ 56 hb (by decide)
theorem SF (x:Nat)(w:World)(h:x<18446744073709551616):
  Calls prog 126 #[.int .u64 x] w fun e w'=>e= .returned (.int .i64 (bitLen x))/\w'=w:=by
 by_cases h0:x<256
 ·exact Gj x w (by omega) h0
 by_cases h1:x<65536
 ·exact Gk x w (by omega) h1
 by_cases h2:x<16777216
 ·exact Gl x w (by omega) h2
 by_cases h3:x<4294967296
 ·exact Gm x w (by omega) h3
 by_cases h4:x<1099511627776
 ·exact Gn x w (by omega) h4
 by_cases h5:x<281474976710656
 ·exact Gp x w (by omega) h5
 by_cases h6:x<72057594037927936
 ·exact Gq x w (by omega) h6
 exact Gr x w (by omega) h
theorem NC (x:Nat)(h:x<18446744073709551616):bitLen x<=64:=by
 unfold bitLen
 split
 ·omega
 ·rename_i h0
  have:=(Nat.log2_lt h0).2 (show x<2^64 from h);omega
theorem I6 (A k:Nat)(h:A<2^(64*(k+1))):lm A k=A/2^(64*k):=by
 unfold lm;refine Nat.mod_eq_of_lt (Nat.div_lt_of_lt_mul ?_);rw[<-Nat.pow_add];exact h
theorem ND (A k:Nat)(h:A<2^(64*(k+1)))(h0:lm A k≠0):bitLen A=64*k+bitLen (lm A k):=by
 rw[I6 A k h]at h0 ⊢;exact bitLen_shift A (64*k) h0
theorem Gs (A k:Nat)(h:A<2^(64*(k+1)))(h0:lm A k=0):A<2^(64*k):=by
 rw[I6 A k h]at h0;exact(Nat.div_eq_zero_iff_lt (Nat.two_pow_pos _)).1 h0
theorem XW (A:Nat)(w:World)(hA:A<2^256):
  Calls prog 82 #[.agg (Zc A)] w fun e w'=>e= .returned (.int .i64 (bitLen A))/\Below w.heap.size w w':=by
 have HA:Hid (A<2^256):=hA;clear hA
 go_enter func82,ntmps82
 go_wp2_with (first
  |refine Zr rfl 39 _ rfl _ rfl ?_)
 go_loopg [5] 4 (fun g s5 wr=> ∃k:Nat,k+g=4/\s5= .int .i64 k/\A<2^(64*g)/\Row wr w.heap.size (Zc A) 39/\Below w.heap.size w wr)
 case atStart=>exact⟨0,by omega,rfl,HA.out,Row.new _ _ _,Z5 _⟩
 case round=>
  obtain⟨k,hk,rfl,hlt,r0,hb⟩:=hrel
  cases gk with
  |zero=>
   obtain rfl:k=4:=by omega
   obtain rfl:A=0:=by simpa using hlt
   clear hlt hk HA;have hx: ¬((4:Int)<4):=by omega
   go_wp2;go_ret;exact⟨rfl,hb⟩
  |succ g=>
   have hk4:(k:Int)<4:=by omega
   have hc0:=ZV r0 g (by omega);have hsub:(3:Int)-k=g:=by omega
   have hl:=Xz A g;by_cases h0:lm A g=0
   ·have R:Aside (A<2^(64*g)/\Row wr w.heap.size (Zc A) 39/\Below w.heap.size w wr):=⟨Gs A g hlt h0,r0,hb⟩;rw[h0]at hc0;clear r0 hb hlt HA h0 hl;go_wp2;obtain⟨h1,r0,hb⟩:=R.out
    go_roundg g
    case measure=>omega
    case rel=>exact⟨k+1,by omega,by go_num,h1,r0,hb⟩
   ·have R:Aside (bitLen A=64*g+bitLen (lm A g)/\bitLen (lm A g)<=64/\Below w.heap.size w wr):=⟨ND A g hlt h0,?_,hb⟩
    ·have hne:((lm A g:Nat):Int)≠0:=by omega
     have HL:Hid (lm A g<18446744073709551616):=hl;clear r0 hb hlt HA h0 hl
     go_wp2_with (first
      |(go_at_call 126;refine(SF _ _ HL.out).mono ?_;rintro e w2 ⟨rfl,rfl⟩))
     go_ret;obtain⟨h1,h2,hb⟩:=R.out;refine⟨Wl ?_,hb⟩;rw[h1];unfold wrap64;omega
    ·exact NC _ hl
end Go.Proofs.YtcdahmommonnfaaGreatDoor
