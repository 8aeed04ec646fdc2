import Derived.Test.YtnagnkhbamhfmaaGreatDoorWDiv64
import Derived.Test.YtnagnkhbamhfmaaGreatDoorGD
set_option maxRecDepth 100000
set_option maxHeartbeats 8000000
namespace Go.Proofs.YtnagnkhbamhfmaaGreatDoor
set_option linter.all false
open Go.Proofs.Tryz
open Go.RowKit
theorem Ew (M:Nat)(hM:M<2^256)(hM2:2^255<=M):9223372036854775808<=lm M 3:=by
 rw[WN M hM,Nat.le_div_iff_mul_le (by decide)];exact hM2
theorem M1 (R M:Nat)(w:World)(hM:M<2^256)(hM2:2^255<=M):
  Calls prog 209 #[.agg (Zd R),.agg (Zd M)] w fun e w'=>e= .returned (.int .u64 (gs R M:Nat))/\Below w.heap.size w w':=by
 have rR:Row ((w.alloc (.cells (Zd R) 57)).alloc (.cells (Zd M) 57)) w.heap.size (Zd R) 57:=(by repeat(first|(refine Row.here ?_;first|(with_reducible rfl)|(simp;done))|refine Row.alloc ?_ _));have rM:Row ((w.alloc (.cells (Zd R) 57)).alloc (.cells (Zd M) 57)) (w.heap.size+1) (Zd M) 57:=(by repeat(first|(refine Row.here ?_;first|(with_reducible rfl)|(simp;done))|refine Row.alloc ?_ _));have c3:=ZS rR 3 (by omega);have c2:=ZS rR 2 (by omega);have m3:=ZS rM 3 (by omega);have hn:=Ew M hM hM2;have h3:=XA M 3;have h2:=XA R 2;clear hM hM2 rR rM;by_cases hc:lm M 3<=lm R 3
 ·have hg:Hid (gs R M=18446744073709551615):=by show _=_;unfold gs;rw[if_pos hc]
  have hz:(lm M 3:Int)<=lm R 3:=by omega
  clear hc;generalize lm M 3=y at*;generalize lm R 3=h at*
  go_enter func209,ntmps209
  go_wp2_with (first
   |refine Zp rfl 57 _ rfl _ rfl ?_)
  go_ret;exact⟨by rw[hg.out];rfl,Z0 _ _⟩
 ·have hg:Hid (gs R M=(lm R 3*18446744073709551616+lm R 2)/lm M 3):=by show _=_;unfold gs;rw[if_neg hc]
  have hz: ¬(lm M 3:Int)<=lm R 3:=by omega
  have hc:lm R 3<lm M 3:=by omega
  generalize lm M 3=y at*;generalize lm R 3=h at*;generalize lm R 2=l at*
  go_enter func209,ntmps209
  go_wp2_with (first
   |refine Zp rfl 57 _ rfl _ rfl ?_)
  refine(MU h l y _ hc h2 hn h3).mono ?_;rintro e w2 ⟨⟨r,rfl⟩,hb⟩;go_wp2;go_ret;exact⟨by rw[hg.out];rfl,Zk (Z0 _ _) (Nat.le_refl _) hb⟩
def zo (N M g:Nat):Nat:=zz N M g/2^256%18446744073709551616
theorem Ig (Z pt b h:Nat)(z2:Z+pt+b=h+18446744073709551616):
  IntKind.u64.wrap (IntKind.u64.wrap ((h:Int)-(pt:Int))-(b:Int))=((Z%18446744073709551616:Nat):Int):=by
 simp only[IntKind.wrap_u64];omega
theorem Ex (N M g:Nat)(hM:M<2^256)(hg:g<18446744073709551616)(h0:0<g):IntKind.u64.wrap ((zo N M g:Int)+(cN (zz N M g) M 256:Nat))=(zo N M (g-1):Int):=by
 have ho:=Ek (zz N M g) M hM;rw[<-MQ N M g hM hg h0]at ho;unfold zo;rw[ho];generalize zz N M g/2^256=z;generalize cN (zz N M g) M 256=c;simp only[IntKind.wrap_u64];omega
theorem Nw (R l M N g pr pt b q:Nat)(w:World)(hM:M<2^256)(hM0:0<M)(hg:g<18446744073709551616)(eq:q=N/M)(hge:q<=g)
  (hgu: ∀w',Calls prog 209 #[.agg (Zd R),.agg (Zd M)] w' (Rt (.int .u64 g) w'))
  (hti: ∀w',Calls prog 195 #[.agg (Zd M),.int .u64 g,.agg (Zd 0)] w' (Rt (.tuple #[.agg (Zd pr),.int .u64 pt]) w'))
  (hsu: ∀w',Calls prog 154 #[.agg #[.int .u64 l,.int .u64 (lm R 0),.int .u64 (lm R 1),.int .u64 (lm R 2)],.agg (Zd pr)] w' (Rt (.tuple #[.agg (Zd (zz N M g)),.int .i64 b]) w'))
  (hbN:b<=1)(z2:zz N M g/2^256+pt+b=lm R 3+18446744073709551616):
  Calls prog 194 #[.agg (Zd R),.int .u64 l,.agg (Zd M)] w fun e w'=>e= .returned (.tuple #[.int .u64 q,.agg (Zd (N%M))])/\Below w.heap.size w w':=by
 have rR:Row (((w.alloc (.cells (Zd R) 57)).alloc (.cells (Zd M) 57)).alloc (.cells (Zd 0) 57)) w.heap.size (Zd R) 57:=(by repeat(first|(refine Row.here ?_;first|(with_reducible rfl)|(simp;done))|refine Row.alloc ?_ _));have rM:Row (((w.alloc (.cells (Zd R) 57)).alloc (.cells (Zd M) 57)).alloc (.cells (Zd 0) 57)) (w.heap.size+1) (Zd M) 57:=(by repeat(first|(refine Row.here ?_;first|(with_reducible rfl)|(simp;done))|refine Row.alloc ?_ _));have rZ:Row (((w.alloc (.cells (Zd R) 57)).alloc (.cells (Zd M) 57)).alloc (.cells (Zd 0) 57)) (w.heap.size+1+1) (Zd 0) 57:=(by repeat(first|(refine Row.here ?_;first|(with_reducible rfl)|(simp;done))|refine Row.alloc ?_ _));have bW:=YS (w:=w) (.cells (Zd R) 57) (.cells (Zd M) 57) (.cells (Zd 0) 57);have tov:IntKind.u64.wrap (IntKind.u64.wrap ((lm R 3:Int)-(pt:Int))-(b:Int))=(zo N M g:Int):=Ig _ pt b _ z2;have HM:Hid (M<2^256/\0<M/\q=N/M):=⟨hM,hM0,eq⟩;clear hM hM0 z2 eq
 go_enter func194,ntmps194
 go_wp2_with (first
  |refine Zp rfl 57 _ rfl _ rfl ?_
  |refine Zg rfl 57 rfl _ Zo ?_
  |refine Zj rfl 57 _ rfl _ rfl rR 4 _ underlying57 (by exact Zc) ?_
  |refine Zj rfl 57 _ rfl _ rfl rM 4 _ underlying57 (by exact Zc) ?_)
 refine(hgu _).mono ?_;rintro e w2 ⟨rfl,hb2⟩;have rR2:=rR.belowAll hb2;have rM2:=rM.belowAll hb2;have rZ2:=rZ.belowAll hb2;have b2:=Zk bW (Nat.le_refl _) hb2;clear rR rM rZ bW hb2 hgu
 go_wp2_with (first
  |refine Zw rfl 57 rfl _ ZA ?_
  |refine Zj rfl 57 _ rfl _ rfl rM2 4 _ underlying57 (by exact Zc) ?_)
 refine(hti _).mono ?_;rintro e w3 ⟨rfl,hb3⟩;have rR3:=(rR2.belowAll hb3).alloc (.cells (Zd pr) 57);have rM3:=(rM2.belowAll hb3).alloc (.cells (Zd pr) 57);have rZ3:=(rZ2.belowAll hb3).alloc (.cells (Zd pr) 57);have b3:=Zk b2 (Nat.le_refl _) hb3;have b4:=b3.alloc b3.size (.cells (Zd pr) 57);have rP:=Row.new w3 (Zd pr) 57;have c0:=ZS rR3 0 (by omega);have c1:=ZS rR3 1 (by omega);have c2:=ZS rR3 2 (by omega);clear rR2 rM2 rZ2 b2 hb3 hti b3
 go_wp2_with (first
  |refine Zg rfl 57 rfl _ Zo ?_
  |refine ZR rfl 57 _ _ rfl _ rfl rfl _ _ (by exact Zc) (by simp only[Zm]) (Zv _) ?_
  |refine Zj rfl 57 _ rfl _ rfl rP 4 _ underlying57 (by exact Zc) ?_)
 generalize w3.alloc (.cells (Zd pr) 57)=w4 at*;refine(hsu _).mono ?_;rintro e w5 ⟨rfl,hb5⟩;have rR5:=(rR3.belowAll hb5).alloc (.cells (Zd (zz N M g)) 57);have rM5:=(rM3.belowAll hb5).alloc (.cells (Zd (zz N M g)) 57);have rZ5:=(rZ3.belowAll hb5).alloc (.cells (Zd (zz N M g)) 57);have b5:=Zk b4 (Nat.le_refl _) hb5;have b6:=b5.alloc b5.size (.cells (Zd (zz N M g)) 57);have rL:=Row.new w5 (Zd (zz N M g)) 57;have hL:=(rZ3.belowAll hb5).lt;have c3:=ZS rR5 3 (by omega);clear rR3 rM3 rZ3 b4 hb5 hsu b5 rP c0 c1 c2
 go_wp2_with (first
  |refine Zg rfl 57 rfl _ Zo ?_
  |refine ZR rfl 57 _ _ rfl _ rfl rfl _ _ (by exact Zc) (by simp only[Zm]) (Zv _) ?_)
 generalize w5.alloc (.cells (Zd (zz N M g)) 57)=w6 at*;generalize w5.heap.size=L at*
 go_loopg [8,13] (g-q) (fun j s8 s13 wr=> ∃g':Nat,g'=q+j/\g'<18446744073709551616/\s8= .int .u64 g'/\s13= .int .u64 (zo N M g':Nat)/\Row wr (w.heap.size+1) (Zd M) 57/\Row wr (w.heap.size+1+1) (Zd 0) 57/\
  Row wr L (Zd (zz N M g')) 57/\Below w.heap.size w wr)
 case atStart=>
  exact⟨g,by omega,hg,rfl,rfl,rM5,rZ5,rL,b6⟩
 case round=>
  obtain⟨g',hg',hg2,rfl,rfl,r5,r7,rL',hb⟩:=hrel;clear rM5 rZ5 rL b6 rR5 c3 tov;obtain⟨hM,hM0,eq⟩:=HM.out
  cases gk with
  |zero=>
   obtain rfl:q=g':=by omega
   obtain⟨e1,e2⟩:=Ei N M hM0 hM;rw[<-eq]at e1 e2;rw[show zo N M q=0 from e2];rw[e1,J2]at rL';clear e1 e2 hg' hM hM0 hge eq
   go_wp2_with fail
   apply Zi (by kernel_rfl) [(w.heap.size+1+1,57,Zd 0)] [_,_,_,_] ⟨r7,trivial⟩ (by simp<;>omega)
   ·intro p;refine m_m ?_;simp only[pv];refine m_l rL' ?_;refine m_a ?_;simp only[pv];refine XZ 0 57 _ _ rfl rfl rfl (Zd (N%M)) rfl (by exact Zc) (by rw[Zm,Zm]) (Zv _) ?_;simp only[Act.put];refine Zf ?_;intro w1 hkw hrw _ _;have r7':Row w1 (w.heap.size+1+1) (Zd (N%M)) 57:=hrw 0 _ rfl;have hb1:=hb.trans (hkw.below w.heap.size hb.size (by simp<;>omega))
    go_wp2_with fail
    exact QO rfl _ rfl _ rfl r7' 4 _ underlying57 (by exact Zc) rfl ⟨rfl,hb1⟩
   ·kernel_rfl
  |succ j=>
   have hne:zo N M g'≠0:=Ej N M g' hM hg2 (by omega) hM0;have hp:=MQ N M g' hM hg2 (by omega);have tov:=Ex N M g' hM hg2 (by omega);have hcl:=FT (zz N M g') M 256;have hadd:=Vs (zz N M g') M wr;rw[<-hp]at hadd;have HG:Hid (g'=q+(j+1)):=hg';clear hp hg' hM hM0 hge eq;generalize zo N M g'=ov at*;generalize cN (zz N M g') M 256=c at*;have hz: ¬(ov:Int)=0:=by omega
   have hg1:1<=(g':Int):=by have:=HG.out;omega
   clear hne
   go_wp2_with (first
    |refine Zj rfl 57 _ rfl _ rfl rL' 4 _ underlying57 (by exact Zc) ?_
    |refine Zj rfl 57 _ rfl _ rfl r5 4 _ underlying57 (by exact Zc) ?_)
   refine hadd.mono ?_;rintro e w1 ⟨rfl,hb1⟩;have q5:=r5.belowAll hb1;have q7:=r7.belowAll hb1;have qL:=rL'.belowAll hb1;have b1:=Zk hb (Nat.le_refl _) hb1;clear r5 r7 rL' hb hb1 hadd
   go_wp2_with (first
    |refine Zs rfl 57 _ _ rfl _ _ rfl rfl qL (by exact Zc) (by simp only[Zm]) (Zv _) ?_)
   go_roundg j
   case measure=>omega
   case rel=>
    refine⟨g'-1,by have:=HG.out;omega,by omega,by go_num,rfl,q5.setRow_far _ _ (by omega),q7.setRow_far _ _ (by omega),qL.setRow _,Zt b1 (by omega) _⟩
theorem M2 (R l M:Nat)(w:World)(hM:M<2^256)(hM2:2^255<=M)(hRM:R<M)(hl:l<18446744073709551616):
  Calls prog 194 #[.agg (Zd R),.int .u64 l,.agg (Zd M)] w (Rt (.tuple #[.int .u64 ((R*18446744073709551616+l)/M:Nat),.agg (Zd ((R*18446744073709551616+l)%M))]) w):=by
 have hR:R<2^256:=by omega
 have hM0:0<M:=by omega
 have hg:=AK R M;have hsm:=Sq M (gs R M) hM hg;have hlt:gs R M*M<2^256*18446744073709551616:=Nat.lt_of_le_of_lt hsm (by decide);obtain⟨z1,z2⟩:=J3 (R*18446744073709551616+l) (gs R M*M) (Nat.le_of_lt hlt);rw[J1 R l hR hl]at z2;refine Nw R l M (R*18446744073709551616+l) (gs R M) (gs R M*M) _ _ _ w hM hM0 hg rfl (AL R M l hR hM hRM hl) (fun w'=>M1 R M w' hM hM2) (fun w'=>?_) (fun w'=>?_) (FU _ _ _) z2
 ·have:=Rz M (gs R M) 0 w' hM (by decide) hg;rw[Nat.add_zero,Nat.mul_comm]at this;exact this
 ·have:=XH ((R*18446744073709551616+l)%2^256) ((gs R M*M)%2^256) w' (Nat.mod_lt _ (by decide));rw[Yk,Yk,MP R l hl,<-(WA _ _).2 z1]at this;exact this
def yy (N i:Nat):Nat:=N/2^(64*i)
theorem Ey (N k:Nat):yy N k=yy N (k+1)*18446744073709551616+lm N k:=by
 unfold yy lm;rw[Xc,<-Nat.div_div_eq_div_mul,show(2:Nat)^64=18446744073709551616 from rfl];generalize N/2^(64*k)=z;omega
theorem Ez (Q r l M:Nat)(hM:0<M):((M*Q+r)*18446744073709551616+l)/M=Q*18446744073709551616+(r*18446744073709551616+l)/M/\
  ((M*Q+r)*18446744073709551616+l)%M=(r*18446744073709551616+l)%M:=by
 have e:(M*Q+r)*18446744073709551616+l=r*18446744073709551616+l+M*(Q*18446744073709551616):=by
  rw[Nat.add_mul,Nat.mul_assoc];omega
 rw[e,Xw _ _ _ hM,Nat.add_mul_mod_self_left];exact⟨by omega,rfl⟩
theorem EA (N M k:Nat)(hM:0<M):yy N k/M=yy N (k+1)/M*18446744073709551616+(yy N (k+1)%M*18446744073709551616+lm N k)/M/\
  yy N k%M=(yy N (k+1)%M*18446744073709551616+lm N k)%M:=by
 have h:=Ez (yy N (k+1)/M) (yy N (k+1)%M) (lm N k) M hM;rw[Nat.div_add_mod,<-Ey]at h;exact h
theorem AQ (r l M:Nat)(hr:r<M)(hl:l<18446744073709551616):r*18446744073709551616+l<18446744073709551616*M:=by
 have:(r+1)*18446744073709551616<=M*18446744073709551616:=Nat.mul_le_mul_right _ hr;omega
theorem M3 (Q q k:Nat)(hk:k<4)(hq:q<18446744073709551616):(Zd (Q*2^(64*(k+1)))).setIfInBounds k (.int .u64 q)=Zd ((Q*18446744073709551616+q)*2^(64*k)):=by
 have hP:=Nat.two_pow_pos (64*k);have hd1:(Q*18446744073709551616+q)*2^(64*k)/2^(64*k)=Q*18446744073709551616+q:=Nat.mul_div_cancel _ hP;refine WK _ _ _ _ hk ?_ fun i _ hne=>?_
 ·unfold lm;rw[hd1,show(2:Nat)^64=18446744073709551616 from rfl];omega
 ·rcases Nat.lt_or_ge i k with h|h
  ·have e1:=Ro ((Q*18446744073709551616+q)*2^(64*k)) k i;have e2:=Ro (Q*2^(64*(k+1))) k i;rw[if_pos h]at e1 e2;rw[<-e1,<-e2,Nat.mul_mod_left,Xc,Nat.mul_comm (2^(64*k)),<-Nat.mul_assoc,Nat.mul_mod_left]
  ·obtain⟨t,rfl⟩: ∃t,i=k+1+t:=⟨i-(k+1),by omega⟩
   unfold lm
   have e3:2^(64*(k+1+t))=2^(64*(k+1))*2^(64*t):=by rw[<-Nat.pow_add];congr 1;omega
   rw[e3,<-Nat.div_div_eq_div_mul,<-Nat.div_div_eq_div_mul,Nat.mul_div_cancel _ (Nat.two_pow_pos _)]
   rw[show(Q*18446744073709551616+q)*2^(64*k)/2^(64*(k+1))=Q by
    rw[Xc,<-Nat.div_div_eq_div_mul,hd1];omega]
theorem CU (M:Nat)(h0:0<M)(hM:M<2^256):bitLen M<=256/\M*2^(256-bitLen M)<2^256/\2^255<=M*2^(256-bitLen M):=by
 have e:bitLen M=M.log2+1:=by unfold bitLen;rw[if_neg (by omega)]
 have h1:=Nat.log2_self_le (n:=M) (by omega);have h2:M<2^(M.log2+1):=Nat.lt_log2_self;have h3:M.log2<256:=(Nat.log2_lt (by omega)).2 hM;rw[e];refine⟨by omega,?_,?_⟩
 ·have:=Nat.mul_lt_mul_of_pos_right h2 (Nat.two_pow_pos (256-(M.log2+1)));rw[<-Nat.pow_add,show M.log2+1+(256-(M.log2+1))=256 by omega]at this;exact this
 ·have:=Nat.mul_le_mul_right (2^(256-(M.log2+1))) h1;rw[<-Nat.pow_add,show M.log2+(256-(M.log2+1))=255 by omega]at this;exact this
theorem CV (Lo H s:Nat)(hs:s<=256):yy ((H*2^256+Lo)*2^s) 4=H*2^s+Lo/2^(256-s):=by
 unfold yy;rw[show 64*4=256 from rfl,Nat.add_mul,show H*2^256*2^s=2^256*(H*2^s) by rw[Nat.mul_right_comm,Nat.mul_comm],Nat.add_comm,Xw _ _ _ (Nat.two_pow_pos _)]
 have e:(2:Nat)^256=2^(256-s)*2^s:=by rw[<-Nat.pow_add];congr 1;omega
 rw[e,Nat.mul_div_mul_right _ _ (Nat.two_pow_pos s)];omega
theorem CW (Lo H s k:Nat)(hk:k<4):lm ((H*2^256+Lo)*2^s) k=lm (Lo*2^s) k:=by
 rw[<-VP _ k hk,<-VP (Lo*2^s) k hk,Nat.add_mul,show H*2^256*2^s=2^256*(H*2^s) by rw[Nat.mul_right_comm,Nat.mul_comm],Nat.add_comm,Nat.add_mul_mod_self_left]
theorem QU (Lo H M N s bl D:Nat)(w:World)(hs:s<=256)(hM:M*2^s<2^256)(hM2:2^255<=M*2^s)(hH:yy N 4=H*2^s+D)(hR:yy N 4<M*2^s)(hlo: ∀k,k<4->lm (Lo*2^s) k=lm N k)(ts:(256:Int)-(bl:Int)=(s:Int))
  (hlen: ∀w',Calls prog 111 #[.agg (Zd M)] w' (Rt (.int .i64 bl) w'))
  (hup: ∀A w',Calls prog 192 #[.agg (Zd A),.int .i64 s] w' (Rt (.agg (Zd (A*2^s))) w'))
  (hdn: ∀w',Calls prog 193 #[.agg (Zd Lo),.int .i64 (256-(s:Int))] w' (Rt (.agg (Zd D)) w'))
  (hdr: ∀A w',A<2^256->Calls prog 193 #[.agg (Zd A),.int .i64 s] w' (Rt (.agg (Zd (A/2^s))) w')):
  Calls prog 155 #[.agg (Zd Lo),.agg (Zd H),.agg (Zd M)] w fun e w'=>e= .returned (.tuple #[.agg (Zd (N/(M*2^s))),.agg (Zd (N%(M*2^s)/2^s))])/\Below w.heap.size w w':=by
 have HM:Hid (M*2^s<2^256/\2^255<=M*2^s/\yy N 4<M*2^s):=⟨hM,hM2,hR⟩
 have HH:Hid (Zd (H*2^s+D)=Zd (yy N 4)):=by show _=_;rw[hH]
 clear hM hM2 hR hH;have r3:Row (((((w.alloc (.cells (Zd Lo) 57)).alloc (.cells (Zd H) 57)).alloc (.cells (Zd M) 57)).alloc (.cells (Zd 0) 57)).alloc (.cells (Zd 0) 57)) w.heap.size (Zd Lo) 57:=(by repeat(first|(refine Row.here ?_;first|(with_reducible rfl)|(simp;done))|refine Row.alloc ?_ _));have r4:Row (((((w.alloc (.cells (Zd Lo) 57)).alloc (.cells (Zd H) 57)).alloc (.cells (Zd M) 57)).alloc (.cells (Zd 0) 57)).alloc (.cells (Zd 0) 57)) (w.heap.size+1) (Zd H) 57:=(by repeat(first|(refine Row.here ?_;first|(with_reducible rfl)|(simp;done))|refine Row.alloc ?_ _));have r5:Row (((((w.alloc (.cells (Zd Lo) 57)).alloc (.cells (Zd H) 57)).alloc (.cells (Zd M) 57)).alloc (.cells (Zd 0) 57)).alloc (.cells (Zd 0) 57)) (w.heap.size+1+1) (Zd M) 57:=(by repeat(first|(refine Row.here ?_;first|(with_reducible rfl)|(simp;done))|refine Row.alloc ?_ _));have r6:Row (((((w.alloc (.cells (Zd Lo) 57)).alloc (.cells (Zd H) 57)).alloc (.cells (Zd M) 57)).alloc (.cells (Zd 0) 57)).alloc (.cells (Zd 0) 57)) (w.heap.size+1+1+1) (Zd 0) 57:=(by repeat(first|(refine Row.here ?_;first|(with_reducible rfl)|(simp;done))|refine Row.alloc ?_ _));have r7:Row (((((w.alloc (.cells (Zd Lo) 57)).alloc (.cells (Zd H) 57)).alloc (.cells (Zd M) 57)).alloc (.cells (Zd 0) 57)).alloc (.cells (Zd 0) 57)) (w.heap.size+1+1+1+1) (Zd 0) 57:=(by repeat(first|(refine Row.here ?_;first|(with_reducible rfl)|(simp;done))|refine Row.alloc ?_ _));have bW:Below w.heap.size w (((((w.alloc (.cells (Zd Lo) 57)).alloc (.cells (Zd H) 57)).alloc (.cells (Zd M) 57)).alloc (.cells (Zd 0) 57)).alloc (.cells (Zd 0) 57)):=(by repeat(first|exact Below.refl _ _|refine Below.alloc ?_ (by simp<;>omega) _))
 go_enter func155,ntmps155
 go_wp2_with (first
  |refine Zp rfl 57 _ rfl _ rfl ?_
  |refine Zg rfl 57 rfl _ Zo ?_
  |refine Zj rfl 57 _ rfl (w.heap.size+1+1) (by first|rfl|(unfold Act.eval Act.put;simp;done)|(unfold Act.eval;simp;done)) r5 4 _ underlying57 (by exact Zc) ?_)
 refine(hlen _).mono ?_;rintro e w1 ⟨rfl,hb1⟩;have r3a:=r3.belowAll hb1;have r4a:=r4.belowAll hb1;have r5a:=r5.belowAll hb1;have r6a:=r6.belowAll hb1;have r7a:=r7.belowAll hb1;have b1:=Zk bW (Nat.le_refl _) hb1;clear r3 r4 r5 r6 r7 bW hb1 hlen
 go_wp2_with (first
  |refine Zj rfl 57 _ rfl _ rfl r5a 4 _ underlying57 (by exact Zc) ?_)
 refine(hup M _).mono ?_;rintro e w2 ⟨rfl,hb2⟩;have r5b:=r5a.belowAll hb2;have q3:=(r3a.belowAll hb2).setRow_far (w.heap.size+1+1) (Zd (M*2^s)) (by omega);have q4:=(r4a.belowAll hb2).setRow_far (w.heap.size+1+1) (Zd (M*2^s)) (by omega);have q5:=r5b.setRow (Zd (M*2^s));have q6:=(r6a.belowAll hb2).setRow_far (w.heap.size+1+1) (Zd (M*2^s)) (by omega);have q7:=(r7a.belowAll hb2).setRow_far (w.heap.size+1+1) (Zd (M*2^s)) (by omega);have b2:=Zt (Zk b1 (Nat.le_refl _) hb2) (g:=w.heap.size+1+1) (by omega) (Zd (M*2^s));clear r3a r4a r5a r6a r7a b1 hb2
 go_wp2_with (first
  |refine Zs rfl 57 _ _ rfl _ _ rfl rfl r5b (by exact Zc) (by simp only[Zm]) (Zv _) ?_)
 clear r5b;generalize w2.setRow (w.heap.size+1+1) (Zd (M*2^s))=w3 at*;apply Zi (by kernel_rfl) [] [_,_,_,_,_,_,_,_,_,_,_,_,_,_] trivial List.nodup_nil
 ·intro p;refine m_l q4 ?_;refine m_m ?_;simp only[pv];refine m_c 192 func192 #[.agg (Zd H),.int .i64 s] (hup H) ?_;simp only[pv];refine m_l q3 ?_;refine m_m ?_;simp only[pv];refine Ze (.int .i64 (256-(s:Int))) (fun w'=>by go_simp;rw[IntKind.wrap_i64];omega) ?_;simp only[pv];refine m_c 193 func193 #[.agg (Zd Lo),.int .i64 (256-(s:Int))] hdn ?_;simp only[pv];refine m_c 184 func184 #[.agg (Zd (H*2^s)),.agg (Zd D)] (fun w'=>Vs (H*2^s) D w') ?_;refine m_m ?_;refine m_e ?_;refine m_e ?_;simp only[pv];refine m_n ?_;simp only[pv];refine m_p 23 (H*2^s+D) ?_;simp only[Act.put];refine m_a ?_;simp only[pv];refine Zf ?_;intro w4 hkw hrw hnew _;have r9:Row w4 (p 11) (Zd (H*2^s+D)) 57:=hrw 23 _ rfl;have hp:w3.heap.size<=p 11:=hnew 11 rfl;rw[HH.out]at r9;have l7:=q7.lt;clear hrw hnew HH;generalize p 11=q at*;have p3:=hkw.row q3 (by simp);have p5:=hkw.row q5 (by simp);have p6:=hkw.row q6 (by simp);have p7:=hkw.row q7 (by simp);have b4:=b2.trans (hkw.below w.heap.size b2.size (by simp));clear q3 q4 q5 q6 q7 b2 hkw
  go_wp2_with (first
   |refine Zj rfl 57 _ rfl _ rfl p3 4 _ underlying57 (by exact Zc) ?_)
  refine(hup Lo _).mono ?_;rintro e w5 ⟨rfl,hb5⟩;have o3:=p3.belowAll hb5;have lq:=(r9.belowAll hb5).lt;have z3:=((p3.belowAll hb5).setRow (Zd (Lo*2^s))).alloc (.cells (Zd 0) 57);have z5:=((p5.belowAll hb5).setRow_far w.heap.size (Zd (Lo*2^s)) (by omega)).alloc (.cells (Zd 0) 57);have z6:=((p6.belowAll hb5).setRow_far w.heap.size (Zd (Lo*2^s)) (by omega)).alloc (.cells (Zd 0) 57);have z7:=((p7.belowAll hb5).setRow_far w.heap.size (Zd (Lo*2^s)) (by omega)).alloc (.cells (Zd 0) 57);have z9:=((r9.belowAll hb5).setRow_far w.heap.size (Zd (Lo*2^s)) (by omega)).alloc (.cells (Zd 0) 57);have zo:=Row.new (w5.setRow w.heap.size (Zd (Lo*2^s))) (Zd 0) 57;have b5:=Zt (Zk b4 (Nat.le_refl _) hb5) (g:=w.heap.size) (Nat.le_refl _) (Zd (Lo*2^s));have b6:=b5.alloc b5.size (.cells (Zd 0) 57);rw[show(w5.setRow w.heap.size (Zd (Lo*2^s))).heap.size=w5.heap.size by simp]at zo;clear p3 p5 p6 p7 r9 b4 hb5 b5 hup hdn
  go_wp2_with (first
   |refine Zs rfl 57 _ _ rfl _ _ rfl rfl o3 (by exact Zc) (by simp only[Zm]) (Zv _) ?_
   |refine Zg rfl 57 rfl _ Zo ?_)
  clear o3;generalize (w5.setRow w.heap.size (Zd (Lo*2^s))).alloc (.cells (Zd 0) 57)=w6 at*;generalize w5.heap.size=oo at*
  go_loopg [34] 4 (fun g s34 wr=> ∃j:Nat,j+g=4/\s34= .int .i64 j/\Row wr w.heap.size (Zd (Lo*2^s)) 57/\Row wr (w.heap.size+1+1) (Zd (M*2^s)) 57/\Row wr (w.heap.size+1+1+1) (Zd 0) 57/\Row wr (w.heap.size+1+1+1+1) (Zd 0) 57/\
   Row wr q (Zd (yy N g%(M*2^s))) 57/\Row wr oo (Zd (yy N g/(M*2^s)*2^(64*g))) 57/\Below w.heap.size w wr)
  case atStart=>
   refine⟨0,by omega,rfl,z3,z5,z6,z7,?_,?_,b6⟩
   ·rw[Nat.mod_eq_of_lt HM.out.2.2];exact z9
   ·rw[Nat.div_eq_of_lt HM.out.2.2,Nat.zero_mul];exact zo
  case round=>
   obtain⟨j,hj,rfl,r3,r5,r6,r7,r9,ro,hb⟩:=hrel;clear z3 z5 z6 z7 z9 zo b6;obtain⟨hM,hM2,_⟩:=HM.out
   cases gk with
   |zero=>
    obtain rfl:j=4:=by omega
    rw[show yy N 0=N from Nat.div_one N]at r9 ro;rw[show N/(M*2^s)*2^(64*0)=N/(M*2^s)from Nat.mul_one _]at ro;have hlt:N%(M*2^s)<2^256:=Nat.lt_trans (Nat.mod_lt _ (Nat.lt_of_lt_of_le (by decide) hM2)) hM;have hdr':=fun w'=>hdr (N%(M*2^s)) w' hlt
    clear hj HM hM hM2 hlt hdr hlo;have hx: ¬((4:Int)<4):=by omega
    go_wp2_with fail
    apply Zi (by kernel_rfl) [(w.heap.size+1+1+1,57,Zd 0),(w.heap.size+1+1+1+1,57,Zd 0)] [_,_,_,_,_,_] ⟨r6,r7,trivial⟩ (by simp<;>omega)
    ·intro p;refine m_l ro ?_;simp only[pv];refine m_l r9 ?_;refine m_m ?_;simp only[pv];refine m_c 193 func193 #[.agg (Zd (N%(M*2^s))),.int .i64 s] hdr' ?_;simp only[pv];refine m_p 0 (N/(M*2^s)) ?_;simp only[Act.put];refine m_p 2 (N%(M*2^s)/2^s) ?_;simp only[Act.put];refine Zf ?_;intro w7 hkw hrw _ _;have r6':Row w7 (w.heap.size+1+1+1) (Zd (N/(M*2^s))) 57:=hrw 0 _ rfl;have r7':Row w7 (w.heap.size+1+1+1+1) (Zd (N%(M*2^s)/2^s)) 57:=hrw 2 _ rfl;have hb1:=hb.trans (hkw.below w.heap.size hb.size (by simp<;>omega))
     go_wp2_with fail
     exact Rs rfl _ rfl r6' _ rfl r7' 4 _ underlying57 (by exact Zc) (by exact Zc) rfl ⟨rfl,hb1⟩
    ·kernel_rfl
   |succ k=>
    have hlt:(j:Int)<4:=by omega
    have tk:(3:Int)-(j:Int)=(k:Int):=by omega
    have hM0:0<M*2^s:=Nat.lt_of_lt_of_le (by decide) hM2;have hrl:=Nat.mod_lt (yy N (k+1)) hM0;have hlk:=XA N k;have hdl:=fun w'=>M2 (yy N (k+1)%(M*2^s)) (lm N k) (M*2^s) w' hM hM2 hrl hlk
    obtain⟨d1,d2⟩:=EA N (M*2^s) k hM0
    have hql:(yy N (k+1)%(M*2^s)*18446744073709551616+lm N k)/(M*2^s)<18446744073709551616:=by
     rw[Nat.div_lt_iff_lt_mul hM0];exact AQ _ _ _ hrl hlk
    have hqc:=M3 (yy N (k+1)/(M*2^s)) _ k (by omega) hql;rw[<-d1]at hqc;rw[<-d2]at hdl;have hlk':=hlo k (by omega);clear hM hM2 hM0 hrl hlk d1 d2 hql hdr hlo
    go_wp2_with fail
    apply Zi (by kernel_rfl) [(q,57,Zd (yy N (k+1)%(M*2^s))),(oo,57,Zd (yy N (k+1)/(M*2^s)*2^(64*(k+1))))] [_,_,_,_,_,_,_,_,_,_,_,_,_] ⟨r9,ro,trivial⟩ (by simp<;>omega)
    ·intro p;refine m_m ?_;simp only[pv];refine YO 0 57 _ rfl rfl rfl 4 _ underlying57 Zc ?_;refine m_m ?_;simp only[pv];refine Ze _ (Zl 57 _ _ rfl (w.heap.size) rfl (k) 4 rfl (by omega) _ underlying57 sizeOf55) ?_;simp only[pv];refine Zq 55 _ rfl _ (k) rfl r3 (by simp<;>omega) (.int .u64 (lm N k)) (by rw[Yc _ k (by omega),hlk']) isAgg55 ?_;simp only[pv];refine m_l r5 ?_;simp only[pv];refine m_c 194 func194 #[.agg (Zd (yy N (k+1)%(M*2^s))),.int .u64 (lm N k),.agg (Zd (M*2^s))] hdl ?_;refine m_m ?_;refine m_e ?_;refine m_e ?_;simp only[pv];refine Ze _ (Zl 57 _ _ rfl (oo) rfl (k) 4 rfl (by omega) _ underlying57 sizeOf55) ?_;simp only[pv];refine Xn 2 55 _ _ rfl (k) rfl rfl .u64 (_) rfl sizeOf55 (by rw[Zm];omega) (Zd (yy N k/(M*2^s)*2^(64*k))) hqc ?_;simp only[Act.put];refine m_p 0 (yy N k%(M*2^s)) ?_;simp only[Act.put];refine Zf ?_;intro w7 hkw hrw _ _;have r9':Row w7 q (Zd (yy N k%(M*2^s))) 57:=hrw 0 _ rfl;have ro':Row w7 oo (Zd (yy N k/(M*2^s)*2^(64*k))) 57:=hrw 2 _ rfl;have r3':=hkw.row r3 (by simp<;>omega);have r5':=hkw.row r5 (by simp<;>omega);have r6':=hkw.row r6 (by simp<;>omega);have r7':=hkw.row r7 (by simp<;>omega);have hb1:=hb.trans (hkw.below w.heap.size hb.size (by simp<;>omega));clear r3 r5 r6 r7 r9 ro hb hkw hrw hqc hdl;go_wp2
     go_roundg k
     case measure=>omega
     case rel=>exact⟨j+1,by omega,by go_num,r3',r5',r6',r7',r9',ro',hb1⟩
    ·kernel_rfl
 ·kernel_rfl
theorem WO (Lo H M:Nat)(w:World)(hLo:Lo<2^256)(hHM:H<M)(hM:M<2^256):
  Calls prog 155 #[.agg (Zd Lo),.agg (Zd H),.agg (Zd M)] w (Rt (.tuple #[.agg (Zd ((H*2^256+Lo)/M)),.agg (Zd ((H*2^256+Lo)%M))]) w):=by
 obtain⟨n1,n2,n3⟩:=CU M (by omega) hM;have h2:=Nat.two_pow_pos (256-bitLen M);have htop:=CV Lo H (256-bitLen M) (by omega)
 have hlt:yy ((H*2^256+Lo)*2^(256-bitLen M)) 4<M*2^(256-bitLen M):=by
  unfold yy;rw[show 64*4=256 from rfl];refine Nat.div_lt_of_lt_mul ?_;rw[<-Nat.mul_assoc];refine Nat.mul_lt_mul_of_pos_right ?_ h2;have:2^256*(H+1)<=2^256*M:=Nat.mul_le_mul_left _ hHM;omega
 have key:=QU Lo H M ((H*2^256+Lo)*2^(256-bitLen M)) (256-bitLen M) (bitLen M) (Lo/2^(256-(256-bitLen M))) w (by omega) n2 n3 htop hlt (fun k hk=>(CW Lo H _ k hk).symm) (by omega)
  (fun w'=>WM M w' hM) (fun A w'=>by have:=Ev A ((256-bitLen M:Nat):Int) w';rw[Int.toNat_natCast]at this;exact this)
  (fun w'=>by
   have:=RD Lo (256-((256-bitLen M:Nat):Int)) w' hLo;rw[show(256-((256-bitLen M:Nat):Int)).toNat=256-(256-bitLen M) by omega]at this
   exact this)
  (fun A w' hA=>by have:=RD A ((256-bitLen M:Nat):Int) w' hA;rw[Int.toNat_natCast]at this;exact this)
 rw[Nat.mul_div_mul_right _ _ h2,Nat.mul_mod_mul_right,Nat.mul_div_cancel _ h2]at key;exact key
theorem Xf (A M:Nat)(w:World)(hA:A<2^256)(h0:0<M)(hM:M<2^256):
  Calls prog 156 #[.agg (Zd A),.agg (Zd M)] w fun e w'=>e= .returned (.agg (Zd (A%M)))/\Below w.heap.size w w':=by
 have rA:Row (((w.alloc (.cells (Zd A) 57)).alloc (.cells (Zd M) 57)).alloc (.cells (Zd 0) 57)) w.heap.size (Zd A) 57:=(by repeat(first|(refine Row.here ?_;first|(with_reducible rfl)|(simp;done))|refine Row.alloc ?_ _));have rM:Row (((w.alloc (.cells (Zd A) 57)).alloc (.cells (Zd M) 57)).alloc (.cells (Zd 0) 57)) (w.heap.size+1) (Zd M) 57:=(by repeat(first|(refine Row.here ?_;first|(with_reducible rfl)|(simp;done))|refine Row.alloc ?_ _));have rZ:Row (((w.alloc (.cells (Zd A) 57)).alloc (.cells (Zd M) 57)).alloc (.cells (Zd 0) 57)) (w.heap.size+1+1) (Zd 0) 57:=(by repeat(first|(refine Row.here ?_;first|(with_reducible rfl)|(simp;done))|refine Row.alloc ?_ _));have bW:=YS (w:=w) (.cells (Zd A) 57) (.cells (Zd M) 57) (.cells (Zd 0) 57);have hcm:=fun w'=>X0 A M w' hA hM
 have hdi:=fun w'=>WO A 0 M w' hA h0 hM
 rw[Nat.zero_mul,Nat.zero_add]at hdi;by_cases hlt:A<M
 ·have hc:WV A M<0:=by unfold WV;rw[if_pos hlt];decide
  have HV:Hid (A%M=A):=Nat.mod_eq_of_lt hlt;clear hA h0 hM hlt hdi;generalize WV A M=c at*
  go_enter func156,ntmps156
  go_wp2_with (first
   |refine Zp rfl 57 _ rfl _ rfl ?_
   |refine Zg rfl 57 rfl _ Zo ?_
   |refine Zj rfl 57 _ rfl _ rfl rA 4 _ underlying57 (by exact Zc) ?_
   |refine Zj rfl 57 _ rfl (w.heap.size+1) (by first|rfl|(unfold Act.eval Act.put;simp;done)|(unfold Act.eval;simp;done)) rM 4 _ underlying57 (by exact Zc) ?_)
  refine(hcm _).mono ?_;rintro e w2 ⟨rfl,hb2⟩;have qA:=rA.belowAll hb2;have qZ:=rZ.belowAll hb2;have b2:=Zk bW (Nat.le_refl _) hb2;clear rA rM rZ bW hb2 hcm
  go_wp2_with (first
   |refine Zj rfl 57 _ rfl _ rfl qA 4 _ underlying57 (by exact Zc) ?_
   |refine Zs rfl 57 _ _ rfl _ _ rfl rfl qZ (by exact Zc) (by simp only[Zm]) (Zv _) ?_)
  exact ZL rfl _ rfl (qZ.setRow _) 4 _ underlying57 (by exact Zc) rfl ⟨by rw[HV.out],Zt b2 (by omega) _⟩
 ·have hc: ¬WV A M<0:=by unfold WV;rw[if_neg hlt];split<;>decide
  clear hA h0 hM hlt;generalize WV A M=c at*;generalize A/M=dq at*;generalize A%M=dr at*
  go_enter func156,ntmps156
  go_wp2_with (first
   |refine Zp rfl 57 _ rfl _ rfl ?_
   |refine Zg rfl 57 rfl _ Zo ?_
   |refine Zj rfl 57 _ rfl _ rfl rA 4 _ underlying57 (by exact Zc) ?_
   |refine Zj rfl 57 _ rfl (w.heap.size+1) (by first|rfl|(unfold Act.eval Act.put;simp;done)|(unfold Act.eval;simp;done)) rM 4 _ underlying57 (by exact Zc) ?_)
  refine(hcm _).mono ?_;rintro e w2 ⟨rfl,hb2⟩;have qA:=rA.belowAll hb2;have qM:=rM.belowAll hb2;have qZ:=rZ.belowAll hb2;have b2:=Zk bW (Nat.le_refl _) hb2;clear rA rM rZ bW hb2 hcm
  go_wp2_with (first
   |refine Zw rfl 57 rfl _ ZA ?_
   |refine Zj rfl 57 _ rfl _ rfl qA 4 _ underlying57 (by exact Zc) ?_
   |refine Zj rfl 57 _ rfl _ rfl qM 4 _ underlying57 (by exact Zc) ?_)
  refine(hdi _).mono ?_;rintro e w3 ⟨rfl,hb3⟩;have hz:=(qZ.belowAll hb3).lt;have a5:Row ((w3.alloc (.cells (Zd 0) 57)).alloc (.cells (Zd 0) 57)) w3.heap.size (Zd 0) 57:=(by repeat(first|(refine Row.here ?_;first|(with_reducible rfl)|(simp;done))|refine Row.alloc ?_ _));have a6':Row ((w3.alloc (.cells (Zd 0) 57)).alloc (.cells (Zd 0) 57)) (w3.heap.size+1) (Zd 0) 57:=(by repeat(first|(refine Row.here ?_;first|(with_reducible rfl)|(simp;done))|refine Row.alloc ?_ _));have a6:=a6'.setRow_far w3.heap.size (Zd dq) (by omega);have a9:=a6.setRow (Zd dr);have aZ:=((((qZ.belowAll hb3).alloc (.cells (Zd 0) 57)).alloc (.cells (Zd 0) 57)).setRow_far w3.heap.size (Zd dq) (by omega)).setRow_far (w3.heap.size+1) (Zd dr) (by omega);have b3:=Zk b2 (Nat.le_refl _) hb3;have b5:=Zt (Zt ((b3.alloc b3.size (.cells (Zd 0) 57)).alloc (by have:=b3.size;simp;omega) (.cells (Zd 0) 57)) (g:=w3.heap.size) (by omega) (Zd dq)) (g:=w3.heap.size+1) (by omega) (Zd dr);clear qA qM qZ b2 hb3 hdi a6' b3
  go_wp2_with (first
   |refine Zg rfl 57 rfl _ Zo ?_
   |refine Zs rfl 57 _ _ rfl _ _ rfl rfl a5 (by exact Zc) (by simp only[Zm]) (Zv _) ?_
   |refine Zs rfl 57 _ _ rfl (w3.heap.size+1) _ (by first|rfl|(unfold Act.eval Act.put;simp;done)|(unfold Act.eval;simp;done)) rfl a6 (by exact Zc) (by simp only[Zm]) (Zv _) ?_
   |refine Zj rfl 57 _ rfl (w3.heap.size+1) (by first|rfl|(unfold Act.eval Act.put;simp;done)|(unfold Act.eval;simp;done)) a9 4 _ underlying57 (by exact Zc) ?_
   |refine Zs rfl 57 _ _ rfl _ _ rfl rfl aZ (by exact Zc) (by simp only[Zm]) (Zv _) ?_)
  exact ZL rfl _ rfl (aZ.setRow (Zd dr)) 4 _ underlying57 (by exact Zc) rfl ⟨rfl,Zt b5 (by omega) _⟩
def Ri (N M:Nat):Nat:=if M=0 then 0 else N%M
def TR (M:Nat):Int:=if M=0 then 1 else 0
theorem Oe (Lo H M:Nat)(w:World)(hLo:Lo<2^256)(hH:H<2^256)(hM:M<2^256):
  Calls prog 113 #[.agg (Zd Lo),.agg (Zd H),.agg (Zd M)] w fun e w'=>e= .returned (.tuple #[.agg (Zd (Ri (H*2^256+Lo) M)),.int .i64 (TR M)])/\Below w.heap.size w w':=by
 have r3:Row ((((w.alloc (.cells (Zd Lo) 57)).alloc (.cells (Zd H) 57)).alloc (.cells (Zd M) 57)).alloc (.cells (Zd 0) 57)) w.heap.size (Zd Lo) 57:=(by repeat(first|(refine Row.here ?_;first|(with_reducible rfl)|(simp;done))|refine Row.alloc ?_ _));have r4:Row ((((w.alloc (.cells (Zd Lo) 57)).alloc (.cells (Zd H) 57)).alloc (.cells (Zd M) 57)).alloc (.cells (Zd 0) 57)) (w.heap.size+1) (Zd H) 57:=(by repeat(first|(refine Row.here ?_;first|(with_reducible rfl)|(simp;done))|refine Row.alloc ?_ _));have r5:Row ((((w.alloc (.cells (Zd Lo) 57)).alloc (.cells (Zd H) 57)).alloc (.cells (Zd M) 57)).alloc (.cells (Zd 0) 57)) (w.heap.size+1+1) (Zd M) 57:=(by repeat(first|(refine Row.here ?_;first|(with_reducible rfl)|(simp;done))|refine Row.alloc ?_ _));have r6:Row ((((w.alloc (.cells (Zd Lo) 57)).alloc (.cells (Zd H) 57)).alloc (.cells (Zd M) 57)).alloc (.cells (Zd 0) 57)) (w.heap.size+1+1+1) (Zd 0) 57:=(by repeat(first|(refine Row.here ?_;first|(with_reducible rfl)|(simp;done))|refine Row.alloc ?_ _));have bW:Below w.heap.size w ((((w.alloc (.cells (Zd Lo) 57)).alloc (.cells (Zd H) 57)).alloc (.cells (Zd M) 57)).alloc (.cells (Zd 0) 57)):=(by repeat(first|exact Below.refl _ _|refine Below.alloc ?_ (by simp<;>omega) _));by_cases h0:M=0
 ·have HZ:Hid (Ri (H*2^256+Lo) M=0/\TR M=1):=⟨if_pos h0,if_pos h0⟩
  have HV:Hid (decide (M%2^256=0%2^256)=true):=by show _=_;rw[h0];rfl
  clear h0 hLo hH hM
  go_enter func113,ntmps113
  go_wp2_with (first
   |refine Zp rfl 57 _ rfl _ rfl ?_
   |refine Zg rfl 57 rfl _ Zo ?_
   |refine Zw rfl 57 rfl _ ZA ?_
   |refine Zj rfl 57 _ rfl (w.heap.size+1+1) (by first|rfl|(unfold Act.eval Act.put;simp;done)|(unfold Act.eval;simp;done)) r5 4 _ underlying57 (by exact Zc) ?_
   |refine ZG rfl (.bool true) ((ZD _ _ _ rfl M 0 rfl rfl _).trans (by rw[HV.out])) ?_
   |refine Zs rfl 57 _ _ rfl (w.heap.size+1+1+1) _ (by first|rfl|(unfold Act.eval Act.put;simp;done)|(unfold Act.eval;simp;done)) rfl r6 (by exact Zc) (by simp only[Zm]) (Zv _) ?_)
  exact Z2 rfl _ rfl (r6.setRow (Zd 0)) 4 _ underlying57 (by exact Zc) rfl _ rfl ⟨by rw[HZ.out.1,HZ.out.2];rfl,Zt bW (by omega) _⟩
 ·have HZ:Hid (Ri (H*2^256+Lo) M=((H%M)*2^256+Lo)%M/\TR M=0):=by
   refine⟨(if_neg h0).trans ?_,if_neg h0⟩;rw[Nat.add_mod (H%M*2^256),Nat.mul_mod (H%M),Nat.mod_mod,<-Nat.mul_mod,<-Nat.add_mod]
  have HV:Hid (decide (M%2^256=0%2^256)=false):=by
   show _=_
   rw[Nat.mod_eq_of_lt hM];exact decide_eq_false h0
  have hre:=fun w'=>Xf H M w' hH (by omega) hM
  have hdi:=fun w'=>WO Lo (H%M) M w' hLo (Nat.mod_lt _ (by omega)) hM
  rw[HZ.out.1,HZ.out.2];clear h0 hLo hH hM HZ;generalize ((H%M)*2^256+Lo)/M=dq at*;generalize ((H%M)*2^256+Lo)%M=dr at*
  go_enter func113,ntmps113
  go_wp2_with (first
   |refine Zp rfl 57 _ rfl _ rfl ?_
   |refine Zg rfl 57 rfl _ Zo ?_
   |refine Zw rfl 57 rfl _ ZA ?_
   |refine Zj rfl 57 _ rfl (w.heap.size+1+1) (by first|rfl|(unfold Act.eval Act.put;simp;done)|(unfold Act.eval;simp;done)) r5 4 _ underlying57 (by exact Zc) ?_
   |refine ZG rfl (.bool false) ((ZD _ _ _ rfl M 0 rfl rfl _).trans (by rw[HV.out])) ?_)
  generalize (((w.alloc (.cells (Zd Lo) 57)).alloc (.cells (Zd H) 57)).alloc (.cells (Zd M) 57)).alloc (.cells (Zd 0) 57)=w1 at*;apply Zi (by kernel_rfl) [] [_,_,_,_,_,_,_,_,_,_,_,_,_] trivial List.nodup_nil
  ·intro p;refine m_l r3 ?_;simp only[pv];refine m_l r4 ?_;simp only[pv];refine m_l r5 ?_;simp only[pv];refine m_c 156 func156 #[.agg (Zd H),.agg (Zd M)] hre ?_;simp only[pv];refine m_l r5 ?_;simp only[pv];refine m_c 155 func155 #[.agg (Zd Lo),.agg (Zd (H%M)),.agg (Zd M)] hdi ?_;refine m_m ?_;refine m_e ?_;refine m_e ?_;simp only[pv];refine m_n ?_;simp only[pv];refine m_n ?_;simp only[pv];refine m_p 19 dq ?_;simp only[Act.put];refine m_p 21 dr ?_;simp only[Act.put];refine Zf ?_;intro w2 hkw hrw hnew _;have r9:Row w2 (p 10) (Zd dr) 57:=hrw 21 _ rfl;have q6:=hkw.row r6 (by simp);have b2:=bW.trans (hkw.below w.heap.size bW.size (by simp));clear hrw hnew r3 r4 r5 r6 bW;generalize p 10=q at*
   go_wp2_with (first
    |refine Zj rfl 57 _ rfl _ rfl r9 4 _ underlying57 (by exact Zc) ?_
    |refine Zs rfl 57 _ _ rfl _ _ rfl rfl q6 (by exact Zc) (by simp only[Zm]) (Zv _) ?_)
   exact Z2 rfl _ rfl (q6.setRow (Zd dr)) 4 _ underlying57 (by exact Zc) rfl _ rfl ⟨rfl,Zt b2 (by omega) _⟩
  ·kernel_rfl
end Go.Proofs.YtnagnkhbamhfmaaGreatDoor
