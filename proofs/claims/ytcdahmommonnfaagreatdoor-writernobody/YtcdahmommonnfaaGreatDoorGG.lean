import Derived.Test.YtcdahmommonnfaaGreatDoorWDiv64
import Derived.Test.YtcdahmommonnfaaGreatDoorJ0
set_option maxRecDepth 100000
set_option maxHeartbeats 8000000
namespace Go.Proofs.YtcdahmommonnfaaGreatDoor
set_option linter.all false
open Go.Proofs.Tryz
open Go.RowKit
theorem GM (M:Nat)(hM:M<2^256)(hM2:2^255<=M):9223372036854775808<=lm M 3:=by
 rw[WP M hM,Nat.le_div_iff_mul_le (by decide)];exact hM2
theorem NS (R M:Nat)(w:World)(hM:M<2^256)(hM2:2^255<=M):
  Calls prog 210 #[.agg (Zc R),.agg (Zc M)] w fun e w'=>e= .returned (.int .u64 (gs R M:Nat))/\Below w.heap.size w w':=by
 have rR:Row ((w.alloc (.cells (Zc R) 39)).alloc (.cells (Zc M) 39)) w.heap.size (Zc R) 39:=(by repeat(first|(refine Row.here ?_;first|(with_reducible rfl)|(simp;done))|refine Row.alloc ?_ _));have rM:Row ((w.alloc (.cells (Zc R) 39)).alloc (.cells (Zc M) 39)) (w.heap.size+1) (Zc M) 39:=(by repeat(first|(refine Row.here ?_;first|(with_reducible rfl)|(simp;done))|refine Row.alloc ?_ _));have c3:=ZV rR 3 (by omega);have c2:=ZV rR 2 (by omega);have m3:=ZV rM 3 (by omega);have hn:=GM M hM hM2;have h3:=Xz M 3;have h2:=Xz R 2;clear hM hM2 rR rM;by_cases hc:lm M 3<=lm R 3
 ·have hg:Hid (gs R M=18446744073709551615):=by show _=_;unfold gs;rw[if_pos hc]
  have hz:(lm M 3:Int)<=lm R 3:=by omega
  clear hc;generalize lm M 3=y at*;generalize lm R 3=h at*
  go_enter func210,ntmps210
  go_wp2_with (first
   |refine Zr rfl 39 _ rfl _ rfl ?_)
  go_ret;exact⟨by rw[hg.out];rfl,Ye _ _⟩
 ·have hg:Hid (gs R M=(lm R 3*18446744073709551616+lm R 2)/lm M 3):=by show _=_;unfold gs;rw[if_neg hc]
  have hz: ¬(lm M 3:Int)<=lm R 3:=by omega
  have hc:lm R 3<lm M 3:=by omega
  generalize lm M 3=y at*;generalize lm R 3=h at*;generalize lm R 2=l at*
  go_enter func210,ntmps210
  go_wp2_with (first
   |refine Zr rfl 39 _ rfl _ rfl ?_)
  refine(NR h l y _ hc h2 hn h3).mono ?_;rintro e w2 ⟨⟨r,rfl⟩,hb⟩;go_wp2;go_ret;exact⟨by rw[hg.out];rfl,Zk (Ye _ _) (Nat.le_refl _) hb⟩
def zo (N M g:Nat):Nat:=zz N M g/2^256%18446744073709551616
theorem Ja (Z pt b h:Nat)(z2:Z+pt+b=h+18446744073709551616):
  IntKind.u64.wrap (IntKind.u64.wrap ((h:Int)-(pt:Int))-(b:Int))=((Z%18446744073709551616:Nat):Int):=by
 simp only[IntKind.wrap_u64];omega
theorem GN (N M g:Nat)(hM:M<2^256)(hg:g<18446744073709551616)(h0:0<g):IntKind.u64.wrap ((zo N M g:Int)+(cN (zz N M g) M 256:Nat))=(zo N M (g-1):Int):=by
 have ho:=GA (zz N M g) M hM;rw[<-NG N M g hM hg h0]at ho;unfold zo;rw[ho];generalize zz N M g/2^256=z;generalize cN (zz N M g) M 256=c;simp only[IntKind.wrap_u64];omega
theorem Ou (R l M N g pr pt b q:Nat)(w:World)(hM:M<2^256)(hM0:0<M)(hg:g<18446744073709551616)(eq:q=N/M)(hge:q<=g)
  (hgu: ∀w',Calls prog 210 #[.agg (Zc R),.agg (Zc M)] w' (Rt (.int .u64 g) w'))
  (hti: ∀w',Calls prog 179 #[.agg (Zc M),.int .u64 g,.agg (Zc 0)] w' (Rt (.tuple #[.agg (Zc pr),.int .u64 pt]) w'))
  (hsu: ∀w',Calls prog 127 #[.agg #[.int .u64 l,.int .u64 (lm R 0),.int .u64 (lm R 1),.int .u64 (lm R 2)],.agg (Zc pr)] w' (Rt (.tuple #[.agg (Zc (zz N M g)),.int .i64 b]) w'))
  (hbN:b<=1)(z2:zz N M g/2^256+pt+b=lm R 3+18446744073709551616):
  Calls prog 178 #[.agg (Zc R),.int .u64 l,.agg (Zc M)] w fun e w'=>e= .returned (.tuple #[.int .u64 q,.agg (Zc (N%M))])/\Below w.heap.size w w':=by
 have rR:Row (((w.alloc (.cells (Zc R) 39)).alloc (.cells (Zc M) 39)).alloc (.cells (Zc 0) 39)) w.heap.size (Zc R) 39:=(by repeat(first|(refine Row.here ?_;first|(with_reducible rfl)|(simp;done))|refine Row.alloc ?_ _));have rM:Row (((w.alloc (.cells (Zc R) 39)).alloc (.cells (Zc M) 39)).alloc (.cells (Zc 0) 39)) (w.heap.size+1) (Zc M) 39:=(by repeat(first|(refine Row.here ?_;first|(with_reducible rfl)|(simp;done))|refine Row.alloc ?_ _));have rZ:Row (((w.alloc (.cells (Zc R) 39)).alloc (.cells (Zc M) 39)).alloc (.cells (Zc 0) 39)) (w.heap.size+1+1) (Zc 0) 39:=(by repeat(first|(refine Row.here ?_;first|(with_reducible rfl)|(simp;done))|refine Row.alloc ?_ _));have bW:=Y9 (w:=w) (.cells (Zc R) 39) (.cells (Zc M) 39) (.cells (Zc 0) 39);have tov:IntKind.u64.wrap (IntKind.u64.wrap ((lm R 3:Int)-(pt:Int))-(b:Int))=(zo N M g:Int):=Ja _ pt b _ z2;have HM:Hid (M<2^256/\0<M/\q=N/M):=⟨hM,hM0,eq⟩;clear hM hM0 z2 eq
 go_enter func178,ntmps178
 go_wp2_with (first
  |refine Zr rfl 39 _ rfl _ rfl ?_
  |refine Zj rfl 39 rfl _ Zv ?_
  |refine Zh rfl 39 _ rfl _ rfl rR 4 _ underlying39 (by exact Ze) ?_
  |refine Zh rfl 39 _ rfl _ rfl rM 4 _ underlying39 (by exact Ze) ?_)
 refine(hgu _).mono ?_;rintro e w2 ⟨rfl,hb2⟩;have rR2:=rR.belowAll hb2;have rM2:=rM.belowAll hb2;have rZ2:=rZ.belowAll hb2;have b2:=Zk bW (Nat.le_refl _) hb2;clear rR rM rZ bW hb2 hgu
 go_wp2_with (first
  |refine ZL rfl 39 rfl _ ZO ?_
  |refine Zh rfl 39 _ rfl _ rfl rM2 4 _ underlying39 (by exact Ze) ?_)
 refine(hti _).mono ?_;rintro e w3 ⟨rfl,hb3⟩;have rR3:=(rR2.belowAll hb3).alloc (.cells (Zc pr) 39);have rM3:=(rM2.belowAll hb3).alloc (.cells (Zc pr) 39);have rZ3:=(rZ2.belowAll hb3).alloc (.cells (Zc pr) 39);have b3:=Zk b2 (Nat.le_refl _) hb3;have b4:=b3.alloc b3.size (.cells (Zc pr) 39);have rP:=Row.new w3 (Zc pr) 39;have c0:=ZV rR3 0 (by omega);have c1:=ZV rR3 1 (by omega);have c2:=ZV rR3 2 (by omega);clear rR2 rM2 rZ2 b2 hb3 hti b3
 go_wp2_with (first
  |refine Zj rfl 39 rfl _ Zv ?_
  |refine Ym rfl 39 _ _ rfl _ rfl rfl _ _ (by exact Ze) (by simp only[Zt]) (ZA _) ?_
  |refine Zh rfl 39 _ rfl _ rfl rP 4 _ underlying39 (by exact Ze) ?_)
 generalize w3.alloc (.cells (Zc pr) 39)=w4 at*;refine(hsu _).mono ?_;rintro e w5 ⟨rfl,hb5⟩;have rR5:=(rR3.belowAll hb5).alloc (.cells (Zc (zz N M g)) 39);have rM5:=(rM3.belowAll hb5).alloc (.cells (Zc (zz N M g)) 39);have rZ5:=(rZ3.belowAll hb5).alloc (.cells (Zc (zz N M g)) 39);have b5:=Zk b4 (Nat.le_refl _) hb5;have b6:=b5.alloc b5.size (.cells (Zc (zz N M g)) 39);have rL:=Row.new w5 (Zc (zz N M g)) 39;have hL:=(rZ3.belowAll hb5).lt;have c3:=ZV rR5 3 (by omega);clear rR3 rM3 rZ3 b4 hb5 hsu b5 rP c0 c1 c2
 go_wp2_with (first
  |refine Zj rfl 39 rfl _ Zv ?_
  |refine Ym rfl 39 _ _ rfl _ rfl rfl _ _ (by exact Ze) (by simp only[Zt]) (ZA _) ?_)
 generalize w5.alloc (.cells (Zc (zz N M g)) 39)=w6 at*;generalize w5.heap.size=L at*
 go_loopg [8,13] (g-q) (fun j s8 s13 wr=> ∃g':Nat,g'=q+j/\g'<18446744073709551616/\s8= .int .u64 g'/\s13= .int .u64 (zo N M g':Nat)/\Row wr (w.heap.size+1) (Zc M) 39/\Row wr (w.heap.size+1+1) (Zc 0) 39/\
  Row wr L (Zc (zz N M g')) 39/\Below w.heap.size w wr)
 case atStart=>
  exact⟨g,by omega,hg,rfl,rfl,rM5,rZ5,rL,b6⟩
 case round=>
  obtain⟨g',hg',hg2,rfl,rfl,r5,r7,rL',hb⟩:=hrel;clear rM5 rZ5 rL b6 rR5 c3 tov;obtain⟨hM,hM0,eq⟩:=HM.out
  cases gk with
  |zero=>
   obtain rfl:q=g':=by omega
   obtain⟨e1,e2⟩:=Gy N M hM0 hM;rw[<-eq]at e1 e2;rw[show zo N M q=0 from e2];rw[e1,KV]at rL';clear e1 e2 hg' hM hM0 hge eq
   go_wp2_with fail
   apply Zo (by kernel_rfl) [(w.heap.size+1+1,39,Zc 0)] [_,_,_,_] ⟨r7,trivial⟩ (by simp<;>omega)
   ·intro p;refine m_m ?_;simp only[pv];refine m_l rL' ?_;refine m_a ?_;simp only[pv];refine WY 0 39 _ _ rfl rfl rfl (Zc (N%M)) rfl (by exact Ze) (by rw[Zt,Zt]) (ZA _) ?_;simp only[Act.put];refine Zi ?_;intro w1 hkw hrw _ _;have r7':Row w1 (w.heap.size+1+1) (Zc (N%M)) 39:=hrw 0 _ rfl;have hb1:=hb.trans (hkw.below w.heap.size hb.size (by simp<;>omega))
    go_wp2_with fail
    exact RU rfl _ rfl _ rfl r7' 4 _ underlying39 (by exact Ze) rfl ⟨rfl,hb1⟩
   ·kernel_rfl
  |succ j=>
   have hne:zo N M g'≠0:=Gz N M g' hM hg2 (by omega) hM0;have hp:=NG N M g' hM hg2 (by omega);have tov:=GN N M g' hM hg2 (by omega);have hcl:=Ga (zz N M g') M 256;have hadd:=Tw (zz N M g') M wr;rw[<-hp]at hadd;have HG:Hid (g'=q+(j+1)):=hg';clear hp hg' hM hM0 hge eq;generalize zo N M g'=ov at*;generalize cN (zz N M g') M 256=c at*;have hz: ¬(ov:Int)=0:=by omega
   have hg1:1<=(g':Int):=by have:=HG.out;omega
   clear hne
   go_wp2_with (first
    |refine Zh rfl 39 _ rfl _ rfl rL' 4 _ underlying39 (by exact Ze) ?_
    |refine Zh rfl 39 _ rfl _ rfl r5 4 _ underlying39 (by exact Ze) ?_)
   refine hadd.mono ?_;rintro e w1 ⟨rfl,hb1⟩;have q5:=r5.belowAll hb1;have q7:=r7.belowAll hb1;have qL:=rL'.belowAll hb1;have b1:=Zk hb (Nat.le_refl _) hb1;clear r5 r7 rL' hb hb1 hadd
   go_wp2_with (first
    |refine Zw rfl 39 _ _ rfl _ _ rfl rfl qL (by exact Ze) (by simp only[Zt]) (ZA _) ?_)
   go_roundg j
   case measure=>omega
   case rel=>
    refine⟨g'-1,by have:=HG.out;omega,by omega,by go_num,rfl,q5.setRow_far _ _ (by omega),q7.setRow_far _ _ (by omega),qL.setRow _,Zy b1 (by omega) _⟩
theorem NT (R l M:Nat)(w:World)(hM:M<2^256)(hM2:2^255<=M)(hRM:R<M)(hl:l<18446744073709551616):
  Calls prog 178 #[.agg (Zc R),.int .u64 l,.agg (Zc M)] w (Rt (.tuple #[.int .u64 ((R*18446744073709551616+l)/M:Nat),.agg (Zc ((R*18446744073709551616+l)%M))]) w):=by
 have hR:R<2^256:=by omega
 have hM0:0<M:=by omega
 have hg:=C8 R M;have hsm:=TB M (gs R M) hM hg;have hlt:gs R M*M<2^256*18446744073709551616:=Nat.lt_of_le_of_lt hsm (by decide);obtain⟨z1,z2⟩:=KW (R*18446744073709551616+l) (gs R M*M) (Nat.le_of_lt hlt);rw[KU R l hR hl]at z2;refine Ou R l M (R*18446744073709551616+l) (gs R M) (gs R M*M) _ _ _ w hM hM0 hg rfl (C9 R M l hR hM hRM hl) (fun w'=>NS R M w' hM hM2) (fun w'=>?_) (fun w'=>?_) (Gb _ _ _) z2
 ·have:=SH M (gs R M) 0 w' hM (by decide) hg;rw[Nat.add_zero,Nat.mul_comm]at this;exact this
 ·have:=Wk ((R*18446744073709551616+l)%2^256) ((gs R M*M)%2^256) w' (Nat.mod_lt _ (by decide));rw[Yu,Yu,NF R l hl,<-(VF _ _).2 z1]at this;exact this
def yy (N i:Nat):Nat:=N/2^(64*i)
theorem GO (N k:Nat):yy N k=yy N (k+1)*18446744073709551616+lm N k:=by
 unfold yy lm;rw[Y5,<-Nat.div_div_eq_div_mul,show(2:Nat)^64=18446744073709551616 from rfl];generalize N/2^(64*k)=z;omega
theorem GP (Q r l M:Nat)(hM:0<M):((M*Q+r)*18446744073709551616+l)/M=Q*18446744073709551616+(r*18446744073709551616+l)/M/\
  ((M*Q+r)*18446744073709551616+l)%M=(r*18446744073709551616+l)%M:=by
 have e:(M*Q+r)*18446744073709551616+l=r*18446744073709551616+l+M*(Q*18446744073709551616):=by
  rw[Nat.add_mul,Nat.mul_assoc];omega
 rw[e,Xq _ _ _ hM,Nat.add_mul_mod_self_left];exact⟨by omega,rfl⟩
theorem GQ (N M k:Nat)(hM:0<M):yy N k/M=yy N (k+1)/M*18446744073709551616+(yy N (k+1)%M*18446744073709551616+lm N k)/M/\
  yy N k%M=(yy N (k+1)%M*18446744073709551616+lm N k)%M:=by
 have h:=GP (yy N (k+1)/M) (yy N (k+1)%M) (lm N k) M hM;rw[Nat.div_add_mod,<-GO]at h;exact h
theorem Bg (r l M:Nat)(hr:r<M)(hl:l<18446744073709551616):r*18446744073709551616+l<18446744073709551616*M:=by
 have:(r+1)*18446744073709551616<=M*18446744073709551616:=Nat.mul_le_mul_right _ hr;omega
theorem NU (Q q k:Nat)(hk:k<4)(hq:q<18446744073709551616):(Zc (Q*2^(64*(k+1)))).setIfInBounds k (.int .u64 q)=Zc ((Q*18446744073709551616+q)*2^(64*k)):=by
 have hP:=Nat.two_pow_pos (64*k);have hd1:(Q*18446744073709551616+q)*2^(64*k)/2^(64*k)=Q*18446744073709551616+q:=Nat.mul_div_cancel _ hP;refine Vg _ _ _ _ hk ?_ fun i _ hne=>?_
 ·unfold lm;rw[hd1,show(2:Nat)^64=18446744073709551616 from rfl];omega
 ·rcases Nat.lt_or_ge i k with h|h
  ·have e1:=Sx ((Q*18446744073709551616+q)*2^(64*k)) k i;have e2:=Sx (Q*2^(64*(k+1))) k i;rw[if_pos h]at e1 e2;rw[<-e1,<-e2,Nat.mul_mod_left,Y5,Nat.mul_comm (2^(64*k)),<-Nat.mul_assoc,Nat.mul_mod_left]
  ·obtain⟨t,rfl⟩: ∃t,i=k+1+t:=⟨i-(k+1),by omega⟩
   unfold lm
   have e3:2^(64*(k+1+t))=2^(64*(k+1))*2^(64*t):=by rw[<-Nat.pow_add];congr 1;omega
   rw[e3,<-Nat.div_div_eq_div_mul,<-Nat.div_div_eq_div_mul,Nat.mul_div_cancel _ (Nat.two_pow_pos _)]
   rw[show(Q*18446744073709551616+q)*2^(64*k)/2^(64*(k+1))=Q by
    rw[Y5,<-Nat.div_div_eq_div_mul,hd1];omega]
theorem EZ (M:Nat)(h0:0<M)(hM:M<2^256):bitLen M<=256/\M*2^(256-bitLen M)<2^256/\2^255<=M*2^(256-bitLen M):=by
 have e:bitLen M=M.log2+1:=by unfold bitLen;rw[if_neg (by omega)]
 have h1:=Nat.log2_self_le (n:=M) (by omega);have h2:M<2^(M.log2+1):=Nat.lt_log2_self;have h3:M.log2<256:=(Nat.log2_lt (by omega)).2 hM;rw[e];refine⟨by omega,?_,?_⟩
 ·have:=Nat.mul_lt_mul_of_pos_right h2 (Nat.two_pow_pos (256-(M.log2+1)));rw[<-Nat.pow_add,show M.log2+1+(256-(M.log2+1))=256 by omega]at this;exact this
 ·have:=Nat.mul_le_mul_right (2^(256-(M.log2+1))) h1;rw[<-Nat.pow_add,show M.log2+(256-(M.log2+1))=255 by omega]at this;exact this
theorem E0 (Lo H s:Nat)(hs:s<=256):yy ((H*2^256+Lo)*2^s) 4=H*2^s+Lo/2^(256-s):=by
 unfold yy;rw[show 64*4=256 from rfl,Nat.add_mul,show H*2^256*2^s=2^256*(H*2^s) by rw[Nat.mul_right_comm,Nat.mul_comm],Nat.add_comm,Xq _ _ _ (Nat.two_pow_pos _)]
 have e:(2:Nat)^256=2^(256-s)*2^s:=by rw[<-Nat.pow_add];congr 1;omega
 rw[e,Nat.mul_div_mul_right _ _ (Nat.two_pow_pos s)];omega
theorem E1 (Lo H s k:Nat)(hk:k<4):lm ((H*2^256+Lo)*2^s) k=lm (Lo*2^s) k:=by
 rw[<-VA _ k hk,<-VA (Lo*2^s) k hk,Nat.add_mul,show H*2^256*2^s=2^256*(H*2^s) by rw[Nat.mul_right_comm,Nat.mul_comm],Nat.add_comm,Nat.add_mul_mod_self_left]
theorem R1 (Lo H M N s bl D:Nat)(w:World)(hs:s<=256)(hM:M*2^s<2^256)(hM2:2^255<=M*2^s)(hH:yy N 4=H*2^s+D)(hR:yy N 4<M*2^s)(hlo: ∀k,k<4->lm (Lo*2^s) k=lm N k)(ts:(256:Int)-(bl:Int)=(s:Int))
  (hlen: ∀w',Calls prog 82 #[.agg (Zc M)] w' (Rt (.int .i64 bl) w'))
  (hup: ∀A w',Calls prog 175 #[.agg (Zc A),.int .i64 s] w' (Rt (.agg (Zc (A*2^s))) w'))
  (hdn: ∀w',Calls prog 177 #[.agg (Zc Lo),.int .i64 (256-(s:Int))] w' (Rt (.agg (Zc D)) w'))
  (hdr: ∀A w',A<2^256->Calls prog 177 #[.agg (Zc A),.int .i64 s] w' (Rt (.agg (Zc (A/2^s))) w')):
  Calls prog 128 #[.agg (Zc Lo),.agg (Zc H),.agg (Zc M)] w fun e w'=>e= .returned (.tuple #[.agg (Zc (N/(M*2^s))),.agg (Zc (N%(M*2^s)/2^s))])/\Below w.heap.size w w':=by
 have HM:Hid (M*2^s<2^256/\2^255<=M*2^s/\yy N 4<M*2^s):=⟨hM,hM2,hR⟩
 have HH:Hid (Zc (H*2^s+D)=Zc (yy N 4)):=by show _=_;rw[hH]
 clear hM hM2 hR hH;have r3:Row (((((w.alloc (.cells (Zc Lo) 39)).alloc (.cells (Zc H) 39)).alloc (.cells (Zc M) 39)).alloc (.cells (Zc 0) 39)).alloc (.cells (Zc 0) 39)) w.heap.size (Zc Lo) 39:=(by repeat(first|(refine Row.here ?_;first|(with_reducible rfl)|(simp;done))|refine Row.alloc ?_ _));have r4:Row (((((w.alloc (.cells (Zc Lo) 39)).alloc (.cells (Zc H) 39)).alloc (.cells (Zc M) 39)).alloc (.cells (Zc 0) 39)).alloc (.cells (Zc 0) 39)) (w.heap.size+1) (Zc H) 39:=(by repeat(first|(refine Row.here ?_;first|(with_reducible rfl)|(simp;done))|refine Row.alloc ?_ _));have r5:Row (((((w.alloc (.cells (Zc Lo) 39)).alloc (.cells (Zc H) 39)).alloc (.cells (Zc M) 39)).alloc (.cells (Zc 0) 39)).alloc (.cells (Zc 0) 39)) (w.heap.size+1+1) (Zc M) 39:=(by repeat(first|(refine Row.here ?_;first|(with_reducible rfl)|(simp;done))|refine Row.alloc ?_ _));have r6:Row (((((w.alloc (.cells (Zc Lo) 39)).alloc (.cells (Zc H) 39)).alloc (.cells (Zc M) 39)).alloc (.cells (Zc 0) 39)).alloc (.cells (Zc 0) 39)) (w.heap.size+1+1+1) (Zc 0) 39:=(by repeat(first|(refine Row.here ?_;first|(with_reducible rfl)|(simp;done))|refine Row.alloc ?_ _));have r7:Row (((((w.alloc (.cells (Zc Lo) 39)).alloc (.cells (Zc H) 39)).alloc (.cells (Zc M) 39)).alloc (.cells (Zc 0) 39)).alloc (.cells (Zc 0) 39)) (w.heap.size+1+1+1+1) (Zc 0) 39:=(by repeat(first|(refine Row.here ?_;first|(with_reducible rfl)|(simp;done))|refine Row.alloc ?_ _));have bW:Below w.heap.size w (((((w.alloc (.cells (Zc Lo) 39)).alloc (.cells (Zc H) 39)).alloc (.cells (Zc M) 39)).alloc (.cells (Zc 0) 39)).alloc (.cells (Zc 0) 39)):=(by repeat(first|exact Below.refl _ _|refine Below.alloc ?_ (by simp<;>omega) _))
 go_enter func128,ntmps128
 go_wp2_with (first
  |refine Zr rfl 39 _ rfl _ rfl ?_
  |refine Zj rfl 39 rfl _ Zv ?_
  |refine Zh rfl 39 _ rfl (w.heap.size+1+1) (by first|rfl|(unfold Act.eval Act.put;simp;done)|(unfold Act.eval;simp;done)) r5 4 _ underlying39 (by exact Ze) ?_)
 refine(hlen _).mono ?_;rintro e w1 ⟨rfl,hb1⟩;have r3a:=r3.belowAll hb1;have r4a:=r4.belowAll hb1;have r5a:=r5.belowAll hb1;have r6a:=r6.belowAll hb1;have r7a:=r7.belowAll hb1;have b1:=Zk bW (Nat.le_refl _) hb1;clear r3 r4 r5 r6 r7 bW hb1 hlen
 go_wp2_with (first
  |refine Zh rfl 39 _ rfl _ rfl r5a 4 _ underlying39 (by exact Ze) ?_)
 refine(hup M _).mono ?_;rintro e w2 ⟨rfl,hb2⟩;have r5b:=r5a.belowAll hb2;have q3:=(r3a.belowAll hb2).setRow_far (w.heap.size+1+1) (Zc (M*2^s)) (by omega);have q4:=(r4a.belowAll hb2).setRow_far (w.heap.size+1+1) (Zc (M*2^s)) (by omega);have q5:=r5b.setRow (Zc (M*2^s));have q6:=(r6a.belowAll hb2).setRow_far (w.heap.size+1+1) (Zc (M*2^s)) (by omega);have q7:=(r7a.belowAll hb2).setRow_far (w.heap.size+1+1) (Zc (M*2^s)) (by omega);have b2:=Zy (Zk b1 (Nat.le_refl _) hb2) (g:=w.heap.size+1+1) (by omega) (Zc (M*2^s));clear r3a r4a r5a r6a r7a b1 hb2
 go_wp2_with (first
  |refine Zw rfl 39 _ _ rfl _ _ rfl rfl r5b (by exact Ze) (by simp only[Zt]) (ZA _) ?_)
 clear r5b;generalize w2.setRow (w.heap.size+1+1) (Zc (M*2^s))=w3 at*;apply Zo (by kernel_rfl) [] [_,_,_,_,_,_,_,_,_,_,_,_,_,_] trivial List.nodup_nil
 ·intro p;refine m_l q4 ?_;refine m_m ?_;simp only[pv];refine m_c 175 func175 #[.agg (Zc H),.int .i64 s] (hup H) ?_;simp only[pv];refine m_l q3 ?_;refine m_m ?_;simp only[pv];refine Zg (.int .i64 (256-(s:Int))) (fun w'=>by go_simp;rw[IntKind.wrap_i64];omega) ?_;simp only[pv];refine m_c 177 func177 #[.agg (Zc Lo),.int .i64 (256-(s:Int))] hdn ?_;simp only[pv];refine m_c 176 func176 #[.agg (Zc (H*2^s)),.agg (Zc D)] (fun w'=>Tw (H*2^s) D w') ?_;refine m_m ?_;refine m_e ?_;refine m_e ?_;simp only[pv];refine m_n ?_;simp only[pv];refine m_p 23 (H*2^s+D) ?_;simp only[Act.put];refine m_a ?_;simp only[pv];refine Zi ?_;intro w4 hkw hrw hnew _;have r9:Row w4 (p 11) (Zc (H*2^s+D)) 39:=hrw 23 _ rfl;have hp:w3.heap.size<=p 11:=hnew 11 rfl;rw[HH.out]at r9;have l7:=q7.lt;clear hrw hnew HH;generalize p 11=q at*;have p3:=hkw.row q3 (by simp);have p5:=hkw.row q5 (by simp);have p6:=hkw.row q6 (by simp);have p7:=hkw.row q7 (by simp);have b4:=b2.trans (hkw.below w.heap.size b2.size (by simp));clear q3 q4 q5 q6 q7 b2 hkw
  go_wp2_with (first
   |refine Zh rfl 39 _ rfl _ rfl p3 4 _ underlying39 (by exact Ze) ?_)
  refine(hup Lo _).mono ?_;rintro e w5 ⟨rfl,hb5⟩;have o3:=p3.belowAll hb5;have lq:=(r9.belowAll hb5).lt;have z3:=((p3.belowAll hb5).setRow (Zc (Lo*2^s))).alloc (.cells (Zc 0) 39);have z5:=((p5.belowAll hb5).setRow_far w.heap.size (Zc (Lo*2^s)) (by omega)).alloc (.cells (Zc 0) 39);have z6:=((p6.belowAll hb5).setRow_far w.heap.size (Zc (Lo*2^s)) (by omega)).alloc (.cells (Zc 0) 39);have z7:=((p7.belowAll hb5).setRow_far w.heap.size (Zc (Lo*2^s)) (by omega)).alloc (.cells (Zc 0) 39);have z9:=((r9.belowAll hb5).setRow_far w.heap.size (Zc (Lo*2^s)) (by omega)).alloc (.cells (Zc 0) 39);have zo:=Row.new (w5.setRow w.heap.size (Zc (Lo*2^s))) (Zc 0) 39;have b5:=Zy (Zk b4 (Nat.le_refl _) hb5) (g:=w.heap.size) (Nat.le_refl _) (Zc (Lo*2^s));have b6:=b5.alloc b5.size (.cells (Zc 0) 39);rw[show(w5.setRow w.heap.size (Zc (Lo*2^s))).heap.size=w5.heap.size by simp]at zo;clear p3 p5 p6 p7 r9 b4 hb5 b5 hup hdn
  go_wp2_with (first
   |refine Zw rfl 39 _ _ rfl _ _ rfl rfl o3 (by exact Ze) (by simp only[Zt]) (ZA _) ?_
   |refine Zj rfl 39 rfl _ Zv ?_)
  clear o3;generalize (w5.setRow w.heap.size (Zc (Lo*2^s))).alloc (.cells (Zc 0) 39)=w6 at*;generalize w5.heap.size=oo at*
  go_loopg [34] 4 (fun g s34 wr=> ∃j:Nat,j+g=4/\s34= .int .i64 j/\Row wr w.heap.size (Zc (Lo*2^s)) 39/\Row wr (w.heap.size+1+1) (Zc (M*2^s)) 39/\Row wr (w.heap.size+1+1+1) (Zc 0) 39/\Row wr (w.heap.size+1+1+1+1) (Zc 0) 39/\
   Row wr q (Zc (yy N g%(M*2^s))) 39/\Row wr oo (Zc (yy N g/(M*2^s)*2^(64*g))) 39/\Below w.heap.size w wr)
  case atStart=>
   refine⟨0,by omega,rfl,z3,z5,z6,z7,?_,?_,b6⟩
   ·rw[Nat.mod_eq_of_lt HM.out.2.2];exact z9
   ·rw[Nat.div_eq_of_lt HM.out.2.2,Nat.zero_mul];exact zo
  case round=>
   obtain⟨j,hj,rfl,r3,r5,r6,r7,r9,ro,hb⟩:=hrel;clear z3 z5 z6 z7 z9 zo b6;obtain⟨hM,hM2,_⟩:=HM.out
   cases gk with
   |zero=>
    obtain rfl:j=4:=by omega
    rw[show yy N 0=N from Nat.div_one N]at r9 ro;rw[show N/(M*2^s)*2^(64*0)=N/(M*2^s)from Nat.mul_one _]at ro;have hlt:N%(M*2^s)<2^256:=Nat.lt_trans (Nat.mod_lt _ (Nat.lt_of_lt_of_le (by decide) hM2)) hM;have hdr':=fun w'=>hdr (N%(M*2^s)) w' hlt
    clear hj HM hM hM2 hlt hdr hlo;have hx: ¬((4:Int)<4):=by omega
    go_wp2_with fail
    apply Zo (by kernel_rfl) [(w.heap.size+1+1+1,39,Zc 0),(w.heap.size+1+1+1+1,39,Zc 0)] [_,_,_,_,_,_] ⟨r6,r7,trivial⟩ (by simp<;>omega)
    ·intro p;refine m_l ro ?_;simp only[pv];refine m_l r9 ?_;refine m_m ?_;simp only[pv];refine m_c 177 func177 #[.agg (Zc (N%(M*2^s))),.int .i64 s] hdr' ?_;simp only[pv];refine m_p 0 (N/(M*2^s)) ?_;simp only[Act.put];refine m_p 2 (N%(M*2^s)/2^s) ?_;simp only[Act.put];refine Zi ?_;intro w7 hkw hrw _ _;have r6':Row w7 (w.heap.size+1+1+1) (Zc (N/(M*2^s))) 39:=hrw 0 _ rfl;have r7':Row w7 (w.heap.size+1+1+1+1) (Zc (N%(M*2^s)/2^s)) 39:=hrw 2 _ rfl;have hb1:=hb.trans (hkw.below w.heap.size hb.size (by simp<;>omega))
     go_wp2_with fail
     exact SB rfl _ rfl r6' _ rfl r7' 4 _ underlying39 (by exact Ze) (by exact Ze) rfl ⟨rfl,hb1⟩
    ·kernel_rfl
   |succ k=>
    have hlt:(j:Int)<4:=by omega
    have tk:(3:Int)-(j:Int)=(k:Int):=by omega
    have hM0:0<M*2^s:=Nat.lt_of_lt_of_le (by decide) hM2;have hrl:=Nat.mod_lt (yy N (k+1)) hM0;have hlk:=Xz N k;have hdl:=fun w'=>NT (yy N (k+1)%(M*2^s)) (lm N k) (M*2^s) w' hM hM2 hrl hlk
    obtain⟨d1,d2⟩:=GQ N (M*2^s) k hM0
    have hql:(yy N (k+1)%(M*2^s)*18446744073709551616+lm N k)/(M*2^s)<18446744073709551616:=by
     rw[Nat.div_lt_iff_lt_mul hM0];exact Bg _ _ _ hrl hlk
    have hqc:=NU (yy N (k+1)/(M*2^s)) _ k (by omega) hql;rw[<-d1]at hqc;rw[<-d2]at hdl;have hlk':=hlo k (by omega);clear hM hM2 hM0 hrl hlk d1 d2 hql hdr hlo
    go_wp2_with fail
    apply Zo (by kernel_rfl) [(q,39,Zc (yy N (k+1)%(M*2^s))),(oo,39,Zc (yy N (k+1)/(M*2^s)*2^(64*(k+1))))] [_,_,_,_,_,_,_,_,_,_,_,_,_] ⟨r9,ro,trivial⟩ (by simp<;>omega)
    ·intro p;refine m_m ?_;simp only[pv];refine XE 0 39 _ rfl rfl rfl 4 _ underlying39 Ze ?_;refine m_m ?_;simp only[pv];refine Zg _ (Ya 39 _ _ rfl (w.heap.size) rfl (k) 4 rfl (by omega) _ underlying39 sizeOf37) ?_;simp only[pv];refine ZB 37 _ rfl _ (k) rfl r3 (by simp<;>omega) (.int .u64 (lm N k)) (by rw[Yi _ k (by omega),hlk']) isAgg37 ?_;simp only[pv];refine m_l r5 ?_;simp only[pv];refine m_c 178 func178 #[.agg (Zc (yy N (k+1)%(M*2^s))),.int .u64 (lm N k),.agg (Zc (M*2^s))] hdl ?_;refine m_m ?_;refine m_e ?_;refine m_e ?_;simp only[pv];refine Zg _ (Ya 39 _ _ rfl (oo) rfl (k) 4 rfl (by omega) _ underlying39 sizeOf37) ?_;simp only[pv];refine W3 2 37 _ _ rfl (k) rfl rfl .u64 (_) rfl sizeOf37 (by rw[Zt];omega) (Zc (yy N k/(M*2^s)*2^(64*k))) hqc ?_;simp only[Act.put];refine m_p 0 (yy N k%(M*2^s)) ?_;simp only[Act.put];refine Zi ?_;intro w7 hkw hrw _ _;have r9':Row w7 q (Zc (yy N k%(M*2^s))) 39:=hrw 0 _ rfl;have ro':Row w7 oo (Zc (yy N k/(M*2^s)*2^(64*k))) 39:=hrw 2 _ rfl;have r3':=hkw.row r3 (by simp<;>omega);have r5':=hkw.row r5 (by simp<;>omega);have r6':=hkw.row r6 (by simp<;>omega);have r7':=hkw.row r7 (by simp<;>omega);have hb1:=hb.trans (hkw.below w.heap.size hb.size (by simp<;>omega));clear r3 r5 r6 r7 r9 ro hb hkw hrw hqc hdl;go_wp2
     go_roundg k
     case measure=>omega
     case rel=>exact⟨j+1,by omega,by go_num,r3',r5',r6',r7',r9',ro',hb1⟩
    ·kernel_rfl
 ·kernel_rfl
theorem VG (Lo H M:Nat)(w:World)(hLo:Lo<2^256)(hHM:H<M)(hM:M<2^256):
  Calls prog 128 #[.agg (Zc Lo),.agg (Zc H),.agg (Zc M)] w (Rt (.tuple #[.agg (Zc ((H*2^256+Lo)/M)),.agg (Zc ((H*2^256+Lo)%M))]) w):=by
 obtain⟨n1,n2,n3⟩:=EZ M (by omega) hM;have h2:=Nat.two_pow_pos (256-bitLen M);have htop:=E0 Lo H (256-bitLen M) (by omega)
 have hlt:yy ((H*2^256+Lo)*2^(256-bitLen M)) 4<M*2^(256-bitLen M):=by
  unfold yy;rw[show 64*4=256 from rfl];refine Nat.div_lt_of_lt_mul ?_;rw[<-Nat.mul_assoc];refine Nat.mul_lt_mul_of_pos_right ?_ h2;have:2^256*(H+1)<=2^256*M:=Nat.mul_le_mul_left _ hHM;omega
 have key:=R1 Lo H M ((H*2^256+Lo)*2^(256-bitLen M)) (256-bitLen M) (bitLen M) (Lo/2^(256-(256-bitLen M))) w (by omega) n2 n3 htop hlt (fun k hk=>(E1 Lo H _ k hk).symm) (by omega)
  (fun w'=>XW M w' hM) (fun A w'=>by have:=NO A ((256-bitLen M:Nat):Int) w';rw[Int.toNat_natCast]at this;exact this)
  (fun w'=>by
   have:=Ue Lo (256-((256-bitLen M:Nat):Int)) w' hLo;rw[show(256-((256-bitLen M:Nat):Int)).toNat=256-(256-bitLen M) by omega]at this
   exact this)
  (fun A w' hA=>by have:=Ue A ((256-bitLen M:Nat):Int) w' hA;rw[Int.toNat_natCast]at this;exact this)
 rw[Nat.mul_div_mul_right _ _ h2,Nat.mul_mod_mul_right,Nat.mul_div_cancel _ h2]at key;exact key
theorem Wo (A M:Nat)(w:World)(hA:A<2^256)(h0:0<M)(hM:M<2^256):
  Calls prog 129 #[.agg (Zc A),.agg (Zc M)] w fun e w'=>e= .returned (.agg (Zc (A%M)))/\Below w.heap.size w w':=by
 have rA:Row (((w.alloc (.cells (Zc A) 39)).alloc (.cells (Zc M) 39)).alloc (.cells (Zc 0) 39)) w.heap.size (Zc A) 39:=(by repeat(first|(refine Row.here ?_;first|(with_reducible rfl)|(simp;done))|refine Row.alloc ?_ _));have rM:Row (((w.alloc (.cells (Zc A) 39)).alloc (.cells (Zc M) 39)).alloc (.cells (Zc 0) 39)) (w.heap.size+1) (Zc M) 39:=(by repeat(first|(refine Row.here ?_;first|(with_reducible rfl)|(simp;done))|refine Row.alloc ?_ _));have rZ:Row (((w.alloc (.cells (Zc A) 39)).alloc (.cells (Zc M) 39)).alloc (.cells (Zc 0) 39)) (w.heap.size+1+1) (Zc 0) 39:=(by repeat(first|(refine Row.here ?_;first|(with_reducible rfl)|(simp;done))|refine Row.alloc ?_ _));have bW:=Y9 (w:=w) (.cells (Zc A) 39) (.cells (Zc M) 39) (.cells (Zc 0) 39);have hcm:=fun w'=>XF A M w' hA hM
 have hdi:=fun w'=>VG A 0 M w' hA h0 hM
 rw[Nat.zero_mul,Nat.zero_add]at hdi;by_cases hlt:A<M
 ·have hc:WB A M<0:=by unfold WB;rw[if_pos hlt];decide
  have HV:Hid (A%M=A):=Nat.mod_eq_of_lt hlt;clear hA h0 hM hlt hdi;generalize WB A M=c at*
  go_enter func129,ntmps129
  go_wp2_with (first
   |refine Zr rfl 39 _ rfl _ rfl ?_
   |refine Zj rfl 39 rfl _ Zv ?_
   |refine Zh rfl 39 _ rfl _ rfl rA 4 _ underlying39 (by exact Ze) ?_
   |refine Zh rfl 39 _ rfl (w.heap.size+1) (by first|rfl|(unfold Act.eval Act.put;simp;done)|(unfold Act.eval;simp;done)) rM 4 _ underlying39 (by exact Ze) ?_)
  refine(hcm _).mono ?_;rintro e w2 ⟨rfl,hb2⟩;have qA:=rA.belowAll hb2;have qZ:=rZ.belowAll hb2;have b2:=Zk bW (Nat.le_refl _) hb2;clear rA rM rZ bW hb2 hcm
  go_wp2_with (first
   |refine Zh rfl 39 _ rfl _ rfl qA 4 _ underlying39 (by exact Ze) ?_
   |refine Zw rfl 39 _ _ rfl _ _ rfl rfl qZ (by exact Ze) (by simp only[Zt]) (ZA _) ?_)
  exact ZX rfl _ rfl (qZ.setRow _) 4 _ underlying39 (by exact Ze) rfl ⟨by rw[HV.out],Zy b2 (by omega) _⟩
 ·have hc: ¬WB A M<0:=by unfold WB;rw[if_neg hlt];split<;>decide
  clear hA h0 hM hlt;generalize WB A M=c at*;generalize A/M=dq at*;generalize A%M=dr at*
  go_enter func129,ntmps129
  go_wp2_with (first
   |refine Zr rfl 39 _ rfl _ rfl ?_
   |refine Zj rfl 39 rfl _ Zv ?_
   |refine Zh rfl 39 _ rfl _ rfl rA 4 _ underlying39 (by exact Ze) ?_
   |refine Zh rfl 39 _ rfl (w.heap.size+1) (by first|rfl|(unfold Act.eval Act.put;simp;done)|(unfold Act.eval;simp;done)) rM 4 _ underlying39 (by exact Ze) ?_)
  refine(hcm _).mono ?_;rintro e w2 ⟨rfl,hb2⟩;have qA:=rA.belowAll hb2;have qM:=rM.belowAll hb2;have qZ:=rZ.belowAll hb2;have b2:=Zk bW (Nat.le_refl _) hb2;clear rA rM rZ bW hb2 hcm
  go_wp2_with (first
   |refine ZL rfl 39 rfl _ ZO ?_
   |refine Zh rfl 39 _ rfl _ rfl qA 4 _ underlying39 (by exact Ze) ?_
   |refine Zh rfl 39 _ rfl _ rfl qM 4 _ underlying39 (by exact Ze) ?_)
  refine(hdi _).mono ?_;rintro e w3 ⟨rfl,hb3⟩;have hz:=(qZ.belowAll hb3).lt;have a5:Row ((w3.alloc (.cells (Zc 0) 39)).alloc (.cells (Zc 0) 39)) w3.heap.size (Zc 0) 39:=(by repeat(first|(refine Row.here ?_;first|(with_reducible rfl)|(simp;done))|refine Row.alloc ?_ _));have a6':Row ((w3.alloc (.cells (Zc 0) 39)).alloc (.cells (Zc 0) 39)) (w3.heap.size+1) (Zc 0) 39:=(by repeat(first|(refine Row.here ?_;first|(with_reducible rfl)|(simp;done))|refine Row.alloc ?_ _));have a6:=a6'.setRow_far w3.heap.size (Zc dq) (by omega);have a9:=a6.setRow (Zc dr);have aZ:=((((qZ.belowAll hb3).alloc (.cells (Zc 0) 39)).alloc (.cells (Zc 0) 39)).setRow_far w3.heap.size (Zc dq) (by omega)).setRow_far (w3.heap.size+1) (Zc dr) (by omega);have b3:=Zk b2 (Nat.le_refl _) hb3;have b5:=Zy (Zy ((b3.alloc b3.size (.cells (Zc 0) 39)).alloc (by have:=b3.size;simp;omega) (.cells (Zc 0) 39)) (g:=w3.heap.size) (by omega) (Zc dq)) (g:=w3.heap.size+1) (by omega) (Zc dr);clear qA qM qZ b2 hb3 hdi a6' b3
  go_wp2_with (first
   |refine Zj rfl 39 rfl _ Zv ?_
   |refine Zw rfl 39 _ _ rfl _ _ rfl rfl a5 (by exact Ze) (by simp only[Zt]) (ZA _) ?_
   |refine Zw rfl 39 _ _ rfl (w3.heap.size+1) _ (by first|rfl|(unfold Act.eval Act.put;simp;done)|(unfold Act.eval;simp;done)) rfl a6 (by exact Ze) (by simp only[Zt]) (ZA _) ?_
   |refine Zh rfl 39 _ rfl (w3.heap.size+1) (by first|rfl|(unfold Act.eval Act.put;simp;done)|(unfold Act.eval;simp;done)) a9 4 _ underlying39 (by exact Ze) ?_
   |refine Zw rfl 39 _ _ rfl _ _ rfl rfl aZ (by exact Ze) (by simp only[Zt]) (ZA _) ?_)
  exact ZX rfl _ rfl (aZ.setRow (Zc dr)) 4 _ underlying39 (by exact Ze) rfl ⟨rfl,Zy b5 (by omega) _⟩
def So (N M:Nat):Nat:=if M=0 then 0 else N%M
def RJ (M:Nat):Int:=if M=0 then 1 else 0
theorem Pb (Lo H M:Nat)(w:World)(hLo:Lo<2^256)(hH:H<2^256)(hM:M<2^256):
  Calls prog 84 #[.agg (Zc Lo),.agg (Zc H),.agg (Zc M)] w fun e w'=>e= .returned (.tuple #[.agg (Zc (So (H*2^256+Lo) M)),.int .i64 (RJ M)])/\Below w.heap.size w w':=by
 have r3:Row ((((w.alloc (.cells (Zc Lo) 39)).alloc (.cells (Zc H) 39)).alloc (.cells (Zc M) 39)).alloc (.cells (Zc 0) 39)) w.heap.size (Zc Lo) 39:=(by repeat(first|(refine Row.here ?_;first|(with_reducible rfl)|(simp;done))|refine Row.alloc ?_ _));have r4:Row ((((w.alloc (.cells (Zc Lo) 39)).alloc (.cells (Zc H) 39)).alloc (.cells (Zc M) 39)).alloc (.cells (Zc 0) 39)) (w.heap.size+1) (Zc H) 39:=(by repeat(first|(refine Row.here ?_;first|(with_reducible rfl)|(simp;done))|refine Row.alloc ?_ _));have r5:Row ((((w.alloc (.cells (Zc Lo) 39)).alloc (.cells (Zc H) 39)).alloc (.cells (Zc M) 39)).alloc (.cells (Zc 0) 39)) (w.heap.size+1+1) (Zc M) 39:=(by repeat(first|(refine Row.here ?_;first|(with_reducible rfl)|(simp;done))|refine Row.alloc ?_ _));have r6:Row ((((w.alloc (.cells (Zc Lo) 39)).alloc (.cells (Zc H) 39)).alloc (.cells (Zc M) 39)).alloc (.cells (Zc 0) 39)) (w.heap.size+1+1+1) (Zc 0) 39:=(by repeat(first|(refine Row.here ?_;first|(with_reducible rfl)|(simp;done))|refine Row.alloc ?_ _));have bW:Below w.heap.size w ((((w.alloc (.cells (Zc Lo) 39)).alloc (.cells (Zc H) 39)).alloc (.cells (Zc M) 39)).alloc (.cells (Zc 0) 39)):=(by repeat(first|exact Below.refl _ _|refine Below.alloc ?_ (by simp<;>omega) _));by_cases h0:M=0
 ·have HZ:Hid (So (H*2^256+Lo) M=0/\RJ M=1):=⟨if_pos h0,if_pos h0⟩
  have HV:Hid (decide (M%2^256=0%2^256)=true):=by show _=_;rw[h0];rfl
  clear h0 hLo hH hM
  go_enter func84,ntmps84
  go_wp2_with (first
   |refine Zr rfl 39 _ rfl _ rfl ?_
   |refine Zj rfl 39 rfl _ Zv ?_
   |refine ZL rfl 39 rfl _ ZO ?_
   |refine Zh rfl 39 _ rfl (w.heap.size+1+1) (by first|rfl|(unfold Act.eval Act.put;simp;done)|(unfold Act.eval;simp;done)) r5 4 _ underlying39 (by exact Ze) ?_
   |refine ZK rfl (.bool true) ((ZZ _ _ _ rfl M 0 rfl rfl _).trans (by rw[HV.out])) ?_
   |refine Zw rfl 39 _ _ rfl (w.heap.size+1+1+1) _ (by first|rfl|(unfold Act.eval Act.put;simp;done)|(unfold Act.eval;simp;done)) rfl r6 (by exact Ze) (by simp only[Zt]) (ZA _) ?_)
  exact Yl rfl _ rfl (r6.setRow (Zc 0)) 4 _ underlying39 (by exact Ze) rfl _ rfl ⟨by rw[HZ.out.1,HZ.out.2];rfl,Zy bW (by omega) _⟩
 ·have HZ:Hid (So (H*2^256+Lo) M=((H%M)*2^256+Lo)%M/\RJ M=0):=by
   refine⟨(if_neg h0).trans ?_,if_neg h0⟩;rw[Nat.add_mod (H%M*2^256),Nat.mul_mod (H%M),Nat.mod_mod,<-Nat.mul_mod,<-Nat.add_mod]
  have HV:Hid (decide (M%2^256=0%2^256)=false):=by
   show _=_
   rw[Nat.mod_eq_of_lt hM];exact decide_eq_false h0
  have hre:=fun w'=>Wo H M w' hH (by omega) hM
  have hdi:=fun w'=>VG Lo (H%M) M w' hLo (Nat.mod_lt _ (by omega)) hM
  rw[HZ.out.1,HZ.out.2];clear h0 hLo hH hM HZ;generalize ((H%M)*2^256+Lo)/M=dq at*;generalize ((H%M)*2^256+Lo)%M=dr at*
  go_enter func84,ntmps84
  go_wp2_with (first
   |refine Zr rfl 39 _ rfl _ rfl ?_
   |refine Zj rfl 39 rfl _ Zv ?_
   |refine ZL rfl 39 rfl _ ZO ?_
   |refine Zh rfl 39 _ rfl (w.heap.size+1+1) (by first|rfl|(unfold Act.eval Act.put;simp;done)|(unfold Act.eval;simp;done)) r5 4 _ underlying39 (by exact Ze) ?_
   |refine ZK rfl (.bool false) ((ZZ _ _ _ rfl M 0 rfl rfl _).trans (by rw[HV.out])) ?_)
  generalize (((w.alloc (.cells (Zc Lo) 39)).alloc (.cells (Zc H) 39)).alloc (.cells (Zc M) 39)).alloc (.cells (Zc 0) 39)=w1 at*;apply Zo (by kernel_rfl) [] [_,_,_,_,_,_,_,_,_,_,_,_,_] trivial List.nodup_nil
  ·intro p;refine m_l r3 ?_;simp only[pv];refine m_l r4 ?_;simp only[pv];refine m_l r5 ?_;simp only[pv];refine m_c 129 func129 #[.agg (Zc H),.agg (Zc M)] hre ?_;simp only[pv];refine m_l r5 ?_;simp only[pv];refine m_c 128 func128 #[.agg (Zc Lo),.agg (Zc (H%M)),.agg (Zc M)] hdi ?_;refine m_m ?_;refine m_e ?_;refine m_e ?_;simp only[pv];refine m_n ?_;simp only[pv];refine m_n ?_;simp only[pv];refine m_p 19 dq ?_;simp only[Act.put];refine m_p 21 dr ?_;simp only[Act.put];refine Zi ?_;intro w2 hkw hrw hnew _;have r9:Row w2 (p 10) (Zc dr) 39:=hrw 21 _ rfl;have q6:=hkw.row r6 (by simp);have b2:=bW.trans (hkw.below w.heap.size bW.size (by simp));clear hrw hnew r3 r4 r5 r6 bW;generalize p 10=q at*
   go_wp2_with (first
    |refine Zh rfl 39 _ rfl _ rfl r9 4 _ underlying39 (by exact Ze) ?_
    |refine Zw rfl 39 _ _ rfl _ _ rfl rfl q6 (by exact Ze) (by simp only[Zt]) (ZA _) ?_)
   exact Yl rfl _ rfl (q6.setRow (Zc dr)) 4 _ underlying39 (by exact Ze) rfl _ rfl ⟨rfl,Zy b2 (by omega) _⟩
  ·kernel_rfl
end Go.Proofs.YtcdahmommonnfaaGreatDoor
