import Derived.Test.YtnagnkhbamhfmaaGreatDoorWDiv64
import Derived.Test.YtnagnkhbamhfmaaGreatDoorGD
set_option maxRecDepth 100000
set_option maxHeartbeats 8000000
namespace Go.Proofs.YtnagnkhbamhfmaaGreatDoor
set_option linter.all false
open Go.Proofs.Tryz
open Go.RowKit
theorem Ce (M:Nat)(hM:M<2^256)(hM2:2^255<=M):9223372036854775808<=lm M 3:=by
 rw[Vr M hM,cO0 (by decide)];exact hM2
theorem L8 (R M:Nat)(w:World)(hM:M<2^256)(hM2:2^255<=M):
  Calls prog 209 #[.agg (Zc R),.agg (Zc M)] w fun e w'=>e= .returned (.int .u64 (gs R M:Nat))/\Below w.heap.size w w':=by
 have rR:Row ((w.alloc (.cells (Zc R) 57)).alloc (.cells (Zc M) 57)) w.heap.size (Zc R) 57:=(by repeat(first|(refine Row.here ?_;first|(with_reducible rfl)|(simp;done))|refine Row.alloc ?_ _));have rM:Row ((w.alloc (.cells (Zc R) 57)).alloc (.cells (Zc M) 57)) (w.heap.size+1) (Zc M) 57:=(by repeat(first|(refine Row.here ?_;first|(with_reducible rfl)|(simp;done))|refine Row.alloc ?_ _));have c3:=ZV rR 3 (by omega);have c2:=ZV rR 2 (by omega);have m3:=ZV rM 3 (by omega);have hn:=Ce M hM hM2;have h3:=Xj M 3;have h2:=Xj R 2;clear hM hM2 rR rM;by_cases hc:lm M 3<=lm R 3
 ·have hg:Hid (gs R M=18446744073709551615):=by show _=_;unfold gs;rw[j_ hc]
  have hz:(lm M 3:Int)<=lm R 3:=by omega
  clear hc;generalize lm M 3=y at*;generalize lm R 3=h at*
  go_enter func209,ntmps209
  go_wp2_with (first
   |refine Zl rfl 57 _ rfl _ rfl ?_)
  go_ret;exact⟨by rw[hg.out];rfl,Z1 _ _⟩
 ·have hg:Hid (gs R M=(lm R 3*18446744073709551616+lm R 2)/lm M 3):=by show _=_;unfold gs;rw[i_ hc]
  have hz: ¬(lm M 3:Int)<=lm R 3:=by omega
  have hc:lm R 3<lm M 3:=by omega
  generalize lm M 3=y at*;generalize lm R 3=h at*;generalize lm R 2=l at*
  go_enter func209,ntmps209
  go_wp2_with (first
   |refine Zl rfl 57 _ rfl _ rfl ?_)
  refine(L0 h l y _ hc h2 hn h3).mono ?_;rintro e w2 ⟨⟨r,rfl⟩,hb⟩;go_wp2;go_ret;exact⟨by rw[hg.out];rfl,Zk (Z1 _ _) (c_ _) hb⟩
def zo (N M g:Nat):Nat:=zz N M g/2^256%18446744073709551616
theorem Hq (Z pt b h:Nat)(z2:Z+pt+b=h+18446744073709551616):
  IntKind.u64.wrap (IntKind.u64.wrap ((h:Int)-(pt:Int))-(b:Int))=((Z%18446744073709551616:Nat):Int):=by
 simp only[P_];omega
theorem Cf (N M g:Nat)(hM:M<2^256)(hg:g<18446744073709551616)(h0:0<g):IntKind.u64.wrap ((zo N M g:Int)+(cN (zz N M g) M 256:Nat))=(zo N M (g-1):Int):=by
 have ho:=DX (zz N M g) M hM;rw[<-LX N M g hM hg h0]at ho;unfold zo;rw[ho];generalize zz N M g/2^256=z;generalize cN (zz N M g) M 256=c;simp only[P_];omega
theorem Ms (R l M N g pr pt b q:Nat)(w:World)(hM:M<2^256)(hM0:0<M)(hg:g<18446744073709551616)(eq:q=N/M)(hge:q<=g)
  (hgu: ∀w',Calls prog 209 #[.agg (Zc R),.agg (Zc M)] w' (Rt (.int .u64 g) w'))
  (hti: ∀w',Calls prog 195 #[.agg (Zc M),.int .u64 g,.agg (Zc 0)] w' (Rt (.tuple #[.agg (Zc pr),.int .u64 pt]) w'))
  (hsu: ∀w',Calls prog 154 #[.agg #[.int .u64 l,.int .u64 (lm R 0),.int .u64 (lm R 1),.int .u64 (lm R 2)],.agg (Zc pr)] w' (Rt (.tuple #[.agg (Zc (zz N M g)),.int .i64 b]) w'))
  (hbN:b<=1)(z2:zz N M g/2^256+pt+b=lm R 3+18446744073709551616):
  Calls prog 194 #[.agg (Zc R),.int .u64 l,.agg (Zc M)] w fun e w'=>e= .returned (.tuple #[.int .u64 q,.agg (Zc (N%M))])/\Below w.heap.size w w':=by
 have rR:Row (((w.alloc (.cells (Zc R) 57)).alloc (.cells (Zc M) 57)).alloc (.cells (Zc 0) 57)) w.heap.size (Zc R) 57:=(by repeat(first|(refine Row.here ?_;first|(with_reducible rfl)|(simp;done))|refine Row.alloc ?_ _));have rM:Row (((w.alloc (.cells (Zc R) 57)).alloc (.cells (Zc M) 57)).alloc (.cells (Zc 0) 57)) (w.heap.size+1) (Zc M) 57:=(by repeat(first|(refine Row.here ?_;first|(with_reducible rfl)|(simp;done))|refine Row.alloc ?_ _));have rZ:Row (((w.alloc (.cells (Zc R) 57)).alloc (.cells (Zc M) 57)).alloc (.cells (Zc 0) 57)) (w.heap.size+1+1) (Zc 0) 57:=(by repeat(first|(refine Row.here ?_;first|(with_reducible rfl)|(simp;done))|refine Row.alloc ?_ _));have bW:=YD (w:=w) (.cells (Zc R) 57) (.cells (Zc M) 57) (.cells (Zc 0) 57);have tov:IntKind.u64.wrap (IntKind.u64.wrap ((lm R 3:Int)-(pt:Int))-(b:Int))=(zo N M g:Int):=Hq _ pt b _ z2;have HM:Hid (M<2^256/\0<M/\q=N/M):=⟨hM,hM0,eq⟩;clear hM hM0 z2 eq
 go_enter func194,ntmps194
 go_wp2_with (first
  |refine Zl rfl 57 _ rfl _ rfl ?_
  |refine Zg rfl 57 rfl _ Zp ?_
  |refine Zj rfl 57 _ rfl _ rfl rR 4 _ b_ (by exact Zd) ?_
  |refine Zj rfl 57 _ rfl _ rfl rM 4 _ b_ (by exact Zd) ?_)
 refine(hgu _).mono ?_;rintro e w2 ⟨rfl,hb2⟩;have rR2:=rR.belowAll hb2;have rM2:=rM.belowAll hb2;have rZ2:=rZ.belowAll hb2;have b2:=Zk bW (c_ _) hb2;clear rR rM rZ bW hb2 hgu
 go_wp2_with (first
  |refine Zv rfl 57 rfl _ ZA ?_
  |refine Zj rfl 57 _ rfl _ rfl rM2 4 _ b_ (by exact Zd) ?_)
 refine(hti _).mono ?_;rintro e w3 ⟨rfl,hb3⟩;have rR3:=(rR2.belowAll hb3).alloc (.cells (Zc pr) 57);have rM3:=(rM2.belowAll hb3).alloc (.cells (Zc pr) 57);have rZ3:=(rZ2.belowAll hb3).alloc (.cells (Zc pr) 57);have b3:=Zk b2 (c_ _) hb3;have b4:=b3.alloc b3.size (.cells (Zc pr) 57);have rP:=Row.new w3 (Zc pr) 57;have c0:=ZV rR3 0 (by omega);have c1:=ZV rR3 1 (by omega);have c2:=ZV rR3 2 (by omega);clear rR2 rM2 rZ2 b2 hb3 hti b3
 go_wp2_with (first
  |refine Zg rfl 57 rfl _ Zp ?_
  |refine ZL rfl 57 _ _ rfl _ rfl rfl _ _ (by exact Zd) (by simp only[Zo]) (Zu _) ?_
  |refine Zj rfl 57 _ rfl _ rfl rP 4 _ b_ (by exact Zd) ?_)
 generalize w3.alloc (.cells (Zc pr) 57)=w4 at*;refine(hsu _).mono ?_;rintro e w5 ⟨rfl,hb5⟩;have rR5:=(rR3.belowAll hb5).alloc (.cells (Zc (zz N M g)) 57);have rM5:=(rM3.belowAll hb5).alloc (.cells (Zc (zz N M g)) 57);have rZ5:=(rZ3.belowAll hb5).alloc (.cells (Zc (zz N M g)) 57);have b5:=Zk b4 (c_ _) hb5;have b6:=b5.alloc b5.size (.cells (Zc (zz N M g)) 57);have rL:=Row.new w5 (Zc (zz N M g)) 57;have hL:=(rZ3.belowAll hb5).lt;have c3:=ZV rR5 3 (by omega);clear rR3 rM3 rZ3 b4 hb5 hsu b5 rP c0 c1 c2
 go_wp2_with (first
  |refine Zg rfl 57 rfl _ Zp ?_
  |refine ZL rfl 57 _ _ rfl _ rfl rfl _ _ (by exact Zd) (by simp only[Zo]) (Zu _) ?_)
 generalize w5.alloc (.cells (Zc (zz N M g)) 57)=w6 at*;generalize w5.heap.size=L at*
 go_loopg [8,13] (g-q) (fun j s8 s13 wr=> ∃g':Nat,g'=q+j/\g'<18446744073709551616/\s8= .int .u64 g'/\s13= .int .u64 (zo N M g':Nat)/\Row wr (w.heap.size+1) (Zc M) 57/\Row wr (w.heap.size+1+1) (Zc 0) 57/\
  Row wr L (Zc (zz N M g')) 57/\Below w.heap.size w wr)
 case atStart=>
  exact⟨g,by omega,hg,rfl,rfl,rM5,rZ5,rL,b6⟩
 case round=>
  obtain⟨g',hg',hg2,rfl,rfl,r5,r7,rL',hb⟩:=hrel;clear rM5 rZ5 rL b6 rR5 c3 tov;obtain⟨hM,hM0,eq⟩:=HM.out
  cases gk with
  |zero=>
   obtain rfl:q=g':=by omega
   obtain⟨e1,e2⟩:=DU N M hM0 hM;rw[<-eq]at e1 e2;rw[show zo N M q=0 from e2];rw[e1,He]at rL';clear e1 e2 hg' hM hM0 hge eq
   go_wp2_with fail
   apply Zi (by kernel_rfl) [(w.heap.size+1+1,57,Zc 0)] [_,_,_,_] ⟨r7,trivial⟩ (by simp<;>omega)
   ·intro p;refine m_m ?_;simp only[pv];refine m_l rL' ?_;refine m_a ?_;simp only[pv];refine Xc 0 57 _ _ rfl rfl rfl (Zc (N%M)) rfl (by exact Zd) (by rw[Zo,Zo]) (Zu _) ?_;simp only[Act.put];refine Zf ?_;intro w1 hkw hrw _ _;have r7':Row w1 (w.heap.size+1+1) (Zc (N%M)) 57:=hrw 0 _ rfl;have hb1:=hb.trans (hkw.below w.heap.size hb.size (by simp<;>omega))
    go_wp2_with fail
    exact PK rfl _ rfl _ rfl r7' 4 _ b_ (by exact Zd) rfl ⟨rfl,hb1⟩
   ·kernel_rfl
  |succ j=>
   have hne:zo N M g'≠0:=DV N M g' hM hg2 (by omega) hM0;have hp:=LX N M g' hM hg2 (by omega);have tov:=Cf N M g' hM hg2 (by omega);have hcl:=Dv (zz N M g') M 256;have hadd:=Uc (zz N M g') M wr;rw[<-hp]at hadd;have HG:Hid (g'=q+(j+1)):=hg';clear hp hg' hM hM0 hge eq;generalize zo N M g'=ov at*;generalize cN (zz N M g') M 256=c at*;have hz: ¬(ov:Int)=0:=by omega
   have hg1:1<=(g':Int):=by have:=HG.out;omega
   clear hne
   go_wp2_with (first
    |refine Zj rfl 57 _ rfl _ rfl rL' 4 _ b_ (by exact Zd) ?_
    |refine Zj rfl 57 _ rfl _ rfl r5 4 _ b_ (by exact Zd) ?_)
   refine hadd.mono ?_;rintro e w1 ⟨rfl,hb1⟩;have q5:=r5.belowAll hb1;have q7:=r7.belowAll hb1;have qL:=rL'.belowAll hb1;have b1:=Zk hb (c_ _) hb1;clear r5 r7 rL' hb hb1 hadd
   go_wp2_with (first
    |refine Zr rfl 57 _ _ rfl _ _ rfl rfl qL (by exact Zd) (by simp only[Zo]) (Zu _) ?_)
   go_roundg j
   case measure=>omega
   case rel=>
    refine⟨g'-1,by have:=HG.out;omega,by omega,by go_num,rfl,q5.setRow_far _ _ (by omega),q7.setRow_far _ _ (by omega),qL.setRow _,Zq b1 (by omega) _⟩
theorem L9 (R l M:Nat)(w:World)(hM:M<2^256)(hM2:2^255<=M)(hRM:R<M)(hl:l<18446744073709551616):
  Calls prog 194 #[.agg (Zc R),.int .u64 l,.agg (Zc M)] w (Rt (.tuple #[.int .u64 ((R*18446744073709551616+l)/M:Nat),.agg (Zc ((R*18446744073709551616+l)%M))]) w):=by
 have hR:R<2^256:=by omega
 have hM0:0<M:=by omega
 have hg:=yX R M;have hsm:=Rm M (gs R M) hM hg;have hlt:gs R M*M<2^256*18446744073709551616:=T_ hsm (by decide);obtain⟨z1,z2⟩:=Hf (R*18446744073709551616+l) (gs R M*M) (hP0 hlt);rw[Hd R l hR hl]at z2;refine Ms R l M (R*18446744073709551616+l) (gs R M) (gs R M*M) _ _ _ w hM hM0 hg rfl (yY R M l hR hM hRM hl) (fun w'=>L8 R M w' hM hM2) (fun w'=>?_) (fun w'=>?_) (IY _ _ _) z2
 ·have:=Qp M (gs R M) 0 w' hM (by decide) hg;rw[cC0,t_]at this;exact this
 ·have:=XV ((R*18446744073709551616+l)%2^256) ((gs R M*M)%2^256) w' (m_ _ (by decide));rw[Yl,Yl,LW R l hl,<-(W5 _ _).2 z1]at this;exact this
def yy (N i:Nat):Nat:=N/2^(64*i)
theorem Cg (N k:Nat):yy N k=yy N (k+1)*18446744073709551616+lm N k:=by
 unfold yy lm;rw[Xh,<-v_,show(2:Nat)^64=18446744073709551616 from rfl];generalize N/2^(64*k)=z;omega
theorem Ch (Q r l M:Nat)(hM:0<M):((M*Q+r)*18446744073709551616+l)/M=Q*18446744073709551616+(r*18446744073709551616+l)/M/\
  ((M*Q+r)*18446744073709551616+l)%M=(r*18446744073709551616+l)%M:=by
 have e:(M*Q+r)*18446744073709551616+l=r*18446744073709551616+l+M*(Q*18446744073709551616):=by
  rw[aV0,x_];omega
 rw[e,XK _ _ _ hM,G_];exact⟨by omega,rfl⟩
theorem Ci (N M k:Nat)(hM:0<M):yy N k/M=yy N (k+1)/M*18446744073709551616+(yy N (k+1)%M*18446744073709551616+lm N k)/M/\
  yy N k%M=(yy N (k+1)%M*18446744073709551616+lm N k)%M:=by
 have h:=Ch (yy N (k+1)/M) (yy N (k+1)%M) (lm N k) M hM;rw[I_,<-Cg]at h;exact h
theorem y8 (r l M:Nat)(hr:r<M)(hl:l<18446744073709551616):r*18446744073709551616+l<18446744073709551616*M:=by
 have:(r+1)*18446744073709551616<=M*18446744073709551616:=z_ _ hr;omega
theorem Ka (Q q k:Nat)(hk:k<4)(hq:q<18446744073709551616):(Zc (Q*2^(64*(k+1)))).setIfInBounds k (.int .u64 q)=Zc ((Q*18446744073709551616+q)*2^(64*k)):=by
 have hP:=w_ (64*k);have hd1:(Q*18446744073709551616+q)*2^(64*k)/2^(64*k)=Q*18446744073709551616+q:=fY0 _ hP;refine WB _ _ _ _ hk ?_ fun i _ hne=>?_
 ·unfold lm;rw[hd1,show(2:Nat)^64=18446744073709551616 from rfl];omega
 ·rcases aC0 i k with h|h
  ·have e1:=Qi ((Q*18446744073709551616+q)*2^(64*k)) k i;have e2:=Qi (Q*2^(64*(k+1))) k i;rw[j_ h]at e1 e2;rw[<-e1,<-e2,fP0,Xh,t_ (2^(64*k)),<-x_,fP0]
  ·obtain⟨t,rfl⟩: ∃t,i=k+1+t:=⟨i-(k+1),by omega⟩
   unfold lm
   have e3:2^(64*(k+1+t))=2^(64*(k+1))*2^(64*t):=by rw[<-Z_];congr 1;omega
   rw[e3,<-v_,<-v_,fY0 _ (w_ _)]
   rw[show(Q*18446744073709551616+q)*2^(64*k)/2^(64*(k+1))=Q by
    rw[Xh,<-v_,hd1];omega]
theorem AU (M:Nat)(h0:0<M)(hM:M<2^256):bitLen M<=256/\M*2^(256-bitLen M)<2^256/\2^255<=M*2^(256-bitLen M):=by
 have e:bitLen M=M.log2+1:=by unfold bitLen;rw[i_ (by omega)]
 have h1:=Nat.log2_self_le (n:=M) (by omega);have h2:M<2^(M.log2+1):=Nat.lt_log2_self;have h3:M.log2<256:=(hB0 (by omega)).2 hM;rw[e];refine⟨by omega,?_,?_⟩
 ·have:=fC0 h2 (w_ (256-(M.log2+1)));rw[<-Z_,show M.log2+1+(256-(M.log2+1))=256 by omega]at this;exact this
 ·have:=z_ (2^(256-(M.log2+1))) h1;rw[<-Z_,show M.log2+(256-(M.log2+1))=255 by omega]at this;exact this
theorem AV (Lo H s:Nat)(hs:s<=256):yy ((H*2^256+Lo)*2^s) 4=H*2^s+Lo/2^(256-s):=by
 unfold yy;rw[show 64*4=256 from rfl,aV0,show H*2^256*2^s=2^256*(H*2^s) by rw[fV0,t_],bM0,XK _ _ _ (w_ _)]
 have e:(2:Nat)^256=2^(256-s)*2^s:=by rw[<-Z_];congr 1;omega
 rw[e,gR0 _ _ (w_ s)];omega
theorem AW (Lo H s k:Nat)(hk:k<4):lm ((H*2^256+Lo)*2^s) k=lm (Lo*2^s) k:=by
 rw[<-Ux _ k hk,<-Ux (Lo*2^s) k hk,aV0,show H*2^256*2^s=2^256*(H*2^s) by rw[fV0,t_],bM0,G_]
theorem PV (Lo H M N s bl D:Nat)(w:World)(hs:s<=256)(hM:M*2^s<2^256)(hM2:2^255<=M*2^s)(hH:yy N 4=H*2^s+D)(hR:yy N 4<M*2^s)(hlo: ∀k,k<4->lm (Lo*2^s) k=lm N k)(ts:(256:Int)-(bl:Int)=(s:Int))
  (hlen: ∀w',Calls prog 111 #[.agg (Zc M)] w' (Rt (.int .i64 bl) w'))
  (hup: ∀A w',Calls prog 192 #[.agg (Zc A),.int .i64 s] w' (Rt (.agg (Zc (A*2^s))) w'))
  (hdn: ∀w',Calls prog 193 #[.agg (Zc Lo),.int .i64 (256-(s:Int))] w' (Rt (.agg (Zc D)) w'))
  (hdr: ∀A w',A<2^256->Calls prog 193 #[.agg (Zc A),.int .i64 s] w' (Rt (.agg (Zc (A/2^s))) w')):
  Calls prog 155 #[.agg (Zc Lo),.agg (Zc H),.agg (Zc M)] w fun e w'=>e= .returned (.tuple #[.agg (Zc (N/(M*2^s))),.agg (Zc (N%(M*2^s)/2^s))])/\Below w.heap.size w w':=by
 have HM:Hid (M*2^s<2^256/\2^255<=M*2^s/\yy N 4<M*2^s):=⟨hM,hM2,hR⟩
 have HH:Hid (Zc (H*2^s+D)=Zc (yy N 4)):=by show _=_;rw[hH]
 clear hM hM2 hR hH;have r3:Row (((((w.alloc (.cells (Zc Lo) 57)).alloc (.cells (Zc H) 57)).alloc (.cells (Zc M) 57)).alloc (.cells (Zc 0) 57)).alloc (.cells (Zc 0) 57)) w.heap.size (Zc Lo) 57:=(by repeat(first|(refine Row.here ?_;first|(with_reducible rfl)|(simp;done))|refine Row.alloc ?_ _));have r4:Row (((((w.alloc (.cells (Zc Lo) 57)).alloc (.cells (Zc H) 57)).alloc (.cells (Zc M) 57)).alloc (.cells (Zc 0) 57)).alloc (.cells (Zc 0) 57)) (w.heap.size+1) (Zc H) 57:=(by repeat(first|(refine Row.here ?_;first|(with_reducible rfl)|(simp;done))|refine Row.alloc ?_ _));have r5:Row (((((w.alloc (.cells (Zc Lo) 57)).alloc (.cells (Zc H) 57)).alloc (.cells (Zc M) 57)).alloc (.cells (Zc 0) 57)).alloc (.cells (Zc 0) 57)) (w.heap.size+1+1) (Zc M) 57:=(by repeat(first|(refine Row.here ?_;first|(with_reducible rfl)|(simp;done))|refine Row.alloc ?_ _));have r6:Row (((((w.alloc (.cells (Zc Lo) 57)).alloc (.cells (Zc H) 57)).alloc (.cells (Zc M) 57)).alloc (.cells (Zc 0) 57)).alloc (.cells (Zc 0) 57)) (w.heap.size+1+1+1) (Zc 0) 57:=(by repeat(first|(refine Row.here ?_;first|(with_reducible rfl)|(simp;done))|refine Row.alloc ?_ _));have r7:Row (((((w.alloc (.cells (Zc Lo) 57)).alloc (.cells (Zc H) 57)).alloc (.cells (Zc M) 57)).alloc (.cells (Zc 0) 57)).alloc (.cells (Zc 0) 57)) (w.heap.size+1+1+1+1) (Zc 0) 57:=(by repeat(first|(refine Row.here ?_;first|(with_reducible rfl)|(simp;done))|refine Row.alloc ?_ _));have bW:Below w.heap.size w (((((w.alloc (.cells (Zc Lo) 57)).alloc (.cells (Zc H) 57)).alloc (.cells (Zc M) 57)).alloc (.cells (Zc 0) 57)).alloc (.cells (Zc 0) 57)):=(by repeat(first|exact H_ _ _|refine dN0 ?_ (by simp<;>omega) _))
 go_enter func155,ntmps155
 go_wp2_with (first
  |refine Zl rfl 57 _ rfl _ rfl ?_
  |refine Zg rfl 57 rfl _ Zp ?_
  |refine Zj rfl 57 _ rfl (w.heap.size+1+1) (by first|rfl|(unfold Act.eval Act.put;simp;done)|(unfold Act.eval;simp;done)) r5 4 _ b_ (by exact Zd) ?_)
 refine(hlen _).mono ?_;rintro e w1 ⟨rfl,hb1⟩;have r3a:=r3.belowAll hb1;have r4a:=r4.belowAll hb1;have r5a:=r5.belowAll hb1;have r6a:=r6.belowAll hb1;have r7a:=r7.belowAll hb1;have b1:=Zk bW (c_ _) hb1;clear r3 r4 r5 r6 r7 bW hb1 hlen
 go_wp2_with (first
  |refine Zj rfl 57 _ rfl _ rfl r5a 4 _ b_ (by exact Zd) ?_)
 refine(hup M _).mono ?_;rintro e w2 ⟨rfl,hb2⟩;have r5b:=r5a.belowAll hb2;have q3:=(r3a.belowAll hb2).setRow_far (w.heap.size+1+1) (Zc (M*2^s)) (by omega);have q4:=(r4a.belowAll hb2).setRow_far (w.heap.size+1+1) (Zc (M*2^s)) (by omega);have q5:=r5b.setRow (Zc (M*2^s));have q6:=(r6a.belowAll hb2).setRow_far (w.heap.size+1+1) (Zc (M*2^s)) (by omega);have q7:=(r7a.belowAll hb2).setRow_far (w.heap.size+1+1) (Zc (M*2^s)) (by omega);have b2:=Zq (Zk b1 (c_ _) hb2) (g:=w.heap.size+1+1) (by omega) (Zc (M*2^s));clear r3a r4a r5a r6a r7a b1 hb2
 go_wp2_with (first
  |refine Zr rfl 57 _ _ rfl _ _ rfl rfl r5b (by exact Zd) (by simp only[Zo]) (Zu _) ?_)
 clear r5b;generalize w2.setRow (w.heap.size+1+1) (Zc (M*2^s))=w3 at*;apply Zi (by kernel_rfl) [] [_,_,_,_,_,_,_,_,_,_,_,_,_,_] trivial a_
 ·intro p;refine m_l q4 ?_;refine m_m ?_;simp only[pv];refine m_c 192 func192 #[.agg (Zc H),.int .i64 s] (hup H) ?_;simp only[pv];refine m_l q3 ?_;refine m_m ?_;simp only[pv];refine Ze (.int .i64 (256-(s:Int))) (fun w'=>by go_simp;rw[J_];omega) ?_;simp only[pv];refine m_c 193 func193 #[.agg (Zc Lo),.int .i64 (256-(s:Int))] hdn ?_;simp only[pv];refine m_c 184 func184 #[.agg (Zc (H*2^s)),.agg (Zc D)] (fun w'=>Uc (H*2^s) D w') ?_;refine m_m ?_;refine m_e ?_;refine m_e ?_;simp only[pv];refine m_n ?_;simp only[pv];refine m_p 23 (H*2^s+D) ?_;simp only[Act.put];refine m_a ?_;simp only[pv];refine Zf ?_;intro w4 hkw hrw hnew _;have r9:Row w4 (p 11) (Zc (H*2^s+D)) 57:=hrw 23 _ rfl;have hp:w3.heap.size<=p 11:=hnew 11 rfl;rw[HH.out]at r9;have l7:=q7.lt;clear hrw hnew HH;generalize p 11=q at*;have p3:=hkw.row q3 (by simp);have p5:=hkw.row q5 (by simp);have p6:=hkw.row q6 (by simp);have p7:=hkw.row q7 (by simp);have b4:=b2.trans (hkw.below w.heap.size b2.size (by simp));clear q3 q4 q5 q6 q7 b2 hkw
  go_wp2_with (first
   |refine Zj rfl 57 _ rfl _ rfl p3 4 _ b_ (by exact Zd) ?_)
  refine(hup Lo _).mono ?_;rintro e w5 ⟨rfl,hb5⟩;have o3:=p3.belowAll hb5;have lq:=(r9.belowAll hb5).lt;have z3:=((p3.belowAll hb5).setRow (Zc (Lo*2^s))).alloc (.cells (Zc 0) 57);have z5:=((p5.belowAll hb5).setRow_far w.heap.size (Zc (Lo*2^s)) (by omega)).alloc (.cells (Zc 0) 57);have z6:=((p6.belowAll hb5).setRow_far w.heap.size (Zc (Lo*2^s)) (by omega)).alloc (.cells (Zc 0) 57);have z7:=((p7.belowAll hb5).setRow_far w.heap.size (Zc (Lo*2^s)) (by omega)).alloc (.cells (Zc 0) 57);have z9:=((r9.belowAll hb5).setRow_far w.heap.size (Zc (Lo*2^s)) (by omega)).alloc (.cells (Zc 0) 57);have zo:=Row.new (w5.setRow w.heap.size (Zc (Lo*2^s))) (Zc 0) 57;have b5:=Zq (Zk b4 (c_ _) hb5) (g:=w.heap.size) (c_ _) (Zc (Lo*2^s));have b6:=b5.alloc b5.size (.cells (Zc 0) 57);rw[show(w5.setRow w.heap.size (Zc (Lo*2^s))).heap.size=w5.heap.size by simp]at zo;clear p3 p5 p6 p7 r9 b4 hb5 b5 hup hdn
  go_wp2_with (first
   |refine Zr rfl 57 _ _ rfl _ _ rfl rfl o3 (by exact Zd) (by simp only[Zo]) (Zu _) ?_
   |refine Zg rfl 57 rfl _ Zp ?_)
  clear o3;generalize (w5.setRow w.heap.size (Zc (Lo*2^s))).alloc (.cells (Zc 0) 57)=w6 at*;generalize w5.heap.size=oo at*
  go_loopg [34] 4 (fun g s34 wr=> ∃j:Nat,j+g=4/\s34= .int .i64 j/\Row wr w.heap.size (Zc (Lo*2^s)) 57/\Row wr (w.heap.size+1+1) (Zc (M*2^s)) 57/\Row wr (w.heap.size+1+1+1) (Zc 0) 57/\Row wr (w.heap.size+1+1+1+1) (Zc 0) 57/\
   Row wr q (Zc (yy N g%(M*2^s))) 57/\Row wr oo (Zc (yy N g/(M*2^s)*2^(64*g))) 57/\Below w.heap.size w wr)
  case atStart=>
   refine⟨0,by omega,rfl,z3,z5,z6,z7,?_,?_,b6⟩
   ·rw[g_ HM.out.2.2];exact z9
   ·rw[F_ HM.out.2.2,cD0];exact zo
  case round=>
   obtain⟨j,hj,rfl,r3,r5,r6,r7,r9,ro,hb⟩:=hrel;clear z3 z5 z6 z7 z9 zo b6;obtain⟨hM,hM2,_⟩:=HM.out
   cases gk with
   |zero=>
    obtain rfl:j=4:=by omega
    rw[show yy N 0=N from bR0 N]at r9 ro;rw[show N/(M*2^s)*2^(64*0)=N/(M*2^s)from M_ _]at ro;have hlt:N%(M*2^s)<2^256:=E_ (m_ _ (l_ (by decide) hM2)) hM;have hdr':=fun w'=>hdr (N%(M*2^s)) w' hlt
    clear hj HM hM hM2 hlt hdr hlo;have hx: ¬((4:Int)<4):=by omega
    go_wp2_with fail
    apply Zi (by kernel_rfl) [(w.heap.size+1+1+1,57,Zc 0),(w.heap.size+1+1+1+1,57,Zc 0)] [_,_,_,_,_,_] ⟨r6,r7,trivial⟩ (by simp<;>omega)
    ·intro p;refine m_l ro ?_;simp only[pv];refine m_l r9 ?_;refine m_m ?_;simp only[pv];refine m_c 193 func193 #[.agg (Zc (N%(M*2^s))),.int .i64 s] hdr' ?_;simp only[pv];refine m_p 0 (N/(M*2^s)) ?_;simp only[Act.put];refine m_p 2 (N%(M*2^s)/2^s) ?_;simp only[Act.put];refine Zf ?_;intro w7 hkw hrw _ _;have r6':Row w7 (w.heap.size+1+1+1) (Zc (N/(M*2^s))) 57:=hrw 0 _ rfl;have r7':Row w7 (w.heap.size+1+1+1+1) (Zc (N%(M*2^s)/2^s)) 57:=hrw 2 _ rfl;have hb1:=hb.trans (hkw.below w.heap.size hb.size (by simp<;>omega))
     go_wp2_with fail
     exact Ua rfl _ rfl r6' _ rfl r7' 4 _ b_ (by exact Zd) (by exact Zd) rfl ⟨rfl,hb1⟩
    ·kernel_rfl
   |succ k=>
    have hlt:(j:Int)<4:=by omega
    have tk:(3:Int)-(j:Int)=(k:Int):=by omega
    have hM0:0<M*2^s:=l_ (by decide) hM2;have hrl:=m_ (yy N (k+1)) hM0;have hlk:=Xj N k;have hdl:=fun w'=>L9 (yy N (k+1)%(M*2^s)) (lm N k) (M*2^s) w' hM hM2 hrl hlk
    obtain⟨d1,d2⟩:=Ci N (M*2^s) k hM0
    have hql:(yy N (k+1)%(M*2^s)*18446744073709551616+lm N k)/(M*2^s)<18446744073709551616:=by
     rw[aX0 hM0];exact y8 _ _ _ hrl hlk
    have hqc:=Ka (yy N (k+1)/(M*2^s)) _ k (by omega) hql;rw[<-d1]at hqc;rw[<-d2]at hdl;have hlk':=hlo k (by omega);clear hM hM2 hM0 hrl hlk d1 d2 hql hdr hlo
    go_wp2_with fail
    apply Zi (by kernel_rfl) [(q,57,Zc (yy N (k+1)%(M*2^s))),(oo,57,Zc (yy N (k+1)/(M*2^s)*2^(64*(k+1))))] [_,_,_,_,_,_,_,_,_,_,_,_,_] ⟨r9,ro,trivial⟩ (by simp<;>omega)
    ·intro p;refine m_m ?_;simp only[pv];refine Yz 0 57 _ rfl rfl rfl 4 _ b_ Zd ?_;refine m_m ?_;simp only[pv];refine Ze _ (Zt 57 _ _ rfl (w.heap.size) rfl (k) 4 rfl (by omega) _ b_ cA0) ?_;simp only[pv];refine Zs 55 _ rfl _ (k) rfl r3 (by simp<;>omega) (.int .u64 (lm N k)) (by rw[Yh _ k (by omega),hlk']) eG0 ?_;simp only[pv];refine m_l r5 ?_;simp only[pv];refine m_c 194 func194 #[.agg (Zc (yy N (k+1)%(M*2^s))),.int .u64 (lm N k),.agg (Zc (M*2^s))] hdl ?_;refine m_m ?_;refine m_e ?_;refine m_e ?_;simp only[pv];refine Ze _ (Zt 57 _ _ rfl (oo) rfl (k) 4 rfl (by omega) _ b_ cA0) ?_;simp only[pv];refine Xk 2 55 _ _ rfl (k) rfl rfl .u64 (_) rfl cA0 (by rw[Zo];omega) (Zc (yy N k/(M*2^s)*2^(64*k))) hqc ?_;simp only[Act.put];refine m_p 0 (yy N k%(M*2^s)) ?_;simp only[Act.put];refine Zf ?_;intro w7 hkw hrw _ _;have r9':Row w7 q (Zc (yy N k%(M*2^s))) 57:=hrw 0 _ rfl;have ro':Row w7 oo (Zc (yy N k/(M*2^s)*2^(64*k))) 57:=hrw 2 _ rfl;have r3':=hkw.row r3 (by simp<;>omega);have r5':=hkw.row r5 (by simp<;>omega);have r6':=hkw.row r6 (by simp<;>omega);have r7':=hkw.row r7 (by simp<;>omega);have hb1:=hb.trans (hkw.below w.heap.size hb.size (by simp<;>omega));clear r3 r5 r6 r7 r9 ro hb hkw hrw hqc hdl;go_wp2
     go_roundg k
     case measure=>omega
     case rel=>exact⟨j+1,by omega,by go_num,r3',r5',r6',r7',r9',ro',hb1⟩
    ·kernel_rfl
 ·kernel_rfl
theorem Vs (Lo H M:Nat)(w:World)(hLo:Lo<2^256)(hHM:H<M)(hM:M<2^256):
  Calls prog 155 #[.agg (Zc Lo),.agg (Zc H),.agg (Zc M)] w (Rt (.tuple #[.agg (Zc ((H*2^256+Lo)/M)),.agg (Zc ((H*2^256+Lo)%M))]) w):=by
 obtain⟨n1,n2,n3⟩:=AU M (by omega) hM;have h2:=w_ (256-bitLen M);have htop:=AV Lo H (256-bitLen M) (by omega)
 have hlt:yy ((H*2^256+Lo)*2^(256-bitLen M)) 4<M*2^(256-bitLen M):=by
  unfold yy;rw[show 64*4=256 from rfl];refine aE0 ?_;rw[<-x_];refine fC0 ?_ h2;have:2^256*(H+1)<=2^256*M:=R_ _ hHM;omega
 have key:=PV Lo H M ((H*2^256+Lo)*2^(256-bitLen M)) (256-bitLen M) (bitLen M) (Lo/2^(256-(256-bitLen M))) w (by omega) n2 n3 htop hlt (fun k hk=>(AW Lo H _ k hk).symm) (by omega)
  (fun w'=>Vq M w' hM) (fun A w'=>by have:=Cd A ((256-bitLen M:Nat):Int) w';rw[q_]at this;exact this)
  (fun w'=>by
   have:=Qt Lo (256-((256-bitLen M:Nat):Int)) w' hLo;rw[show(256-((256-bitLen M:Nat):Int)).toNat=256-(256-bitLen M) by omega]at this
   exact this)
  (fun A w' hA=>by have:=Qt A ((256-bitLen M:Nat):Int) w' hA;rw[q_]at this;exact this)
 rw[gR0 _ _ h2,Nat.mul_mod_mul_right,fY0 _ h2]at key;exact key
theorem Xm (A M:Nat)(w:World)(hA:A<2^256)(h0:0<M)(hM:M<2^256):
  Calls prog 156 #[.agg (Zc A),.agg (Zc M)] w fun e w'=>e= .returned (.agg (Zc (A%M)))/\Below w.heap.size w w':=by
 have rA:Row (((w.alloc (.cells (Zc A) 57)).alloc (.cells (Zc M) 57)).alloc (.cells (Zc 0) 57)) w.heap.size (Zc A) 57:=(by repeat(first|(refine Row.here ?_;first|(with_reducible rfl)|(simp;done))|refine Row.alloc ?_ _));have rM:Row (((w.alloc (.cells (Zc A) 57)).alloc (.cells (Zc M) 57)).alloc (.cells (Zc 0) 57)) (w.heap.size+1) (Zc M) 57:=(by repeat(first|(refine Row.here ?_;first|(with_reducible rfl)|(simp;done))|refine Row.alloc ?_ _));have rZ:Row (((w.alloc (.cells (Zc A) 57)).alloc (.cells (Zc M) 57)).alloc (.cells (Zc 0) 57)) (w.heap.size+1+1) (Zc 0) 57:=(by repeat(first|(refine Row.here ?_;first|(with_reducible rfl)|(simp;done))|refine Row.alloc ?_ _));have bW:=YD (w:=w) (.cells (Zc A) 57) (.cells (Zc M) 57) (.cells (Zc 0) 57);have hcm:=fun w'=>Wk A M w' hA hM
 have hdi:=fun w'=>Vs A 0 M w' hA h0 hM
 rw[cD0,B_]at hdi;by_cases hlt:A<M
 ·have hc:Wn A M<0:=by unfold Wn;rw[j_ hlt];decide
  have HV:Hid (A%M=A):=g_ hlt;clear hA h0 hM hlt hdi;generalize Wn A M=c at*
  go_enter fZ0,ntmps156
  go_wp2_with (first
   |refine Zl rfl 57 _ rfl _ rfl ?_
   |refine Zg rfl 57 rfl _ Zp ?_
   |refine Zj rfl 57 _ rfl _ rfl rA 4 _ b_ (by exact Zd) ?_
   |refine Zj rfl 57 _ rfl (w.heap.size+1) (by first|rfl|(unfold Act.eval Act.put;simp;done)|(unfold Act.eval;simp;done)) rM 4 _ b_ (by exact Zd) ?_)
  refine(hcm _).mono ?_;rintro e w2 ⟨rfl,hb2⟩;have qA:=rA.belowAll hb2;have qZ:=rZ.belowAll hb2;have b2:=Zk bW (c_ _) hb2;clear rA rM rZ bW hb2 hcm
  go_wp2_with (first
   |refine Zj rfl 57 _ rfl _ rfl qA 4 _ b_ (by exact Zd) ?_
   |refine Zr rfl 57 _ _ rfl _ _ rfl rfl qZ (by exact Zd) (by simp only[Zo]) (Zu _) ?_)
  exact ZM rfl _ rfl (qZ.setRow _) 4 _ b_ (by exact Zd) rfl ⟨by rw[HV.out],Zq b2 (by omega) _⟩
 ·have hc: ¬Wn A M<0:=by unfold Wn;rw[i_ hlt];split<;>decide
  clear hA h0 hM hlt;generalize Wn A M=c at*;generalize A/M=dq at*;generalize A%M=dr at*
  go_enter fZ0,ntmps156
  go_wp2_with (first
   |refine Zl rfl 57 _ rfl _ rfl ?_
   |refine Zg rfl 57 rfl _ Zp ?_
   |refine Zj rfl 57 _ rfl _ rfl rA 4 _ b_ (by exact Zd) ?_
   |refine Zj rfl 57 _ rfl (w.heap.size+1) (by first|rfl|(unfold Act.eval Act.put;simp;done)|(unfold Act.eval;simp;done)) rM 4 _ b_ (by exact Zd) ?_)
  refine(hcm _).mono ?_;rintro e w2 ⟨rfl,hb2⟩;have qA:=rA.belowAll hb2;have qM:=rM.belowAll hb2;have qZ:=rZ.belowAll hb2;have b2:=Zk bW (c_ _) hb2;clear rA rM rZ bW hb2 hcm
  go_wp2_with (first
   |refine Zv rfl 57 rfl _ ZA ?_
   |refine Zj rfl 57 _ rfl _ rfl qA 4 _ b_ (by exact Zd) ?_
   |refine Zj rfl 57 _ rfl _ rfl qM 4 _ b_ (by exact Zd) ?_)
  refine(hdi _).mono ?_;rintro e w3 ⟨rfl,hb3⟩;have hz:=(qZ.belowAll hb3).lt;have a5:Row ((w3.alloc (.cells (Zc 0) 57)).alloc (.cells (Zc 0) 57)) w3.heap.size (Zc 0) 57:=(by repeat(first|(refine Row.here ?_;first|(with_reducible rfl)|(simp;done))|refine Row.alloc ?_ _));have a6':Row ((w3.alloc (.cells (Zc 0) 57)).alloc (.cells (Zc 0) 57)) (w3.heap.size+1) (Zc 0) 57:=(by repeat(first|(refine Row.here ?_;first|(with_reducible rfl)|(simp;done))|refine Row.alloc ?_ _));have a6:=a6'.setRow_far w3.heap.size (Zc dq) (by omega);have a9:=a6.setRow (Zc dr);have aZ:=((((qZ.belowAll hb3).alloc (.cells (Zc 0) 57)).alloc (.cells (Zc 0) 57)).setRow_far w3.heap.size (Zc dq) (by omega)).setRow_far (w3.heap.size+1) (Zc dr) (by omega);have b3:=Zk b2 (c_ _) hb3;have b5:=Zq (Zq ((b3.alloc b3.size (.cells (Zc 0) 57)).alloc (by have:=b3.size;simp;omega) (.cells (Zc 0) 57)) (g:=w3.heap.size) (by omega) (Zc dq)) (g:=w3.heap.size+1) (by omega) (Zc dr);clear qA qM qZ b2 hb3 hdi a6' b3
  go_wp2_with (first
   |refine Zg rfl 57 rfl _ Zp ?_
   |refine Zr rfl 57 _ _ rfl _ _ rfl rfl a5 (by exact Zd) (by simp only[Zo]) (Zu _) ?_
   |refine Zr rfl 57 _ _ rfl (w3.heap.size+1) _ (by first|rfl|(unfold Act.eval Act.put;simp;done)|(unfold Act.eval;simp;done)) rfl a6 (by exact Zd) (by simp only[Zo]) (Zu _) ?_
   |refine Zj rfl 57 _ rfl (w3.heap.size+1) (by first|rfl|(unfold Act.eval Act.put;simp;done)|(unfold Act.eval;simp;done)) a9 4 _ b_ (by exact Zd) ?_
   |refine Zr rfl 57 _ _ rfl _ _ rfl rfl aZ (by exact Zd) (by simp only[Zo]) (Zu _) ?_)
  exact ZM rfl _ rfl (aZ.setRow (Zc dr)) 4 _ b_ (by exact Zd) rfl ⟨rfl,Zq b5 (by omega) _⟩
def Sx (N M:Nat):Nat:=if M=0 then 0 else N%M
def U6 (M:Nat):Int:=if M=0 then 1 else 0
theorem Nb (Lo H M:Nat)(w:World)(hLo:Lo<2^256)(hH:H<2^256)(hM:M<2^256):
  Calls prog 113 #[.agg (Zc Lo),.agg (Zc H),.agg (Zc M)] w fun e w'=>e= .returned (.tuple #[.agg (Zc (Sx (H*2^256+Lo) M)),.int .i64 (U6 M)])/\Below w.heap.size w w':=by
 have r3:Row ((((w.alloc (.cells (Zc Lo) 57)).alloc (.cells (Zc H) 57)).alloc (.cells (Zc M) 57)).alloc (.cells (Zc 0) 57)) w.heap.size (Zc Lo) 57:=(by repeat(first|(refine Row.here ?_;first|(with_reducible rfl)|(simp;done))|refine Row.alloc ?_ _));have r4:Row ((((w.alloc (.cells (Zc Lo) 57)).alloc (.cells (Zc H) 57)).alloc (.cells (Zc M) 57)).alloc (.cells (Zc 0) 57)) (w.heap.size+1) (Zc H) 57:=(by repeat(first|(refine Row.here ?_;first|(with_reducible rfl)|(simp;done))|refine Row.alloc ?_ _));have r5:Row ((((w.alloc (.cells (Zc Lo) 57)).alloc (.cells (Zc H) 57)).alloc (.cells (Zc M) 57)).alloc (.cells (Zc 0) 57)) (w.heap.size+1+1) (Zc M) 57:=(by repeat(first|(refine Row.here ?_;first|(with_reducible rfl)|(simp;done))|refine Row.alloc ?_ _));have r6:Row ((((w.alloc (.cells (Zc Lo) 57)).alloc (.cells (Zc H) 57)).alloc (.cells (Zc M) 57)).alloc (.cells (Zc 0) 57)) (w.heap.size+1+1+1) (Zc 0) 57:=(by repeat(first|(refine Row.here ?_;first|(with_reducible rfl)|(simp;done))|refine Row.alloc ?_ _));have bW:Below w.heap.size w ((((w.alloc (.cells (Zc Lo) 57)).alloc (.cells (Zc H) 57)).alloc (.cells (Zc M) 57)).alloc (.cells (Zc 0) 57)):=(by repeat(first|exact H_ _ _|refine dN0 ?_ (by simp<;>omega) _));by_cases h0:M=0
 ·have HZ:Hid (Sx (H*2^256+Lo) M=0/\U6 M=1):=⟨j_ h0,j_ h0⟩
  have HV:Hid (decide (M%2^256=0%2^256)=true):=by show _=_;rw[h0];rfl
  clear h0 hLo hH hM
  go_enter func113,ntmps113
  go_wp2_with (first
   |refine Zl rfl 57 _ rfl _ rfl ?_
   |refine Zg rfl 57 rfl _ Zp ?_
   |refine Zv rfl 57 rfl _ ZA ?_
   |refine Zj rfl 57 _ rfl (w.heap.size+1+1) (by first|rfl|(unfold Act.eval Act.put;simp;done)|(unfold Act.eval;simp;done)) r5 4 _ b_ (by exact Zd) ?_
   |refine Zy rfl (.bool true) ((ZG _ _ _ rfl M 0 rfl rfl _).trans (by rw[HV.out])) ?_
   |refine Zr rfl 57 _ _ rfl (w.heap.size+1+1+1) _ (by first|rfl|(unfold Act.eval Act.put;simp;done)|(unfold Act.eval;simp;done)) rfl r6 (by exact Zd) (by simp only[Zo]) (Zu _) ?_)
  exact Z9 rfl _ rfl (r6.setRow (Zc 0)) 4 _ b_ (by exact Zd) rfl _ rfl ⟨by rw[HZ.out.1,HZ.out.2];rfl,Zq bW (by omega) _⟩
 ·have HZ:Hid (Sx (H*2^256+Lo) M=((H%M)*2^256+Lo)%M/\U6 M=0):=by
   refine⟨(i_ h0).trans ?_,i_ h0⟩;rw[eR0 (H%M*2^256),aH0 (H%M),dM0,<-aH0,<-eR0]
  have HV:Hid (decide (M%2^256=0%2^256)=false):=by
   show _=_
   rw[g_ hM];exact e_ h0
  have hre:=fun w'=>Xm H M w' hH (by omega) hM
  have hdi:=fun w'=>Vs Lo (H%M) M w' hLo (m_ _ (by omega)) hM
  rw[HZ.out.1,HZ.out.2];clear h0 hLo hH hM HZ;generalize ((H%M)*2^256+Lo)/M=dq at*;generalize ((H%M)*2^256+Lo)%M=dr at*
  go_enter func113,ntmps113
  go_wp2_with (first
   |refine Zl rfl 57 _ rfl _ rfl ?_
   |refine Zg rfl 57 rfl _ Zp ?_
   |refine Zv rfl 57 rfl _ ZA ?_
   |refine Zj rfl 57 _ rfl (w.heap.size+1+1) (by first|rfl|(unfold Act.eval Act.put;simp;done)|(unfold Act.eval;simp;done)) r5 4 _ b_ (by exact Zd) ?_
   |refine Zy rfl (.bool false) ((ZG _ _ _ rfl M 0 rfl rfl _).trans (by rw[HV.out])) ?_)
  generalize (((w.alloc (.cells (Zc Lo) 57)).alloc (.cells (Zc H) 57)).alloc (.cells (Zc M) 57)).alloc (.cells (Zc 0) 57)=w1 at*;apply Zi (by kernel_rfl) [] [_,_,_,_,_,_,_,_,_,_,_,_,_] trivial a_
  ·intro p;refine m_l r3 ?_;simp only[pv];refine m_l r4 ?_;simp only[pv];refine m_l r5 ?_;simp only[pv];refine m_c 156 fZ0 #[.agg (Zc H),.agg (Zc M)] hre ?_;simp only[pv];refine m_l r5 ?_;simp only[pv];refine m_c 155 func155 #[.agg (Zc Lo),.agg (Zc (H%M)),.agg (Zc M)] hdi ?_;refine m_m ?_;refine m_e ?_;refine m_e ?_;simp only[pv];refine m_n ?_;simp only[pv];refine m_n ?_;simp only[pv];refine m_p 19 dq ?_;simp only[Act.put];refine m_p 21 dr ?_;simp only[Act.put];refine Zf ?_;intro w2 hkw hrw hnew _;have r9:Row w2 (p 10) (Zc dr) 57:=hrw 21 _ rfl;have q6:=hkw.row r6 (by simp);have b2:=bW.trans (hkw.below w.heap.size bW.size (by simp));clear hrw hnew r3 r4 r5 r6 bW;generalize p 10=q at*
   go_wp2_with (first
    |refine Zj rfl 57 _ rfl _ rfl r9 4 _ b_ (by exact Zd) ?_
    |refine Zr rfl 57 _ _ rfl _ _ rfl rfl q6 (by exact Zd) (by simp only[Zo]) (Zu _) ?_)
   exact Z9 rfl _ rfl (q6.setRow (Zc dr)) 4 _ b_ (by exact Zd) rfl _ rfl ⟨rfl,Zq b2 (by omega) _⟩
  ·kernel_rfl
end Go.Proofs.YtnagnkhbamhfmaaGreatDoor
