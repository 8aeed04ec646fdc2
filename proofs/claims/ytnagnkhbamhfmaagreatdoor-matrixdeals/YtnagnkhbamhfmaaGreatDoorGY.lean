import Derived.Test.YtnagnkhbamhfmaaGreatDoorPX
import Derived.Test.YtnagnkhbamhfmaaGreatDoorGWalk
set_option maxRecDepth 100000
set_option maxHeartbeats 8000000
namespace Go.Proofs.YtnagnkhbamhfmaaGreatDoor
set_option linter.all false
open Go.Proofs.Tryz
open Go.RowKit
def paC (ab:Option Addr)(n c G:Nat):Array Value:=#[.slice ab n c,.int .u64 (lm G 0),.int .u64 (lm G 1),.int .u64 (lm G 2),.int .u64 (lm G 3)]
theorem wB (ab:Option Addr)(n c G:Nat): ∀j v,(Zc G).toList[j]?=some v->(paC ab n c G)[1+j]?=some v:=UX rfl rfl rfl rfl
theorem QR (ab:Option Addr)(n c G:Nat):(paC ab n c G).all (·.oneCell')=true:=by simp[paC,Value.oneCell']
theorem K6:(prog.info? 59).map (fun i=>(i.zero,i.size))=some (some (.agg (paC none 0 0 0)),5):=by kernel_rfl
theorem TL (w:World):(zeroValue 59).run prog w= .ok (.agg (paC none 0 0 0)) w:=(Q_ K6).1 w
theorem Xy:(prog.info? 59).map (·.size)=some 5:=(Q_ K6).2
theorem Nu (ab:Option Addr)(n c G:Nat):prog.built 59 [(0,.slice ab n c),(1,.agg (Zc G))]=some (paC ab n c G):=by
 unfold Zc paC;generalize lm G 0=a0;generalize lm G 1=a1;generalize lm G 2=a2;generalize lm G 3=a3
 kernel_rfl
def mdC (P Q G:Nat):Array Value:=#[.int .u64 (lm P 0),.int .u64 (lm P 1),.int .u64 (lm P 2),.int .u64 (lm P 3),.int .u64 (lm Q 0),.int .u64 (lm Q 1),.int .u64 (lm Q 2),.int .u64 (lm Q 3),.int .u64 (lm G 0),.int .u64 (lm G 1),.int .u64 (lm G 2),.int .u64 (lm G 3)]
theorem wC (P Q G:Nat): ∀j v,(Zc P).toList[j]?=some v->(mdC P Q G)[0+j]?=some v:=UX rfl rfl rfl rfl
theorem zi (P Q G:Nat): ∀j v,(Zc Q).toList[j]?=some v->(mdC P Q G)[4+j]?=some v:=UX rfl rfl rfl rfl
theorem yU (P Q G:Nat): ∀j v,(Zc G).toList[j]?=some v->(mdC P Q G)[8+j]?=some v:=UX rfl rfl rfl rfl
theorem EK (P Q G:Nat):(mdC P Q G).all (·.oneCell')=true:=by simp[mdC,Value.oneCell']
theorem K7:(prog.info? 67).map (fun i=>(i.zero,i.size))=some (some (.agg (mdC 0 0 0)),12):=by kernel_rfl
theorem K8 (w:World):(zeroValue 67).run prog w= .ok (.agg (mdC 0 0 0)) w:=(Q_ K7).1 w
theorem TM:(prog.info? 67).map (·.size)=some 12:=(Q_ K7).2
theorem GI (P Q G:Nat):prog.built 67 [(0,.agg (Zc P)),(1,.agg (Zc Q)),(2,.agg (Zc G))]=some (mdC P Q G):=by
 unfold Zc mdC;generalize lm P 0=a0;generalize lm P 1=a1;generalize lm P 2=a2;generalize lm P 3=a3;generalize lm Q 0=b0;generalize lm Q 1=b1;generalize lm Q 2=b2;generalize lm Q 3=b3;generalize lm G 0=c0;generalize lm G 1=c1;generalize lm G 2=c2;generalize lm G 3=c3
 kernel_rfl
def gpC (P Q G:Nat)(r f:Option Addr):Array Value:=#[.int .u64 (lm P 0),.int .u64 (lm P 1),.int .u64 (lm P 2),.int .u64 (lm P 3),.int .u64 (lm Q 0),.int .u64 (lm Q 1),.int .u64 (lm Q 2),.int .u64 (lm Q 3),.int .u64 (lm G 0),.int .u64 (lm G 1),.int .u64 (lm G 2),.int .u64 (lm G 3),.pointer r,.pointer f]
theorem EL (P Q G:Nat)(r f:Option Addr):(gpC P Q G r f).all (·.oneCell')=true:=by simp[gpC,Value.oneCell']
theorem K9:(prog.info? 70).map (fun i=>(i.zero,i.size))=some (some (.agg (gpC 0 0 0 none none)),14):=by kernel_rfl
theorem Ja (w:World):(zeroValue 70).run prog w= .ok (.agg (gpC 0 0 0 none none)) w:=(Q_ K9).1 w
theorem TN:(prog.info? 70).map (·.size)=some 14:=(Q_ K9).2
theorem Jb:prog.built 70 []=some (gpC 0 0 0 none none):=by kernel_rfl
theorem GK (P Q G:Nat)(r f:Option Addr):prog.built 70 [(0,.agg (mdC P Q G)),(1,.pointer r),(2,.pointer f)]=some (gpC P Q G r f):=by
 unfold mdC gpC;generalize lm P 0=a0;generalize lm P 1=a1;generalize lm P 2=a2;generalize lm P 3=a3;generalize lm Q 0=b0;generalize lm Q 1=b1;generalize lm Q 2=b2;generalize lm Q 3=b3;generalize lm G 0=c0;generalize lm G 1=c1;generalize lm G 2=c2;generalize lm G 3=c3
 kernel_rfl
theorem Jc (P Q G:Nat)(r f:Option Addr)(w:World):(Instr.field 70 (.agg (gpC P Q G r f)) 0).run prog w= .ok (.agg (mdC P Q G)) w:=by
 unfold mdC gpC;generalize lm P 0=a0;generalize lm P 1=a1;generalize lm P 2=a2;generalize lm P 3=a3;generalize lm Q 0=b0;generalize lm Q 1=b1;generalize lm Q 2=b2;generalize lm Q 3=b3;generalize lm G 0=c0;generalize lm G 1=c1;generalize lm G 2=c2;generalize lm G 3=c3
 kernel_rfl
theorem C4 (P Q G:Nat)(r f:Option Addr)(w:World):(Instr.field 70 (.agg (gpC P Q G r f)) 1).run prog w= .ok (.pointer r) w:=by
 unfold gpC
 kernel_rfl
theorem GL (P Q G:Nat)(r f:Option Addr)(w:World):(Instr.field 70 (.agg (gpC P Q G r f)) 2).run prog w= .ok (.pointer f) w:=by
 unfold gpC
 kernel_rfl
theorem xm (P Q G:Nat)(w:World):(Instr.field 67 (.agg (mdC P Q G)) 1).run prog w= .ok (.agg (Zc Q)) w:=by
 unfold mdC Zc
 kernel_rfl
theorem xn (P Q G:Nat)(w:World):(Instr.field 67 (.agg (mdC P Q G)) 2).run prog w= .ok (.agg (Zc G)) w:=by
 unfold mdC Zc
 kernel_rfl
def lkv (N:Nat)(z:Int)(j:Nat):Value:=if j=4 then .int .i64 z else .int .u64 (lm N j:Nat)
theorem C5 (N:Nat)(z:Int)(j:Nat)(h:j<5):(lkC N z)[j]?=some (lkv N z j):=by
 match j,h with
 |0,_=>rfl
 |1,_=>rfl
 |2,_=>rfl
 |3,_=>rfl
 |4,_=>rfl
def Og (n:Nat)(N:Nat->Nat)(A:Nat->Int):Array Value:=Array.ofFn (n:=5*n) fun i=>lkv (N (i/5)) (A (i/5)) (i%5)
theorem GM (n:Nat)(N:Nat->Nat)(A:Nat->Int)(i:Nat)(h:i<5*n):(Og n N A)[i]?=some (lkv (N (i/5)) (A (i/5)) (i%5)):=by simp[Og,h]
theorem TO {w:World}{g n:Nat}{N:Nat->Nat}{A:Nat->Int}(h:Row w g (Og n N A) 106)(hN: ∀i,i<n->N i<2^256):LinksAt w (some ⟨g,0,none⟩) n N A g 0 (Og n N A) 106:=
 ⟨.inr ⟨rfl,h.r,fun i hi j v hv=>by
  rw[o_]at hv
  have hj:j<5:=by
   have:=(O_.1 hv).1;rw[GH]at this;exact this
  rw[C5 _ _ _ hj]at hv;rw[GM n N A _ (by omega),show(0+i*5+j)/5=i by omega,show(0+i*5+j)%5=j by omega]
  exact hv⟩,hN⟩
section
variable {ops:Array Oper}{Q:Exit->Act->World->Prop}{rest:List Oper}{o:Oper}{a:Act}{w:World}
theorem p_l {x:Operand}{g A:Nat}{t:TypeId}(hg:WV w g (Zc A) t)(h:PW prog ops Q rest (a.put o.dst (.agg (Zc A))) w)(hw:Region.wanted o (yielded ops a.tmps)=true:=by rfl)(ho:o.op= .load 57 x:=by exact rfl)(hx:a.eval x= .pointer (some ⟨g,0,none⟩):=by exact rfl):PW prog ops Q (o::rest) a w:=ZJ hw 57 x ho g 0 hx hg (Zc A) (Yi _) _ b_ rfl Zd h
theorem p_p {x y:Operand}{g:Nat}{t:TypeId}{old:Array Value}(hg:Row w g old t)(A:Nat)(h: ∀w',Row w' g (Zc A) t->Kept [g] w w'->PW prog ops Q rest (a.put o.dst undef) w')(hw:Region.wanted o (yielded ops a.tmps)=true:=by rfl)(ho:o.op= .store 57 x y:=by exact rfl)(hx:a.eval x= .pointer (some ⟨g,0,none⟩):=by exact rfl)(hy:a.eval y= .agg (Zc A):=by exact rfl)(hold:old.size=(Zc A).size:=by simp only[Zo]):PW prog ops Q (o::rest) a w:=Xg hw 57 x y ho g hx hg (Zc A) hy (by exact Zd) hold (Zu _) h
end
theorem MT (n c:Nat)(ab:Option Addr)(G:Nat)(N:Nat->Nat)(A:Nat->Int)(gb ob:Nat)(bcs:Array Value)(tb:TypeId)(w:World)(h2:2<=n)(hn:n<9223372036854775808)(hL:LinksAt w ab n N A gb ob bcs tb):
  Calls prog 53 #[.agg (paC ab n c G)] w fun e w'=>e= .returned (.agg (mdC (N (n-1)) (N (n-2)) G))/\Below w.heap.size w w':=by
 obtain h0|⟨rfl,rB,hat⟩:=hL.at'
 ·omega
 clear hL;have lB:=rB.lt;have h1:=hat (n-1) (by omega);have hq:=hat (n-2) (by omega);clear hat;generalize N (n-1)=P at*;generalize A (n-1)=zp at*;generalize N (n-2)=Q1 at*;generalize A (n-2)=zq at*
 go_enter func53,ntmps53
 iterate 2 go_step
 apply Za [] [_,_] trivial a_
 ·intro p;refine Ya 59 _ rfl _ rfl ?_;simp only[pv];refine XP 67 rfl _ K8 ?_;simp only[pv];refine Zf ?_;intro w2 hkw hrw hnew hdis;have n1:=hnew 0 rfl;have n2:=hnew 1 rfl;have zr1:Row w2 (p 0) (paC (some ⟨gb,ob,none⟩) n c G) 59:=hrw 1 (59,paC (some ⟨gb,ob,none⟩) n c G) rfl;have zr2:Row w2 (p 1) (mdC 0 0 0) 67:=hrw 3 (67,mdC 0 0 0) rfl;have d1x2:=hdis 0 1 (by omega) rfl rfl;have sb:=k_b hkw;have b2:w.heap.size<=p 1:=n2;clear hkw hrw hnew hdis n1 n2;generalize p 0=g1 at*;generalize p 1=g2 at*;have r1:=zr1;clear zr1;have r2:=zr2;clear zr2;replace rB:=rB.belowAll sb;iterate 3 go_step
  refine ZB ?_;refine q_v _ (Zh 59 _ 0 rfl g1 0 rfl _ aY0 _ rfl 0 gP0) ?_;simp only[pv];refine ZS (by rfl) 54 _ rfl _ (0) rfl r1 (.slice (some ⟨gb,ob,none⟩) n c) rfl hZ0 ?_;simp only[pv];refine q_v _ (n_l (some ⟨gb,ob,none⟩) n c WL) ?_;simp only[pv];refine q_v _ (Z2 _ _ _ _ rfl n 1 rfl rfl (by omega) hn) ?_;refine q_a ?_;simp only[pv];refine ZR ?_;intro w3 hqb;replace r1:=r1.belowAll hqb;replace r2:=r2.belowAll hqb;replace rB:=rB.belowAll hqb;replace sb:=b_o sb hqb;clear hqb;iterate 3 go_step
  apply Zi (by kernel_rfl) [(g2,67,mdC 0 0 0)] [_,_,_,_,_,_,_,_,_,_,_,_,_,_,_,_,_] ⟨r2,trivial⟩ (by simp<;>omega)
  ·intro p;refine Ze _ (Zh 59 _ 0 rfl g1 0 rfl _ aY0 _ rfl 0 gP0) ?_;simp only[pv];refine Zs 54 _ rfl _ (0) rfl r1 (by simp<;>omega) (.slice (some ⟨gb,ob,none⟩) n c) rfl hZ0 ?_;refine m_m ?_;simp only[pv];refine Ze _ (Zw 54 _ _ rfl gb ob n c rfl (n-1) rfl (by omega) _ dZ0 5 hH0) ?_;simp only[pv];refine Ze _ (Zh 106 _ 0 rfl gb (ob+(n-1)*5) rfl _ dF0 _ rfl 3 bJ0) ?_;simp only[pv];refine Yj 57 _ rfl _ ((ob+(n-1)*5)) rfl rB (by simp<;>omega) (Zc P) (UI h1) _ b_ rfl Zd ?_;simp only[pv];refine Ze _ (Zh 59 _ 0 rfl g1 0 rfl _ aY0 _ rfl 0 gP0) ?_;simp only[pv];refine Zs 54 _ rfl _ (0) rfl r1 (by simp<;>omega) (.slice (some ⟨gb,ob,none⟩) n c) rfl hZ0 ?_;refine m_m ?_;simp only[pv];refine Ze (.int .i64 ((n-2:Nat):Int)) (fun w'=>(Z2 _ _ _ _ rfl (n-1) 1 rfl rfl (by omega) (by omega) w').trans (by rw[show n-1-1=n-2 by omega])) ?_;simp only[pv];refine Ze _ (Zw 54 _ _ rfl gb ob n c rfl (n-2) rfl (by omega) _ dZ0 5 hH0) ?_;simp only[pv];refine Ze _ (Zh 106 _ 0 rfl gb (ob+(n-2)*5) rfl _ dF0 _ rfl 3 bJ0) ?_;simp only[pv];refine Yj 57 _ rfl _ ((ob+(n-2)*5)) rfl rB (by simp<;>omega) (Zc Q1) (UI hq) _ b_ rfl Zd ?_;simp only[pv];refine Ze _ (Zh 59 _ 1 rfl g1 0 rfl _ aY0 _ rfl 3 bJ0) ?_;simp only[pv];refine Xw 57 _ rfl _ (1) rfl r1 (by simp<;>omega) (Zc G) (wB _ _ _ _) _ b_ rfl Zd ?_;simp only[pv];refine Ze _ (Z3 _ _ rfl [(0,.agg (Zc P)),(1,.agg (Zc Q1)),(2,.agg (Zc G))] rfl _ (GI P Q1 G)) ?_;simp only[pv];refine Xc 0 67 _ _ rfl rfl rfl (mdC P Q1 G) rfl (by exact TM) (by rfl) (EK _ _ _) ?_;simp only[Act.put];refine Zf ?_;intro w4 hkw hrw hnew hdis;have zr2:Row w4 (g2) (mdC P Q1 G) 67:=hrw 0 (67,mdC P Q1 G) rfl;replace sb:=kk sb hkw;clear hkw hrw hnew hdis r2;have r2:=zr2;clear zr2;go_wp2;exact XL rfl _ rfl r2 _ cP0 (by exact TM) rfl ⟨rfl,sb⟩
  ·kernel_rfl
 ·rfl
def inB (P Q G:Nat):Bool:=decide (512<=Q)&&(decide (1<G)&&decide (G<P))
theorem xp (Q:Nat):decide ((10:Int)<=(bitLen Q:Int))=decide (512<=Q):=by
 apply cK0.2;constructor
 ·intro h;by_cases h2:Q<2^9
  ·have:=Ww Q 9 h2;omega
  ·have:(2:Nat)^9=512:=rfl;omega
 ·intro h
  have h3: ¬bitLen Q<=9:=fun h4=>by
   have:=Vb Q 9 h4;have:(2:Nat)^9=512:=rfl;omega
  omega
theorem Oh (X Y:Nat):decide (Wn X Y<(0:Int))=decide (X<Y):=by
 unfold Wn
 split
 ·rw[d_ (by omega),d_ (by assumption)]
 ·split
  ·rw[e_ (by omega),e_ (by omega)]
  ·rw[e_ (by omega),e_ (by omega)]
theorem wP (P Q1 G:Nat)(w:World)(hP:P<2^256)(hQ:Q1<2^256)(hG:G<2^256)(h1:decide ((10:Int)<=(bitLen Q1:Int))=false):
  Calls prog 54 #[.agg (mdC P Q1 G)] w fun e w'=>e= .returned (.bool false)/\Below w.heap.size w w':=by
 have hle:=fun w'=>Vq Q1 w' hQ
 have hof:=fun w'=>Xl 1 w' (by decide)
 rw[show(1:Int).toNat=1 from rfl]at hof;generalize (bitLen Q1:Nat)=BL at*;generalize Wn G 1=C1 at*;generalize Wn G P=C2 at*
 go_enter func54,ntmps54
 iterate 2 go_step
 apply Za [] [_,_] trivial a_
 ·intro p;refine Ya 67 _ rfl _ rfl ?_;simp only[pv];refine Ze (.bool false) (fun _=>rfl) ?_;simp only[pv];refine Zf ?_;intro w2 hkw hrw hnew hdis;have n1:=hnew 0 rfl;have zr1:Row w2 (p 0) (mdC P Q1 G) 67:=hrw 1 (67,mdC P Q1 G) rfl;have sb:=k_b hkw;clear hkw hrw hnew hdis n1;generalize p 0=g1 at*;have r1:=zr1;clear zr1;iterate 3 go_step
  refine ZD (by kernel_rfl) (by kernel_rfl) ?_;refine q_v _ (Zh 67 _ 1 rfl g1 0 rfl _ cP0 _ rfl 3 bJ0) ?_;simp only[pv];refine YJ (by rfl) 57 _ rfl _ (4) rfl r1 (Zc Q1) (zi P Q1 G) _ b_ rfl Zd ?_;simp only[pv];refine q_c 111 func111 #[.agg (Zc Q1)] hle ?_;simp only[pv];refine q_v _ (ZY _ _ _ _ rfl BL 10 rfl rfl false h1) ?_;refine q_m ?_;simp only[pv];refine ZI (by rfl) ?_;simp only[pv];refine ZI (by rfl) ?_;simp only[pv];refine ZI (by rfl) ?_;simp only[pv];refine ZI (by rfl) ?_;simp only[pv];refine ZI (by rfl) ?_;refine q_p false (.bool false) ?_;refine q_m ?_;simp only[pv];refine ZI (by rfl) ?_;simp only[pv];refine ZI (by rfl) ?_;simp only[pv];refine ZI (by rfl) ?_;simp only[pv];refine ZI (by rfl) ?_;simp only[pv];refine ZI (by rfl) ?_;simp only[pv];refine ZI (by rfl) ?_;refine q_p false (.bool false) ?_;refine q_a ?_;simp only[pv];refine ZR ?_;intro w3 hqb;replace sb:=b_o sb hqb;clear hqb;go_wp2;go_ret;exact⟨rfl,sb⟩
 ·rfl
theorem wQ (P Q1 G:Nat)(w:World)(hP:P<2^256)(hQ:Q1<2^256)(hG:G<2^256)(h1:decide ((10:Int)<=(bitLen Q1:Int))=true)(h2:decide ((0:Int)<Wn G 1)=false):
  Calls prog 54 #[.agg (mdC P Q1 G)] w fun e w'=>e= .returned (.bool false)/\Below w.heap.size w w':=by
 have hle:=fun w'=>Vq Q1 w' hQ
 have hof:=fun w'=>Xl 1 w' (by decide)
 rw[show(1:Int).toNat=1 from rfl]at hof;have hc1:=fun w'=>Wk G 1 w' hG (by decide)
 generalize (bitLen Q1:Nat)=BL at*;generalize Wn G 1=C1 at*;generalize Wn G P=C2 at*
 go_enter func54,ntmps54
 iterate 2 go_step
 apply Za [] [_,_] trivial a_
 ·intro p;refine Ya 67 _ rfl _ rfl ?_;simp only[pv];refine Ze (.bool false) (fun _=>rfl) ?_;simp only[pv];refine Zf ?_;intro w2 hkw hrw hnew hdis;have n1:=hnew 0 rfl;have zr1:Row w2 (p 0) (mdC P Q1 G) 67:=hrw 1 (67,mdC P Q1 G) rfl;have sb:=k_b hkw;clear hkw hrw hnew hdis n1;generalize p 0=g1 at*;have r1:=zr1;clear zr1;iterate 3 go_step
  refine ZD (by kernel_rfl) (by kernel_rfl) ?_;refine q_v _ (Zh 67 _ 1 rfl g1 0 rfl _ cP0 _ rfl 3 bJ0) ?_;simp only[pv];refine YJ (by rfl) 57 _ rfl _ (4) rfl r1 (Zc Q1) (zi P Q1 G) _ b_ rfl Zd ?_;simp only[pv];refine q_c 111 func111 #[.agg (Zc Q1)] hle ?_;simp only[pv];refine q_v _ (ZY _ _ _ _ rfl BL 10 rfl rfl true h1) ?_;refine q_m ?_;simp only[pv];refine q_v _ (Zh 67 _ 2 rfl g1 0 rfl _ cP0 _ rfl 3 bJ0) ?_;simp only[pv];refine YJ (by rfl) 57 _ rfl _ (8) rfl r1 (Zc G) (yU P Q1 G) _ b_ rfl Zd ?_;simp only[pv];refine q_c 57 gZ0 #[.int .i64 1] hof ?_;simp only[pv];refine q_c 112 iH0 #[.agg (Zc G),.agg (Zc 1)] hc1 ?_;simp only[pv];refine q_v _ (Yg _ _ _ _ rfl C1 0 rfl rfl false h2) ?_;refine q_p true (.bool false) ?_;refine q_m ?_;simp only[pv];refine ZI (by rfl) ?_;simp only[pv];refine ZI (by rfl) ?_;simp only[pv];refine ZI (by rfl) ?_;simp only[pv];refine ZI (by rfl) ?_;simp only[pv];refine ZI (by rfl) ?_;simp only[pv];refine ZI (by rfl) ?_;refine q_p false (.bool false) ?_;refine q_a ?_;simp only[pv];refine ZR ?_;intro w3 hqb;replace sb:=b_o sb hqb;clear hqb;go_wp2;go_ret;exact⟨rfl,sb⟩
 ·rfl
theorem wR (P Q1 G:Nat)(w:World)(hP:P<2^256)(hQ:Q1<2^256)(hG:G<2^256)(h1:decide ((10:Int)<=(bitLen Q1:Int))=true)(h2:decide ((0:Int)<Wn G 1)=true)(B3:Bool)(h3:decide (Wn G P<(0:Int))=B3):
  Calls prog 54 #[.agg (mdC P Q1 G)] w fun e w'=>e= .returned (.bool B3)/\Below w.heap.size w w':=by
 have hle:=fun w'=>Vq Q1 w' hQ
 have hof:=fun w'=>Xl 1 w' (by decide)
 rw[show(1:Int).toNat=1 from rfl]at hof;have hc1:=fun w'=>Wk G 1 w' hG (by decide)
 have hc2:=fun w'=>Wk G P w' hG hP
 generalize (bitLen Q1:Nat)=BL at*;generalize Wn G 1=C1 at*;generalize Wn G P=C2 at*
 go_enter func54,ntmps54
 iterate 2 go_step
 apply Za [] [_,_] trivial a_
 ·intro p;refine Ya 67 _ rfl _ rfl ?_;simp only[pv];refine Ze (.bool false) (fun _=>rfl) ?_;simp only[pv];refine Zf ?_;intro w2 hkw hrw hnew hdis;have n1:=hnew 0 rfl;have zr1:Row w2 (p 0) (mdC P Q1 G) 67:=hrw 1 (67,mdC P Q1 G) rfl;have sb:=k_b hkw;clear hkw hrw hnew hdis n1;generalize p 0=g1 at*;have r1:=zr1;clear zr1;iterate 3 go_step
  refine ZD (by kernel_rfl) (by kernel_rfl) ?_;refine q_v _ (Zh 67 _ 1 rfl g1 0 rfl _ cP0 _ rfl 3 bJ0) ?_;simp only[pv];refine YJ (by rfl) 57 _ rfl _ (4) rfl r1 (Zc Q1) (zi P Q1 G) _ b_ rfl Zd ?_;simp only[pv];refine q_c 111 func111 #[.agg (Zc Q1)] hle ?_;simp only[pv];refine q_v _ (ZY _ _ _ _ rfl BL 10 rfl rfl true h1) ?_;refine q_m ?_;simp only[pv];refine q_v _ (Zh 67 _ 2 rfl g1 0 rfl _ cP0 _ rfl 3 bJ0) ?_;simp only[pv];refine YJ (by rfl) 57 _ rfl _ (8) rfl r1 (Zc G) (yU P Q1 G) _ b_ rfl Zd ?_;simp only[pv];refine q_c 57 gZ0 #[.int .i64 1] hof ?_;simp only[pv];refine q_c 112 iH0 #[.agg (Zc G),.agg (Zc 1)] hc1 ?_;simp only[pv];refine q_v _ (Yg _ _ _ _ rfl C1 0 rfl rfl true h2) ?_;refine q_p true (.bool true) ?_;refine q_m ?_;simp only[pv];refine q_v _ (Zh 67 _ 2 rfl g1 0 rfl _ cP0 _ rfl 3 bJ0) ?_;simp only[pv];refine YJ (by rfl) 57 _ rfl _ (8) rfl r1 (Zc G) (yU P Q1 G) _ b_ rfl Zd ?_;simp only[pv];refine q_v _ (Zh 67 _ 0 rfl g1 0 rfl _ cP0 _ rfl 3 bJ0) ?_;simp only[pv];refine YJ (by rfl) 57 _ rfl _ (0) rfl r1 (Zc P) (wC P Q1 G) _ b_ rfl Zd ?_;simp only[pv];refine q_c 112 iH0 #[.agg (Zc G),.agg (Zc P)] hc2 ?_;simp only[pv];refine q_v _ (YB _ _ _ _ rfl C2 0 rfl rfl B3 h3) ?_;refine q_p true (.bool B3) ?_;refine q_a ?_;simp only[pv];refine ZR ?_;intro w3 hqb;replace sb:=b_o sb hqb;clear hqb;go_wp2;go_ret;exact⟨rfl,sb⟩
 ·rfl
theorem QS (P Q G:Nat)(w:World)(hP:P<2^256)(hQ:Q<2^256)(hG:G<2^256):
  Calls prog 54 #[.agg (mdC P Q G)] w (Rt (.bool (inB P Q G)) w):=by
 unfold inB;rw[<-xp,<-KX G 1,<-Oh G P]
 cases h1:decide ((10:Int)<=(bitLen Q:Int))with
 |false=>exact wP P Q G w hP hQ hG h1
 |true=>
  cases h2:decide ((0:Int)<Wn G 1)with
  |false=>exact wQ P Q G w hP hQ hG h1 h2
  |true=>exact wR P Q G w hP hQ hG h1 h2 _ rfl
structure GrpAt (w:World)(g gr gf P Q G:Nat):Prop where
 row:Row w g (gpC P Q G (some ⟨gr,0,none⟩) (some ⟨gf,0,none⟩)) 70
 ring:Row w gr (rgC P (miL P) (WX P) (sqL P)) 160
 fld:Row w gf (rgC Q (miL Q) (WX Q) (sqL Q)) 160
theorem GrpAt.below {w w':World}{g gr gf P Q G:Nat}(h:GrpAt w g gr gf P Q G)(hb:Below w.heap.size w w'):GrpAt w' g gr gf P Q G:=⟨h.row.belowAll hb,h.ring.belowAll hb,h.fld.belowAll hb⟩
theorem RI {q:Nat}(h:IsP q)(h2:2<q):q%2=1:=by
 by_cases e:q%2=0
 ·rcases h.2 2 (dQ0 e)with h|h<;>omega
 ·omega
theorem zj (n:Nat)(N:Nat->Nat)(A:Nat->Int)(G:Nat):grN n N A G=(decide (2<=n)&&(chN n N A&&(inB (N (n-1)) (N (n-2)) G&&decide (G^N (n-2)%N (n-1)=1)))):=by
 unfold grN inB
 have e:decide (1<G)=(decide (G≠0)&&decide (G≠1)):=by
  rw[<-Bool.decide_and];exact cK0.2 (by omega)
 rw[e];simp only[Bool.and_assoc]
theorem C6 (n c:Nat)(ab:Option Addr)(G:Nat)(N:Nat->Nat)(A:Nat->Int)(gb ob:Nat)(bcs:Array Value)(tb:TypeId)(w:World)(hn:n<9223372036854775808)(h2:2<=n)(hG:G<2^256)(hL:LinksAt w ab n N A gb ob bcs tb)(hc0:chN n N A=true)(hib0:inB (N (n-1)) (N (n-2)) G=true)(hp0:G^N (n-2)%N (n-1)=1):
  Calls prog 19 #[.agg (paC ab n c G)] w fun e w'=> ∃g gr gf,e= .returned (.tuple #[.pointer (some ⟨g,0,none⟩),.int .i64 0])/\GrpAt w' g gr gf (N (n-1)) (N (n-2)) G/\Below w.heap.size w w':=by
 have hP:=hL.lt (n-1) (by omega);have hQ:=hL.lt (n-2) (by omega);have hch:=fun w' (hb:Below w.heap.size w w')=>GE n c ab N A gb ob bcs tb w' (hL.below hb) hc0
 have HL:Hid (LinksAt w ab n N A gb ob bcs tb):=hL;clear hL;have pP:=RB hc0 (n-1) (by omega);have pQ:=RB hc0 (n-2) (by omega);have hib1:=hib0;unfold inB at hib1;simp only[s_,X_]at hib1;have oP:=RI pP (by omega);have tP:=pP.1;have oQ:=RI pQ (by omega);have tQ:=pQ.1;clear hc0 pP pQ hib1;have hex:=fun w' g (r:Row w' g (rgC (N (n-1)) (miL (N (n-1))) (WX (N (n-1))) (sqL (N (n-1)))) 160)=>Od G (N (n-2)) (N (n-1)) g w' hG hQ hP oP tP r
 have hof:=fun w'=>Xl 1 w' (by decide)
 rw[show(1:Int).toNat=1 from rfl]at hof;have hne:=QP 1;rw[hp0]at hex;clear hp0
 go_enter func19,ntmps19
 iterate 2 go_step
 apply Za [] [_,_,_] trivial a_
 ·intro p;refine Ya 59 _ rfl _ rfl ?_;simp only[pv];refine Ze (.pointer none) (fun _=>rfl) ?_;simp only[pv];refine Ze (.int .i64 0) (fun _=>rfl) ?_;simp only[pv];refine Zf ?_;intro w2 hkw hrw hnew hdis;have n1:=hnew 0 rfl;have zr1:Row w2 (p 0) (paC ab n c G) 59:=hrw 1 (59,paC ab n c G) rfl;have sb:=k_b hkw;clear hkw hrw hnew hdis n1;generalize p 0=g1 at*;have r1:=zr1;clear zr1;iterate 4 go_step
  refine ZB ?_;refine q_v _ (Zh 59 _ 0 rfl g1 0 rfl _ aY0 _ rfl 0 gP0) ?_;simp only[pv];refine ZS (by rfl) 54 _ rfl _ (0) rfl r1 (.slice ab n c) rfl hZ0 ?_;simp only[pv];refine q_v _ (n_l ab n c WL) ?_;refine q_v _ (Xe n 2) ?_;refine q_m ?_;simp only[pv];refine q_v _ (Zh 59 _ 0 rfl g1 0 rfl _ aY0 _ rfl 0 gP0) ?_;simp only[pv];refine ZS (by rfl) 54 _ rfl _ (0) rfl r1 (.slice ab n c) rfl hZ0 ?_;simp only[pv];refine q_k 52 func52 #[.slice ab n c] (fun w' hb=>hch w' (Zk sb (c_ _) hb)) ?_;simp only[pv];refine q_v _ (ZX .i64 _ _ _ _ rfl 0 0 rfl rfl false rfl) ?_;refine q_p false (.bool false) ?_;simp only[pv];refine ZR ?_;intro w3 hqb;replace r1:=r1.belowAll hqb;replace sb:=b_o sb hqb;clear hqb;clear hch;have hmd:=fun w' (hb:Below w.heap.size w w')=>MT n c ab G N A gb ob bcs tb w' h2 hn (HL.out.below hb)
  have hib:=fun w'=>QS (N (n-1)) (N (n-2)) G w' hP hQ hG
  rw[hib0]at hib;clear hib0;generalize hPP:N (n-1)=PP at*;generalize hQQ:N (n-2)=QQ at*;iterate 7 go_step
  refine rp ?_;refine ZJ (by rfl) 59 _ rfl _ 0 rfl r1.r _ (Yi _) _ aY0 rfl Xy ?_;simp only[pv];refine p_c 53 func53 #[.agg (paC ab n c G)] (hmd _ sb) ?_;intro z3001 k;simp only[pv];replace r1:=k.ro r1;replace sb:=kk sb k;clear k;refine ZT (by rfl) 67 rfl _ K8 ?_;intro g4 z3002 n0 r4 k;simp only[pv];have d1x4:=l_l r1.lt n0;have b4:=f_ sb.size n0;clear n0;replace r1:=k.ro r1;replace sb:=kk sb k;clear k;refine Xg (by rfl) 67 _ _ rfl _ rfl r4 (mdC PP QQ G) rfl (by exact TM) (by rfl) (EK _ _ _) ?_;clear r4;intro z3003 r4 k;simp only[Act.put];replace r1:=k.ro r1;replace sb:=kk sb k;clear k;refine Zb ?_;clear hmd;iterate 4 go_step
  refine rp ?_;refine ZJ (by rfl) 67 _ rfl _ 0 rfl r4.r _ (Yi _) _ cP0 rfl TM ?_;simp only[pv];refine p_c 54 func54 #[.agg (mdC PP QQ G)] (hib _) ?_;intro z4001 k;simp only[pv];replace r4:=k.ro r4;replace sb:=kk sb k;clear k;refine p_v _ (Zz _ _ rfl true rfl) (Zb ?_);simp only[pv];clear hib;iterate 7 go_step
  refine rp ?_;refine p_v _ (Zh 67 _ 0 rfl g4 0 rfl _ cP0 _ rfl 3 bJ0) ?_;simp only[pv];refine ZJ (by rfl) 57 _ rfl _ (0) rfl r4.r (Zc PP) (wC PP QQ G) _ b_ rfl Zd ?_;simp only[pv];refine p_f 55 func55 #[.agg (Zc PP)] (P1 PP _ oP tP hP) ?_;rintro _ z6002 ⟨gR,rfl,nR,rR,hb⟩;refine⟨_,rfl,?_⟩;simp only[pv];clear nR;have k:=Kept.ofBelow hb;clear hb;replace r4:=k.ro r4;replace sb:=kk sb k;clear k;refine p_m ?_;refine p_e ?_;refine p_e ?_;refine p_a ?_;refine p_a (Zb ?_);simp only[pv];iterate 3 go_step
  refine rp ?_;refine p_v _ (Zh 67 _ 1 rfl g4 0 rfl _ cP0 _ rfl 3 bJ0) ?_;simp only[pv];refine ZJ (by rfl) 57 _ rfl _ (4) rfl r4.r (Zc QQ) (zi PP QQ G) _ b_ rfl Zd ?_;simp only[pv];refine p_f 55 func55 #[.agg (Zc QQ)] (P1 QQ _ oQ tQ hQ) ?_;rintro _ z7002 ⟨gF,rfl,nF,rF,hb⟩;refine⟨_,rfl,?_⟩;simp only[pv];clear nF;have k:=Kept.ofBelow hb;clear hb;replace r4:=k.ro r4;replace rR:=k.ro rR;replace sb:=kk sb k;clear k;refine p_m ?_;refine p_e ?_;refine p_e ?_;refine p_a ?_;refine p_a (Zb ?_);simp only[pv];iterate 4 go_step
  refine rp ?_;refine p_m ?_;simp only[pv];refine p_v _ (Zh 67 _ 2 rfl g4 0 rfl _ cP0 _ rfl 3 bJ0) ?_;simp only[pv];refine ZJ (by rfl) 57 _ rfl _ (8) rfl r4.r (Zc G) (yU PP QQ G) _ b_ rfl Zd ?_;simp only[pv];refine p_v _ (Zh 67 _ 1 rfl g4 0 rfl _ cP0 _ rfl 3 bJ0) ?_;simp only[pv];refine ZJ (by rfl) 57 _ rfl _ (4) rfl r4.r (Zc QQ) (zi PP QQ G) _ b_ rfl Zd ?_;simp only[pv];refine p_c 56 func56 #[.pointer (some ⟨gR,0,none⟩),.agg (Zc G),.agg (Zc QQ)] (hex _ gR rR) ?_;intro z8005 k;simp only[pv];replace r4:=k.ro r4;replace rR:=k.ro rR;replace rF:=k.ro rF;replace sb:=kk sb k;clear k;refine p_c 57 gZ0 #[.int .i64 1] (hof _) ?_;intro z8006 k;simp only[pv];replace r4:=k.ro r4;replace rR:=k.ro rR;replace rF:=k.ro rF;replace sb:=kk sb k;clear k;refine p_v (.bool false) (fun w'=>(Z5 _ _ _ rfl 1 1 rfl rfl w').trans (by rw[hne])) (Zb ?_);simp only[pv];clear hex hof hne;iterate 7 go_step
  refine rp ?_;refine ZJ (by rfl) 67 _ rfl _ 0 rfl r4.r _ (Yi _) _ cP0 rfl TM ?_;refine p_m ?_;refine p_m ?_;simp only[pv];refine p_v _ (Z3 _ _ rfl [(0,.agg (mdC PP QQ G)),(1,.pointer (some ⟨gR,0,none⟩)),(2,.pointer (some ⟨gF,0,none⟩))] rfl _ (GK PP QQ G _ _)) ?_;simp only[pv];refine ZO (by rfl) 70 _ rfl (gpC PP QQ G (some ⟨gR,0,none⟩) (some ⟨gF,0,none⟩)) rfl ?_;intro g48 z10004 n0 r48 k;simp only[pv];clear n0;replace r4:=k.ro r4;replace rR:=k.ro rR;replace rF:=k.ro rF;replace sb:=kk sb k;clear k;refine p_a ?_;refine p_v (.int .i64 0) (fun _=>rfl) (Zb ?_);simp only[pv];go_wp2;go_ret2;subst hPP hQQ;exact⟨g48,gR,gF,rfl,⟨r48,rR,rF⟩,sb⟩
 ·rfl
theorem GN (n c:Nat)(ab:Option Addr)(G:Nat)(N:Nat->Nat)(A:Nat->Int)(gb ob:Nat)(bcs:Array Value)(tb:TypeId)(w:World)(hn:n<9223372036854775808)(hG:G<2^256)(hL:LinksAt w ab n N A gb ob bcs tb)(h:grN n N A G=true):
  Calls prog 19 #[.agg (paC ab n c G)] w fun e w'=> ∃g gr gf,e= .returned (.tuple #[.pointer (some ⟨g,0,none⟩),.int .i64 0])/\GrpAt w' g gr gf (N (n-1)) (N (n-2)) G/\Below w.heap.size w w':=by
 rw[zj,s_,s_,s_,X_,X_]at h;exact C6 n c ab G N A gb ob bcs tb w hn h.1 hG hL h.2.1 h.2.2.1 h.2.2.2
end Go.Proofs.YtnagnkhbamhfmaaGreatDoor
