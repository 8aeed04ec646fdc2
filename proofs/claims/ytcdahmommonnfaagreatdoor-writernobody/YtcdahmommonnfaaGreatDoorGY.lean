import Derived.Test.YtcdahmommonnfaaGreatDoorPX
set_option maxRecDepth 100000
set_option maxHeartbeats 8000000
namespace Go.Proofs.YtcdahmommonnfaaGreatDoor
set_option linter.all false
open Go.Proofs.Tryz
open Go.RowKit
def paC (ab:Option Addr)(n c G:Nat):Array Value:=#[.slice ab n c,.int .u64 (lm G 0),.int .u64 (lm G 1),.int .u64 (lm G 2),.int .u64 (lm G 3)]
theorem An (ab:Option Addr)(n c G:Nat): ∀j v,(Zc G).toList[j]?=some v->(paC ab n c G)[1+j]?=some v:=Uj rfl rfl rfl rfl
theorem S1 (ab:Option Addr)(n c G:Nat):(paC ab n c G).all (·.oneCell')=true:=by simp[paC,Value.oneCell']
theorem MA:(prog.info? 41).map (fun i=>(i.zero,i.size))=some (some (.agg (paC none 0 0 0)),5):=by kernel_rfl
theorem Uu (w:World):(zeroValue 41).run prog w= .ok (.agg (paC none 0 0 0)) w:=(zero_of_info MA).1 w
theorem Y3:(prog.info? 41).map (·.size)=some 5:=(zero_of_info MA).2
theorem Pr (ab:Option Addr)(n c G:Nat):prog.built 41 [(0,.slice ab n c),(1,.agg (Zc G))]=some (paC ab n c G):=by
 unfold Zc paC;generalize lm G 0=a0;generalize lm G 1=a1;generalize lm G 2=a2;generalize lm G 3=a3
 kernel_rfl
def mdC (P Q G:Nat):Array Value:=#[.int .u64 (lm P 0),.int .u64 (lm P 1),.int .u64 (lm P 2),.int .u64 (lm P 3),.int .u64 (lm Q 0),.int .u64 (lm Q 1),.int .u64 (lm Q 2),.int .u64 (lm Q 3),.int .u64 (lm G 0),.int .u64 (lm G 1),.int .u64 (lm G 2),.int .u64 (lm G 3)]
theorem Ao (P Q G:Nat): ∀j v,(Zc P).toList[j]?=some v->(mdC P Q G)[0+j]?=some v:=Uj rfl rfl rfl rfl
theorem De (P Q G:Nat): ∀j v,(Zc Q).toList[j]?=some v->(mdC P Q G)[4+j]?=some v:=Uj rfl rfl rfl rfl
theorem C4 (P Q G:Nat): ∀j v,(Zc G).toList[j]?=some v->(mdC P Q G)[8+j]?=some v:=Uj rfl rfl rfl rfl
theorem Hh (P Q G:Nat):(mdC P Q G).all (·.oneCell')=true:=by simp[mdC,Value.oneCell']
theorem MB:(prog.info? 107).map (fun i=>(i.zero,i.size))=some (some (.agg (mdC 0 0 0)),12):=by kernel_rfl
theorem MC (w:World):(zeroValue 107).run prog w= .ok (.agg (mdC 0 0 0)) w:=(zero_of_info MB).1 w
theorem Uv:(prog.info? 107).map (·.size)=some 12:=(zero_of_info MB).2
theorem Jy (P Q G:Nat):prog.built 107 [(0,.agg (Zc P)),(1,.agg (Zc Q)),(2,.agg (Zc G))]=some (mdC P Q G):=by
 unfold Zc mdC;generalize lm P 0=a0;generalize lm P 1=a1;generalize lm P 2=a2;generalize lm P 3=a3;generalize lm Q 0=b0;generalize lm Q 1=b1;generalize lm Q 2=b2;generalize lm Q 3=b3;generalize lm G 0=c0;generalize lm G 1=c1;generalize lm G 2=c2;generalize lm G 3=c3
 kernel_rfl
def gpC (P Q G:Nat)(r f:Option Addr):Array Value:=#[.int .u64 (lm P 0),.int .u64 (lm P 1),.int .u64 (lm P 2),.int .u64 (lm P 3),.int .u64 (lm Q 0),.int .u64 (lm Q 1),.int .u64 (lm Q 2),.int .u64 (lm Q 3),.int .u64 (lm G 0),.int .u64 (lm G 1),.int .u64 (lm G 2),.int .u64 (lm G 3),.pointer r,.pointer f]
theorem Hi (P Q G:Nat)(r f:Option Addr):(gpC P Q G r f).all (·.oneCell')=true:=by simp[gpC,Value.oneCell']
theorem MD:(prog.info? 115).map (fun i=>(i.zero,i.size))=some (some (.agg (gpC 0 0 0 none none)),14):=by kernel_rfl
theorem ME (w:World):(zeroValue 115).run prog w= .ok (.agg (gpC 0 0 0 none none)) w:=(zero_of_info MD).1 w
theorem Uw:(prog.info? 115).map (·.size)=some 14:=(zero_of_info MD).2
theorem MF:prog.built 115 []=some (gpC 0 0 0 none none):=by kernel_rfl
theorem Jz (P Q G:Nat)(r f:Option Addr):prog.built 115 [(0,.agg (mdC P Q G)),(1,.pointer r),(2,.pointer f)]=some (gpC P Q G r f):=by
 unfold mdC gpC;generalize lm P 0=a0;generalize lm P 1=a1;generalize lm P 2=a2;generalize lm P 3=a3;generalize lm Q 0=b0;generalize lm Q 1=b1;generalize lm Q 2=b2;generalize lm Q 3=b3;generalize lm G 0=c0;generalize lm G 1=c1;generalize lm G 2=c2;generalize lm G 3=c3
 kernel_rfl
theorem Qi (P Q G:Nat)(r f:Option Addr)(w:World):(Instr.field 115 (.agg (gpC P Q G r f)) 0).run prog w= .ok (.agg (mdC P Q G)) w:=by
 unfold mdC gpC;generalize lm P 0=a0;generalize lm P 1=a1;generalize lm P 2=a2;generalize lm P 3=a3;generalize lm Q 0=b0;generalize lm Q 1=b1;generalize lm Q 2=b2;generalize lm Q 3=b3;generalize lm G 0=c0;generalize lm G 1=c1;generalize lm G 2=c2;generalize lm G 3=c3
 kernel_rfl
theorem Fj (P Q G:Nat)(r f:Option Addr)(w:World):(Instr.field 115 (.agg (gpC P Q G r f)) 1).run prog w= .ok (.pointer r) w:=by
 unfold gpC
 kernel_rfl
theorem JA (P Q G:Nat)(r f:Option Addr)(w:World):(Instr.field 115 (.agg (gpC P Q G r f)) 2).run prog w= .ok (.pointer f) w:=by
 unfold gpC
 kernel_rfl
theorem Df (P Q G:Nat)(w:World):(Instr.field 107 (.agg (mdC P Q G)) 1).run prog w= .ok (.agg (Zc Q)) w:=by
 unfold mdC Zc
 kernel_rfl
theorem Bm (P Q G:Nat)(w:World):(Instr.field 107 (.agg (mdC P Q G)) 2).run prog w= .ok (.agg (Zc G)) w:=by
 unfold mdC Zc
 kernel_rfl
def lkv (N:Nat)(z:Int)(j:Nat):Value:=if j=4 then .int .i64 z else .int .u64 (lm N j:Nat)
theorem Fk (N:Nat)(z:Int)(j:Nat)(h:j<5):(lkC N z)[j]?=some (lkv N z j):=by
 match j,h with
 |0,_=>rfl
 |1,_=>rfl
 |2,_=>rfl
 |3,_=>rfl
 |4,_=>rfl
def RK (n:Nat)(N:Nat->Nat)(A:Nat->Int):Array Value:=Array.ofFn (n:=5*n) fun i=>lkv (N (i/5)) (A (i/5)) (i%5)
theorem JB (n:Nat)(N:Nat->Nat)(A:Nat->Int)(i:Nat)(h:i<5*n):(RK n N A)[i]?=some (lkv (N (i/5)) (A (i/5)) (i%5)):=by simp[RK,h]
theorem Vp {w:World}{g n:Nat}{N:Nat->Nat}{A:Nat->Int}(h:Row w g (RK n N A) 148)(hN: ∀i,i<n->N i<2^256):LinksAt w (some ⟨g,0,none⟩) n N A g 0 (RK n N A) 148:=
 ⟨.inr ⟨rfl,h.r,fun i hi j v hv=>by
  rw[Array.getElem?_toList]at hv
  have hj:j<5:=by
   have:=(Array.getElem?_eq_some_iff.1 hv).1;rw[Jx]at this;exact this
  rw[Fk _ _ _ hj]at hv;rw[JB n N A _ (by omega),show(0+i*5+j)/5=i by omega,show(0+i*5+j)%5=j by omega]
  exact hv⟩,hN⟩
section
variable {ops:Array Oper}{Q:Exit->Act->World->Prop}{rest:List Oper}{o:Oper}{a:Act}{w:World}
theorem p_l {x:Operand}{g A:Nat}{t:TypeId}(hg:WD w g (Zc A) t)(h:PW prog ops Q rest (a.put o.dst (.agg (Zc A))) w)(hw:Region.wanted o (yielded ops a.tmps)=true:=by rfl)(ho:o.op= .load 39 x:=by exact rfl)(hx:a.eval x= .pointer (some ⟨g,0,none⟩):=by exact rfl):PW prog ops Q (o::rest) a w:=Zf hw 39 x ho g 0 hx hg (Zc A) (Zu _) _ underlying39 rfl Ze h
theorem p_p {x y:Operand}{g:Nat}{t:TypeId}{old:Array Value}(hg:Row w g old t)(A:Nat)(h: ∀w',Row w' g (Zc A) t->Kept [g] w w'->PW prog ops Q rest (a.put o.dst undef) w')(hw:Region.wanted o (yielded ops a.tmps)=true:=by rfl)(ho:o.op= .store 39 x y:=by exact rfl)(hx:a.eval x= .pointer (some ⟨g,0,none⟩):=by exact rfl)(hy:a.eval y= .agg (Zc A):=by exact rfl)(hold:old.size=(Zc A).size:=by simp only[Zt]):PW prog ops Q (o::rest) a w:=Z0 hw 39 x y ho g hx hg (Zc A) hy (by exact Ze) hold (ZA _) h
end
theorem OH (n c:Nat)(ab:Option Addr)(G:Nat)(N:Nat->Nat)(A:Nat->Int)(gb ob:Nat)(bcs:Array Value)(tb:TypeId)(w:World)(h2:2<=n)(hn:n<9223372036854775808)(hL:LinksAt w ab n N A gb ob bcs tb):
  Calls prog 38 #[.agg (paC ab n c G)] w fun e w'=>e= .returned (.agg (mdC (N (n-1)) (N (n-2)) G))/\Below w.heap.size w w':=by
 obtain h0|⟨rfl,rB,hat⟩:=hL.at'
 ·omega
 clear hL;have lB:=rB.lt;have h1:=hat (n-1) (by omega);have hq:=hat (n-2) (by omega);clear hat;generalize N (n-1)=P at*;generalize A (n-1)=zp at*;generalize N (n-2)=Q1 at*;generalize A (n-2)=zq at*
 go_enter func38,ntmps38
 iterate 2 go_step
 apply Zd [] [_,_] trivial List.nodup_nil
 ·intro p;refine YD 41 _ rfl _ rfl ?_;simp only[pv];refine U3 107 rfl _ MC ?_;simp only[pv];refine Zi ?_;intro w2 hkw hrw hnew hdis;have n1:=hnew 0 rfl;have n2:=hnew 1 rfl;have zr1:Row w2 (p 0) (paC (some ⟨gb,ob,none⟩) n c G) 41:=hrw 1 (41,paC (some ⟨gb,ob,none⟩) n c G) rfl;have zr2:Row w2 (p 1) (mdC 0 0 0) 107:=hrw 3 (107,mdC 0 0 0) rfl;have d1x2:=hdis 0 1 (by omega) rfl rfl;have sb:=k_b hkw;have b2:w.heap.size<=p 1:=n2;clear hkw hrw hnew hdis n1 n2;generalize p 0=g1 at*;generalize p 1=g2 at*;have r1:=zr1;clear zr1;have r2:=zr2;clear zr2;replace rB:=rB.belowAll sb;iterate 3 go_step
  refine ZQ ?_;refine q_v _ (Zb 41 _ 0 rfl g1 0 rfl _ underlying41 _ rfl 0 sizeOf36) ?_;simp only[pv];refine ZH (by rfl) 36 _ rfl _ (0) rfl r1 (.slice (some ⟨gb,ob,none⟩) n c) rfl isAgg36 ?_;simp only[pv];refine q_v _ (n_l (some ⟨gb,ob,none⟩) n c Wp) ?_;simp only[pv];refine q_v _ (ZT _ _ _ _ rfl n 1 rfl rfl (by omega) hn) ?_;refine q_a ?_;simp only[pv];refine Z2 ?_;intro w3 hqb;replace r1:=r1.belowAll hqb;replace r2:=r2.belowAll hqb;replace rB:=rB.belowAll hqb;replace sb:=b_o sb hqb;clear hqb;iterate 3 go_step
  apply Zo (by kernel_rfl) [(g2,107,mdC 0 0 0)] [_,_,_,_,_,_,_,_,_,_,_,_,_,_,_,_,_] ⟨r2,trivial⟩ (by simp<;>omega)
  ·intro p;refine Zg _ (Zb 41 _ 0 rfl g1 0 rfl _ underlying41 _ rfl 0 sizeOf36) ?_;simp only[pv];refine ZB 36 _ rfl _ (0) rfl r1 (by simp<;>omega) (.slice (some ⟨gb,ob,none⟩) n c) rfl isAgg36 ?_;refine m_m ?_;simp only[pv];refine Zg _ (Zs 36 _ _ rfl gb ob n c rfl (n-1) rfl (by omega) _ underlying36 5 sizeOf148) ?_;simp only[pv];refine Zg _ (Zb 148 _ 0 rfl gb (ob+(n-1)*5) rfl _ underlying148 _ rfl 3 sizeOf39) ?_;simp only[pv];refine Xf 39 _ rfl _ ((ob+(n-1)*5)) rfl rB (by simp<;>omega) (Zc P) (VJ h1) _ underlying39 rfl Ze ?_;simp only[pv];refine Zg _ (Zb 41 _ 0 rfl g1 0 rfl _ underlying41 _ rfl 0 sizeOf36) ?_;simp only[pv];refine ZB 36 _ rfl _ (0) rfl r1 (by simp<;>omega) (.slice (some ⟨gb,ob,none⟩) n c) rfl isAgg36 ?_;refine m_m ?_;simp only[pv];refine Zg (.int .i64 ((n-2:Nat):Int)) (fun w'=>(ZT _ _ _ _ rfl (n-1) 1 rfl rfl (by omega) (by omega) w').trans (by rw[show n-1-1=n-2 by omega])) ?_;simp only[pv];refine Zg _ (Zs 36 _ _ rfl gb ob n c rfl (n-2) rfl (by omega) _ underlying36 5 sizeOf148) ?_;simp only[pv];refine Zg _ (Zb 148 _ 0 rfl gb (ob+(n-2)*5) rfl _ underlying148 _ rfl 3 sizeOf39) ?_;simp only[pv];refine Xf 39 _ rfl _ ((ob+(n-2)*5)) rfl rB (by simp<;>omega) (Zc Q1) (VJ hq) _ underlying39 rfl Ze ?_;simp only[pv];refine Zg _ (Zb 41 _ 1 rfl g1 0 rfl _ underlying41 _ rfl 3 sizeOf39) ?_;simp only[pv];refine Xe 39 _ rfl _ (1) rfl r1 (by simp<;>omega) (Zc G) (An _ _ _ _) _ underlying39 rfl Ze ?_;simp only[pv];refine Zg _ (Zm _ _ rfl [(0,.agg (Zc P)),(1,.agg (Zc Q1)),(2,.agg (Zc G))] rfl _ (Jy P Q1 G)) ?_;simp only[pv];refine WY 0 107 _ _ rfl rfl rfl (mdC P Q1 G) rfl (by exact Uv) (by rfl) (Hh _ _ _) ?_;simp only[Act.put];refine Zi ?_;intro w4 hkw hrw hnew hdis;have zr2:Row w4 (g2) (mdC P Q1 G) 107:=hrw 0 (107,mdC P Q1 G) rfl;replace sb:=kk sb hkw;clear hkw hrw hnew hdis r2;have r2:=zr2;clear zr2;go_wp2;exact YP rfl _ rfl r2 _ underlying107 (by exact Uv) rfl ⟨rfl,sb⟩
  ·kernel_rfl
 ·rfl
def inB (P Q G:Nat):Bool:=decide (512<=Q)&&(decide (1<G)&&decide (G<P))
theorem Bn (Q:Nat):decide ((10:Int)<=(bitLen Q:Int))=decide (512<=Q):=by
 apply decide_eq_decide.2;constructor
 ·intro h;by_cases h2:Q<2^9
  ·have:=Um Q 9 h2;omega
  ·have:(2:Nat)^9=512:=rfl;omega
 ·intro h
  have h3: ¬bitLen Q<=9:=fun h4=>by
   have:=SR Q 9 h4;have:(2:Nat)^9=512:=rfl;omega
  omega
theorem Qj (X Y:Nat):decide (WB X Y<(0:Int))=decide (X<Y):=by
 unfold WB
 split
 ·rw[decide_eq_true (by omega),decide_eq_true (by assumption)]
 ·split
  ·rw[decide_eq_false (by omega),decide_eq_false (by omega)]
  ·rw[decide_eq_false (by omega),decide_eq_false (by omega)]
theorem AG (P Q1 G:Nat)(w:World)(hP:P<2^256)(hQ:Q1<2^256)(hG:G<2^256)(h1:decide ((10:Int)<=(bitLen Q1:Int))=false):
  Calls prog 39 #[.agg (mdC P Q1 G)] w fun e w'=>e= .returned (.bool false)/\Below w.heap.size w w':=by
 have hle:=fun w'=>XW Q1 w' hQ
 have hof:=fun w'=>X1 1 w' (by decide)
 rw[show(1:Int).toNat=1 from rfl]at hof;generalize (bitLen Q1:Nat)=BL at*;generalize WB G 1=C1 at*;generalize WB G P=C2 at*
 go_enter func39,ntmps39
 iterate 2 go_step
 apply Zd [] [_,_] trivial List.nodup_nil
 ·intro p;refine YD 107 _ rfl _ rfl ?_;simp only[pv];refine Zg (.bool false) (fun _=>rfl) ?_;simp only[pv];refine Zi ?_;intro w2 hkw hrw hnew hdis;have n1:=hnew 0 rfl;have zr1:Row w2 (p 0) (mdC P Q1 G) 107:=hrw 1 (107,mdC P Q1 G) rfl;have sb:=k_b hkw;clear hkw hrw hnew hdis n1;generalize p 0=g1 at*;have r1:=zr1;clear zr1;iterate 3 go_step
  refine ZF (by kernel_rfl) (by kernel_rfl) ?_;refine q_v _ (Zb 107 _ 1 rfl g1 0 rfl _ underlying107 _ rfl 3 sizeOf39) ?_;simp only[pv];refine Yq (by rfl) 39 _ rfl _ (4) rfl r1 (Zc Q1) (De P Q1 G) _ underlying39 rfl Ze ?_;simp only[pv];refine q_c 82 func82 #[.agg (Zc Q1)] hle ?_;simp only[pv];refine q_v _ (ZG _ _ _ _ rfl BL 10 rfl rfl false h1) ?_;refine q_m ?_;simp only[pv];refine ZI (by rfl) ?_;simp only[pv];refine ZI (by rfl) ?_;simp only[pv];refine ZI (by rfl) ?_;simp only[pv];refine ZI (by rfl) ?_;simp only[pv];refine ZI (by rfl) ?_;refine q_p false (.bool false) ?_;refine q_m ?_;simp only[pv];refine ZI (by rfl) ?_;simp only[pv];refine ZI (by rfl) ?_;simp only[pv];refine ZI (by rfl) ?_;simp only[pv];refine ZI (by rfl) ?_;simp only[pv];refine ZI (by rfl) ?_;simp only[pv];refine ZI (by rfl) ?_;refine q_p false (.bool false) ?_;refine q_a ?_;simp only[pv];refine Z2 ?_;intro w3 hqb;replace sb:=b_o sb hqb;clear hqb;go_wp2;go_ret;exact⟨rfl,sb⟩
 ·rfl
theorem AH (P Q1 G:Nat)(w:World)(hP:P<2^256)(hQ:Q1<2^256)(hG:G<2^256)(h1:decide ((10:Int)<=(bitLen Q1:Int))=true)(h2:decide ((0:Int)<WB G 1)=false):
  Calls prog 39 #[.agg (mdC P Q1 G)] w fun e w'=>e= .returned (.bool false)/\Below w.heap.size w w':=by
 have hle:=fun w'=>XW Q1 w' hQ
 have hof:=fun w'=>X1 1 w' (by decide)
 rw[show(1:Int).toNat=1 from rfl]at hof;have hc1:=fun w'=>XF G 1 w' hG (by decide)
 generalize (bitLen Q1:Nat)=BL at*;generalize WB G 1=C1 at*;generalize WB G P=C2 at*
 go_enter func39,ntmps39
 iterate 2 go_step
 apply Zd [] [_,_] trivial List.nodup_nil
 ·intro p;refine YD 107 _ rfl _ rfl ?_;simp only[pv];refine Zg (.bool false) (fun _=>rfl) ?_;simp only[pv];refine Zi ?_;intro w2 hkw hrw hnew hdis;have n1:=hnew 0 rfl;have zr1:Row w2 (p 0) (mdC P Q1 G) 107:=hrw 1 (107,mdC P Q1 G) rfl;have sb:=k_b hkw;clear hkw hrw hnew hdis n1;generalize p 0=g1 at*;have r1:=zr1;clear zr1;iterate 3 go_step
  refine ZF (by kernel_rfl) (by kernel_rfl) ?_;refine q_v _ (Zb 107 _ 1 rfl g1 0 rfl _ underlying107 _ rfl 3 sizeOf39) ?_;simp only[pv];refine Yq (by rfl) 39 _ rfl _ (4) rfl r1 (Zc Q1) (De P Q1 G) _ underlying39 rfl Ze ?_;simp only[pv];refine q_c 82 func82 #[.agg (Zc Q1)] hle ?_;simp only[pv];refine q_v _ (ZG _ _ _ _ rfl BL 10 rfl rfl true h1) ?_;refine q_m ?_;simp only[pv];refine q_v _ (Zb 107 _ 2 rfl g1 0 rfl _ underlying107 _ rfl 3 sizeOf39) ?_;simp only[pv];refine Yq (by rfl) 39 _ rfl _ (8) rfl r1 (Zc G) (C4 P Q1 G) _ underlying39 rfl Ze ?_;simp only[pv];refine q_c 42 func42 #[.int .i64 1] hof ?_;simp only[pv];refine q_c 83 func83 #[.agg (Zc G),.agg (Zc 1)] hc1 ?_;simp only[pv];refine q_v _ (Z4 _ _ _ _ rfl C1 0 rfl rfl false h2) ?_;refine q_p true (.bool false) ?_;refine q_m ?_;simp only[pv];refine ZI (by rfl) ?_;simp only[pv];refine ZI (by rfl) ?_;simp only[pv];refine ZI (by rfl) ?_;simp only[pv];refine ZI (by rfl) ?_;simp only[pv];refine ZI (by rfl) ?_;simp only[pv];refine ZI (by rfl) ?_;refine q_p false (.bool false) ?_;refine q_a ?_;simp only[pv];refine Z2 ?_;intro w3 hqb;replace sb:=b_o sb hqb;clear hqb;go_wp2;go_ret;exact⟨rfl,sb⟩
 ·rfl
theorem AI (P Q1 G:Nat)(w:World)(hP:P<2^256)(hQ:Q1<2^256)(hG:G<2^256)(h1:decide ((10:Int)<=(bitLen Q1:Int))=true)(h2:decide ((0:Int)<WB G 1)=true)(B3:Bool)(h3:decide (WB G P<(0:Int))=B3):
  Calls prog 39 #[.agg (mdC P Q1 G)] w fun e w'=>e= .returned (.bool B3)/\Below w.heap.size w w':=by
 have hle:=fun w'=>XW Q1 w' hQ
 have hof:=fun w'=>X1 1 w' (by decide)
 rw[show(1:Int).toNat=1 from rfl]at hof;have hc1:=fun w'=>XF G 1 w' hG (by decide)
 have hc2:=fun w'=>XF G P w' hG hP
 generalize (bitLen Q1:Nat)=BL at*;generalize WB G 1=C1 at*;generalize WB G P=C2 at*
 go_enter func39,ntmps39
 iterate 2 go_step
 apply Zd [] [_,_] trivial List.nodup_nil
 ·intro p;refine YD 107 _ rfl _ rfl ?_;simp only[pv];refine Zg (.bool false) (fun _=>rfl) ?_;simp only[pv];refine Zi ?_;intro w2 hkw hrw hnew hdis;have n1:=hnew 0 rfl;have zr1:Row w2 (p 0) (mdC P Q1 G) 107:=hrw 1 (107,mdC P Q1 G) rfl;have sb:=k_b hkw;clear hkw hrw hnew hdis n1;generalize p 0=g1 at*;have r1:=zr1;clear zr1;iterate 3 go_step
  refine ZF (by kernel_rfl) (by kernel_rfl) ?_;refine q_v _ (Zb 107 _ 1 rfl g1 0 rfl _ underlying107 _ rfl 3 sizeOf39) ?_;simp only[pv];refine Yq (by rfl) 39 _ rfl _ (4) rfl r1 (Zc Q1) (De P Q1 G) _ underlying39 rfl Ze ?_;simp only[pv];refine q_c 82 func82 #[.agg (Zc Q1)] hle ?_;simp only[pv];refine q_v _ (ZG _ _ _ _ rfl BL 10 rfl rfl true h1) ?_;refine q_m ?_;simp only[pv];refine q_v _ (Zb 107 _ 2 rfl g1 0 rfl _ underlying107 _ rfl 3 sizeOf39) ?_;simp only[pv];refine Yq (by rfl) 39 _ rfl _ (8) rfl r1 (Zc G) (C4 P Q1 G) _ underlying39 rfl Ze ?_;simp only[pv];refine q_c 42 func42 #[.int .i64 1] hof ?_;simp only[pv];refine q_c 83 func83 #[.agg (Zc G),.agg (Zc 1)] hc1 ?_;simp only[pv];refine q_v _ (Z4 _ _ _ _ rfl C1 0 rfl rfl true h2) ?_;refine q_p true (.bool true) ?_;refine q_m ?_;simp only[pv];refine q_v _ (Zb 107 _ 2 rfl g1 0 rfl _ underlying107 _ rfl 3 sizeOf39) ?_;simp only[pv];refine Yq (by rfl) 39 _ rfl _ (8) rfl r1 (Zc G) (C4 P Q1 G) _ underlying39 rfl Ze ?_;simp only[pv];refine q_v _ (Zb 107 _ 0 rfl g1 0 rfl _ underlying107 _ rfl 3 sizeOf39) ?_;simp only[pv];refine Yq (by rfl) 39 _ rfl _ (0) rfl r1 (Zc P) (Ao P Q1 G) _ underlying39 rfl Ze ?_;simp only[pv];refine q_c 83 func83 #[.agg (Zc G),.agg (Zc P)] hc2 ?_;simp only[pv];refine q_v _ (YV _ _ _ _ rfl C2 0 rfl rfl B3 h3) ?_;refine q_p true (.bool B3) ?_;refine q_a ?_;simp only[pv];refine Z2 ?_;intro w3 hqb;replace sb:=b_o sb hqb;clear hqb;go_wp2;go_ret;exact⟨rfl,sb⟩
 ·rfl
theorem S2 (P Q G:Nat)(w:World)(hP:P<2^256)(hQ:Q<2^256)(hG:G<2^256):
  Calls prog 39 #[.agg (mdC P Q G)] w (Rt (.bool (inB P Q G)) w):=by
 unfold inB;rw[<-Bn,<-Mq G 1,<-Qj G P]
 cases h1:decide ((10:Int)<=(bitLen Q:Int))with
 |false=>exact AG P Q G w hP hQ hG h1
 |true=>
  cases h2:decide ((0:Int)<WB G 1)with
  |false=>exact AH P Q G w hP hQ hG h1 h2
  |true=>exact AI P Q G w hP hQ hG h1 h2 _ rfl
structure GrpAt (w:World)(g gr gf P Q G:Nat):Prop where
 row:Row w g (gpC P Q G (some ⟨gr,0,none⟩) (some ⟨gf,0,none⟩)) 115
 ring:Row w gr (rgC P (miL P) (Ww P) (sqL P)) 157
 fld:Row w gf (rgC Q (miL Q) (Ww Q) (sqL Q)) 157
theorem GrpAt.below {w w':World}{g gr gf P Q G:Nat}(h:GrpAt w g gr gf P Q G)(hb:Below w.heap.size w w'):GrpAt w' g gr gf P Q G:=⟨h.row.belowAll hb,h.ring.belowAll hb,h.fld.belowAll hb⟩
theorem TS {q:Nat}(h:IsP q)(h2:2<q):q%2=1:=by
 by_cases e:q%2=0
 ·rcases h.2 2 (Nat.dvd_of_mod_eq_zero e)with h|h<;>omega
 ·omega
theorem Dg (n:Nat)(N:Nat->Nat)(A:Nat->Int)(G:Nat):grN n N A G=(decide (2<=n)&&(chN n N A&&(inB (N (n-1)) (N (n-2)) G&&decide (G^N (n-2)%N (n-1)=1)))):=by
 unfold grN inB
 have e:decide (1<G)=(decide (G≠0)&&decide (G≠1)):=by
  rw[<-Bool.decide_and];exact decide_eq_decide.2 (by omega)
 rw[e];simp only[Bool.and_assoc]
theorem Fl (n c:Nat)(ab:Option Addr)(G:Nat)(N:Nat->Nat)(A:Nat->Int)(gb ob:Nat)(bcs:Array Value)(tb:TypeId)(w:World)(hn:n<9223372036854775808)(h2:2<=n)(hG:G<2^256)(hL:LinksAt w ab n N A gb ob bcs tb)(hc0:chN n N A=true)(hib0:inB (N (n-1)) (N (n-2)) G=true)(hp0:G^N (n-2)%N (n-1)=1):
  Calls prog 10 #[.agg (paC ab n c G)] w fun e w'=> ∃g gr gf,e= .returned (.tuple #[.pointer (some ⟨g,0,none⟩),.int .i64 0])/\GrpAt w' g gr gf (N (n-1)) (N (n-2)) G/\Below w.heap.size w w':=by
 have hP:=hL.lt (n-1) (by omega);have hQ:=hL.lt (n-2) (by omega);have hch:=fun w' (hb:Below w.heap.size w w')=>Jw n c ab N A gb ob bcs tb w' (hL.below hb) hc0
 have HL:Hid (LinksAt w ab n N A gb ob bcs tb):=hL;clear hL;have pP:=TQ hc0 (n-1) (by omega);have pQ:=TQ hc0 (n-2) (by omega);have hib1:=hib0;unfold inB at hib1;simp only[Bool.and_eq_true,decide_eq_true_iff]at hib1;have oP:=TS pP (by omega);have tP:=pP.1;have oQ:=TS pQ (by omega);have tQ:=pQ.1;clear hc0 pP pQ hib1;have hex:=fun w' g (r:Row w' g (rgC (N (n-1)) (miL (N (n-1))) (Ww (N (n-1))) (sqL (N (n-1)))) 157)=>Qf G (N (n-2)) (N (n-1)) g w' hG hQ hP oP tP r
 have hof:=fun w'=>X1 1 w' (by decide)
 rw[show(1:Int).toNat=1 from rfl]at hof;have hne:=Po 1;rw[hp0]at hex;clear hp0
 go_enter func10,ntmps10
 iterate 2 go_step
 apply Zd [] [_,_,_] trivial List.nodup_nil
 ·intro p;refine YD 41 _ rfl _ rfl ?_;simp only[pv];refine Zg (.pointer none) (fun _=>rfl) ?_;simp only[pv];refine Zg (.int .i64 0) (fun _=>rfl) ?_;simp only[pv];refine Zi ?_;intro w2 hkw hrw hnew hdis;have n1:=hnew 0 rfl;have zr1:Row w2 (p 0) (paC ab n c G) 41:=hrw 1 (41,paC ab n c G) rfl;have sb:=k_b hkw;clear hkw hrw hnew hdis n1;generalize p 0=g1 at*;have r1:=zr1;clear zr1;iterate 4 go_step
  refine ZQ ?_;refine q_v _ (Zb 41 _ 0 rfl g1 0 rfl _ underlying41 _ rfl 0 sizeOf36) ?_;simp only[pv];refine ZH (by rfl) 36 _ rfl _ (0) rfl r1 (.slice ab n c) rfl isAgg36 ?_;simp only[pv];refine q_v _ (n_l ab n c Wp) ?_;refine q_v _ (Xy n 2) ?_;refine q_m ?_;simp only[pv];refine q_v _ (Zb 41 _ 0 rfl g1 0 rfl _ underlying41 _ rfl 0 sizeOf36) ?_;simp only[pv];refine ZH (by rfl) 36 _ rfl _ (0) rfl r1 (.slice ab n c) rfl isAgg36 ?_;simp only[pv];refine q_k 37 func37 #[.slice ab n c] (fun w' hb=>hch w' (Zk sb (Nat.le_refl _) hb)) ?_;simp only[pv];refine q_v _ (ZC .i64 _ _ _ _ rfl 0 0 rfl rfl false rfl) ?_;refine q_p false (.bool false) ?_;simp only[pv];refine Z2 ?_;intro w3 hqb;replace r1:=r1.belowAll hqb;replace sb:=b_o sb hqb;clear hqb;clear hch;have hmd:=fun w' (hb:Below w.heap.size w w')=>OH n c ab G N A gb ob bcs tb w' h2 hn (HL.out.below hb)
  have hib:=fun w'=>S2 (N (n-1)) (N (n-2)) G w' hP hQ hG
  rw[hib0]at hib;clear hib0;generalize hPP:N (n-1)=PP at*;generalize hQQ:N (n-2)=QQ at*;iterate 7 go_step
  refine rp ?_;refine Zf (by rfl) 41 _ rfl _ 0 rfl r1.r _ (Zu _) _ underlying41 rfl Y3 ?_;simp only[pv];refine p_c 38 func38 #[.agg (paC ab n c G)] (hmd _ sb) ?_;intro z3001 k;simp only[pv];replace r1:=k.ro r1;replace sb:=kk sb k;clear k;refine ZJ (by rfl) 107 rfl _ MC ?_;intro g4 z3002 n0 r4 k;simp only[pv];have d1x4:=l_l r1.lt n0;have b4:=Nat.le_trans sb.size n0;clear n0;replace r1:=k.ro r1;replace sb:=kk sb k;clear k;refine Z0 (by rfl) 107 _ _ rfl _ rfl r4 (mdC PP QQ G) rfl (by exact Uv) (by rfl) (Hh _ _ _) ?_;clear r4;intro z3003 r4 k;simp only[Act.put];replace r1:=k.ro r1;replace sb:=kk sb k;clear k;refine Za ?_;clear hmd;iterate 4 go_step
  refine rp ?_;refine Zf (by rfl) 107 _ rfl _ 0 rfl r4.r _ (Zu _) _ underlying107 rfl Uv ?_;simp only[pv];refine p_c 39 func39 #[.agg (mdC PP QQ G)] (hib _) ?_;intro z4001 k;simp only[pv];replace r4:=k.ro r4;replace sb:=kk sb k;clear k;refine p_v _ (Zp _ _ rfl true rfl) (Za ?_);simp only[pv];clear hib;iterate 7 go_step
  refine rp ?_;refine p_v _ (Zb 107 _ 0 rfl g4 0 rfl _ underlying107 _ rfl 3 sizeOf39) ?_;simp only[pv];refine Zf (by rfl) 39 _ rfl _ (0) rfl r4.r (Zc PP) (Ao PP QQ G) _ underlying39 rfl Ze ?_;simp only[pv];refine p_f 40 func40 #[.agg (Zc PP)] (R7 PP _ oP tP hP) ?_;rintro _ z6002 ⟨gR,rfl,nR,rR,hb⟩;refine⟨_,rfl,?_⟩;simp only[pv];clear nR;have k:=Kept.ofBelow hb;clear hb;replace r4:=k.ro r4;replace sb:=kk sb k;clear k;refine p_m ?_;refine p_e ?_;refine p_e ?_;refine p_a ?_;refine p_a (Za ?_);simp only[pv];iterate 3 go_step
  refine rp ?_;refine p_v _ (Zb 107 _ 1 rfl g4 0 rfl _ underlying107 _ rfl 3 sizeOf39) ?_;simp only[pv];refine Zf (by rfl) 39 _ rfl _ (4) rfl r4.r (Zc QQ) (De PP QQ G) _ underlying39 rfl Ze ?_;simp only[pv];refine p_f 40 func40 #[.agg (Zc QQ)] (R7 QQ _ oQ tQ hQ) ?_;rintro _ z7002 ⟨gF,rfl,nF,rF,hb⟩;refine⟨_,rfl,?_⟩;simp only[pv];clear nF;have k:=Kept.ofBelow hb;clear hb;replace r4:=k.ro r4;replace rR:=k.ro rR;replace sb:=kk sb k;clear k;refine p_m ?_;refine p_e ?_;refine p_e ?_;refine p_a ?_;refine p_a (Za ?_);simp only[pv];iterate 4 go_step
  refine rp ?_;refine p_m ?_;simp only[pv];refine p_v _ (Zb 107 _ 2 rfl g4 0 rfl _ underlying107 _ rfl 3 sizeOf39) ?_;simp only[pv];refine Zf (by rfl) 39 _ rfl _ (8) rfl r4.r (Zc G) (C4 PP QQ G) _ underlying39 rfl Ze ?_;simp only[pv];refine p_v _ (Zb 107 _ 1 rfl g4 0 rfl _ underlying107 _ rfl 3 sizeOf39) ?_;simp only[pv];refine Zf (by rfl) 39 _ rfl _ (4) rfl r4.r (Zc QQ) (De PP QQ G) _ underlying39 rfl Ze ?_;simp only[pv];refine p_c 41 func41 #[.pointer (some ⟨gR,0,none⟩),.agg (Zc G),.agg (Zc QQ)] (hex _ gR rR) ?_;intro z8005 k;simp only[pv];replace r4:=k.ro r4;replace rR:=k.ro rR;replace rF:=k.ro rF;replace sb:=kk sb k;clear k;refine p_c 42 func42 #[.int .i64 1] (hof _) ?_;intro z8006 k;simp only[pv];replace r4:=k.ro r4;replace rR:=k.ro rR;replace rF:=k.ro rF;replace sb:=kk sb k;clear k;refine p_v (.bool false) (fun w'=>(Yf _ _ _ rfl 1 1 rfl rfl w').trans (by rw[hne])) (Za ?_);simp only[pv];clear hex hof hne;iterate 7 go_step
  refine rp ?_;refine Zf (by rfl) 107 _ rfl _ 0 rfl r4.r _ (Zu _) _ underlying107 rfl Uv ?_;refine p_m ?_;refine p_m ?_;simp only[pv];refine p_v _ (Zm _ _ rfl [(0,.agg (mdC PP QQ G)),(1,.pointer (some ⟨gR,0,none⟩)),(2,.pointer (some ⟨gF,0,none⟩))] rfl _ (Jz PP QQ G _ _)) ?_;simp only[pv];refine ZD (by rfl) 115 _ rfl (gpC PP QQ G (some ⟨gR,0,none⟩) (some ⟨gF,0,none⟩)) rfl ?_;intro g48 z10004 n0 r48 k;simp only[pv];clear n0;replace r4:=k.ro r4;replace rR:=k.ro rR;replace rF:=k.ro rF;replace sb:=kk sb k;clear k;refine p_a ?_;refine p_v (.int .i64 0) (fun _=>rfl) (Za ?_);simp only[pv];go_wp2;go_ret2;subst hPP hQQ;exact⟨g48,gR,gF,rfl,⟨r48,rR,rF⟩,sb⟩
 ·rfl
theorem Ps (n c:Nat)(ab:Option Addr)(G:Nat)(N:Nat->Nat)(A:Nat->Int)(gb ob:Nat)(bcs:Array Value)(tb:TypeId)(w:World)(hn:n<9223372036854775808)(hG:G<2^256)(hL:LinksAt w ab n N A gb ob bcs tb)(h:grN n N A G=true):
  Calls prog 10 #[.agg (paC ab n c G)] w fun e w'=> ∃g gr gf,e= .returned (.tuple #[.pointer (some ⟨g,0,none⟩),.int .i64 0])/\GrpAt w' g gr gf (N (n-1)) (N (n-2)) G/\Below w.heap.size w w':=by
 rw[Dg,Bool.and_eq_true,Bool.and_eq_true,Bool.and_eq_true,decide_eq_true_iff,decide_eq_true_iff]at h;exact Fl n c ab G N A gb ob bcs tb w hn h.1 hG hL h.2.1 h.2.2.1 h.2.2.2
end Go.Proofs.YtcdahmommonnfaaGreatDoor
