import Derived.Test.YtnagnkhbamhfmaaGreatDoorGH
import Derived.Test.YtnagnkhbamhfmaaGreatDoorGWalk
set_option maxRecDepth 100000
set_option maxHeartbeats 8000000
namespace Go.Proofs.YtnagnkhbamhfmaaGreatDoor
set_option linter.all false
open Go.RowKit
open Go.Proofs.Tryz
theorem Yy (c:Array Value): ∀j v,c.toList[j]?=some v->c[0+j]?=some v:=fun j v h=>by
 rw[A_,<-k_];exact h
theorem yq {P:Program}{o:Oper}{ρ:Operand->Value}(t:TypeId)(x y:Operand)(u:TypeId)(ho:o.op= .binOp .geq t x y u)(n m:Int)(hx:ρ x= .int .i64 n)(hy:ρ y= .int .i64 m)(b:Bool)(hb:decide (m<=n)=b)(w:World):
  (execOp ρ o).run P w= .ok (.value (.bool b)) w:=by
 subst hb;unfold execOp;simp only[ho,hx,hy];simp[go_sem]
theorem BP {P:Program}{o:Oper}{ρ:Operand->Value}(k:IntKind)(t:TypeId)(x y:Operand)(u:TypeId)(ho:o.op= .binOp .eql t x y u)(n m:Int)(hx:ρ x= .int k n)(hy:ρ y= .int k m)(b:Bool)(hb:decide (n=m)=b)(w:World):
  (execOp ρ o).run P w= .ok (.value (.bool b)) w:=by
 subst hb;unfold execOp;simp only[ho,hx,hy];simp[eqGuard,go_sem];rfl
theorem yr (x y M:Nat)(h:M<=x+y)(hx:x<M)(hy:y<M)(hM:M<2^256):Zb (WC (x+y) M)=Zb ((x+y)%M):=by
 rw[show x+y=x+y-M+M*1 by omega,G_,g_ (show x+y-M<M by omega)];refine(W3 _ _).2 ?_;unfold WC;rw[show x+y-M+M*1+(2^256-M)=x+y-M+2^256*1 by omega,G_]
theorem yt {A B:Nat}(h:B<=A):decide ((0:Int)<=VB A B)=true:=by
 refine c_ ?_;unfold VB;rw[j_ (by omega)]
 split<;>omega
theorem yw {A B:Nat}(h:A<B):decide ((0:Int)<=VB A B)=false:=by
 refine d_ ?_;unfold VB;rw[i_ h];omega
theorem JS (A B M:Nat)(w:World)(HV:decide (M%2^256=0%2^256)=true):
  Calls Tryz.prog 142 #[.agg (Zb A),.agg (Zb B),.agg (Zb M)] w fun e w'=>e= .returned (.tuple #[.agg (Zb 0),.int .i64 1])/\Below w.heap.size w w':=by
 go_enter func142,ntmps142
 iterate 2 go_step
 refine rp ?_;refine Zy (by rfl) 57 _ rfl (_) rfl ?_;intro g3 z0 n0 r3 k;refine p_W ?_;clear n0;have sb:=k_b k;clear k;refine Zy (by rfl) 57 _ rfl (_) rfl ?_;intro g4 z1 n0 r4 k;refine p_W ?_;clear n0;replace r3:=k.ro r3;replace sb:=kk sb k;clear k;refine Zy (by rfl) 57 _ rfl (_) rfl ?_;intro g5 z2 n0 r5 k;refine p_W ?_;clear n0;replace r3:=k.ro r3;replace r4:=k.ro r4;replace sb:=kk sb k;clear k;refine ZU (by rfl) 57 rfl _ Zm ?_;intro g6 z3 n0 r6 k;refine p_W ?_;have d3x6:=l_l r3.lt n0;have d4x6:=l_l r4.lt n0;have d5x6:=l_l r5.lt n0;have b6:=f_ sb.size n0;clear n0;replace r3:=k.ro r3;replace r4:=k.ro r4;replace r5:=k.ro r5;replace sb:=kk sb k;clear k;refine p_V (.int .i64 0) (fun _=>rfl) ?_;iterate 4 go_step
 refine rp ?_;refine ZC (by rfl) 57 _ rfl _ (0) rfl r5.r (Zb M) (Yy _) _ b_ rfl Zc (p_W ?_);refine p_V _ (ZG _ rfl _ ZA) ?_;refine p_V (.bool true) (fun w'=>(ZJ _ _ _ rfl M 0 rfl rfl w').trans (by rw[HV])) ?_;iterate 4 go_step
 refine rp ?_;refine p_V _ (ZG _ rfl _ ZA) ?_;refine Xo (by rfl) 57 _ _ rfl _ rfl r6 (Zb 0) rfl (by exact Zc) (by simp only[Zk]) (Zu _) ?_;clear r6;intro z2001 r6 k;simp only[Act.put];replace r3:=k.ro r3;replace r4:=k.ro r4;replace r5:=k.ro r5;replace sb:=kk sb k;clear k;refine p_V (.int .i64 1) (fun _=>rfl) ?_;go_wp2;exact Yb rfl _ rfl r6 4 _ b_ (by exact Zc) rfl _ rfl ⟨rfl,sb⟩
theorem JT (A B M x y S V c:Nat)(w:World)(HV:decide (M%2^256=0%2^256)=false)
  (hra: ∀w',Calls Tryz.prog 156 #[.agg (Zb A),.agg (Zb M)] w' (Rt (.agg (Zb x)) w'))
  (hrb: ∀w',Calls Tryz.prog 156 #[.agg (Zb B),.agg (Zb M)] w' (Rt (.agg (Zb y)) w'))
  (had: ∀w',Calls Tryz.prog 184 #[.agg (Zb x),.agg (Zb y)] w' (Rt (.tuple #[.agg (Zb S),.int .i64 (c:Nat)]) w'))
  (hc:c=1)(z:Int)(hsu: ∀w',Calls Tryz.prog 154 #[.agg (Zb S),.agg (Zb M)] w' (Rt (.tuple #[.agg (Zb V),.int .i64 z]) w')):
  Calls Tryz.prog 142 #[.agg (Zb A),.agg (Zb B),.agg (Zb M)] w fun e w'=>e= .returned (.tuple #[.agg (Zb V),.int .i64 0])/\Below w.heap.size w w':=by
 go_enter func142,ntmps142
 iterate 2 go_step
 refine rp ?_;refine Zy (by rfl) 57 _ rfl (_) rfl ?_;intro g3 z0 n0 r3 k;refine p_W ?_;clear n0;have sb:=k_b k;clear k;refine Zy (by rfl) 57 _ rfl (_) rfl ?_;intro g4 z1 n0 r4 k;refine p_W ?_;clear n0;replace r3:=k.ro r3;replace sb:=kk sb k;clear k;refine Zy (by rfl) 57 _ rfl (_) rfl ?_;intro g5 z2 n0 r5 k;refine p_W ?_;clear n0;replace r3:=k.ro r3;replace r4:=k.ro r4;replace sb:=kk sb k;clear k;refine ZU (by rfl) 57 rfl _ Zm ?_;intro g6 z3 n0 r6 k;refine p_W ?_;have d5x6:=l_l r5.lt n0;have b6:=f_ sb.size n0;clear n0;replace r3:=k.ro r3;replace r4:=k.ro r4;replace r5:=k.ro r5;replace sb:=kk sb k;clear k;refine p_V (.int .i64 0) (fun _=>rfl) ?_;iterate 4 go_step
 refine rp ?_;refine ZC (by rfl) 57 _ rfl _ (0) rfl r5.r (Zb M) (Yy _) _ b_ rfl Zc (p_W ?_);refine p_V _ (ZG _ rfl _ ZA) ?_;refine p_V (.bool false) (fun w'=>(ZJ _ _ _ rfl M 0 rfl rfl w').trans (by rw[HV])) ?_;iterate 7 go_step
 apply Zg (by kernel_rfl) [] [_,_,_,_,_,_,_,_,_,_,_,_,_] trivial a_
 ·intro p;refine m_L r3 ?_;refine m_L r5 ?_;refine m_C 156 gD0 #[.agg (Zb A),.agg (Zb M)] hra ?_;refine m_L r4 ?_;refine m_L r5 ?_;refine m_C 156 gD0 #[.agg (Zb B),.agg (Zb M)] hrb ?_;refine m_C 184 func184 #[.agg (Zb x),.agg (Zb y)] had ?_;refine m_n ?_;refine m_W ?_;refine m_p 21 S ?_;simp only[Act.put];refine m_W ?_;refine Zd ?_;intro w2 hkw hrw hnew hdis;have n8:=hnew 10 rfl;have zr8:Row w2 (p 10) (Zb S) 57:=hrw 21 (57,Zb S) rfl;have d5x8:=l_l r5.lt n8;have d6x8:=l_l r6.lt n8;replace r5:=hkw.ro r5;replace r6:=hkw.ro r6;have b8:=f_ sb.size n8;replace sb:=kk sb hkw;clear hkw hrw hnew hdis n8;generalize p 10=g8 at*;have r8:=zr8;clear zr8;iterate 4 go_step
  refine r_p ?_;refine p_V _ (BP .i64 _ _ _ _ rfl c 1 rfl rfl true (c_ (by omega))) ?_;refine p_K true (.bool true) ?_;iterate 3 go_step
  refine rp ?_;refine ZC (by rfl) 57 _ rfl _ (0) rfl r8.r (Zb S) (Yy _) _ b_ rfl Zc (p_W ?_);refine ZC (by rfl) 57 _ rfl _ (0) rfl r5.r (Zb M) (Yy _) _ b_ rfl Zc (p_W ?_);refine p_c 154 iS0 #[.agg (Zb S),.agg (Zb M)] (hsu _) ?_;intro z5002 k;refine p_W ?_;replace r5:=k.ro r5;replace r6:=k.ro r6;replace r8:=k.ro r8;replace sb:=kk sb k;clear k;refine p_W ?_;refine Xo (by rfl) 57 _ _ rfl _ rfl r8 (Zb V) rfl (by exact Zc) (by simp only[Zk]) (Zu _) ?_;clear r8;intro z5006 r8 k;simp only[Act.put];replace r5:=k.ro r5;replace r6:=k.ro r6;replace sb:=kk sb k;clear k;refine p_W ?_;iterate 3 go_step
  refine rp ?_;refine ZC (by rfl) 57 _ rfl _ (0) rfl r8.r (Zb V) (Yy _) _ b_ rfl Zc (p_W ?_);refine Xo (by rfl) 57 _ _ rfl _ rfl r6 (Zb V) rfl (by exact Zc) (by simp only[Zk]) (Zu _) ?_;clear r6;intro z6001 r6 k;simp only[Act.put];replace r5:=k.ro r5;replace r8:=k.ro r8;replace sb:=kk sb k;clear k;refine p_V (.int .i64 0) (fun _=>rfl) ?_;go_wp2;exact Yb rfl _ rfl r6 4 _ b_ (by exact Zc) rfl _ rfl ⟨rfl,sb⟩
 ·kernel_rfl
theorem JU (A B M x y S V c:Nat)(w:World)(HV:decide (M%2^256=0%2^256)=false)
  (hra: ∀w',Calls Tryz.prog 156 #[.agg (Zb A),.agg (Zb M)] w' (Rt (.agg (Zb x)) w'))
  (hrb: ∀w',Calls Tryz.prog 156 #[.agg (Zb B),.agg (Zb M)] w' (Rt (.agg (Zb y)) w'))
  (had: ∀w',Calls Tryz.prog 184 #[.agg (Zb x),.agg (Zb y)] w' (Rt (.tuple #[.agg (Zb S),.int .i64 (c:Nat)]) w'))
  (hc:c=0)(z:Int)(hsu: ∀w',Calls Tryz.prog 154 #[.agg (Zb S),.agg (Zb M)] w' (Rt (.tuple #[.agg (Zb V),.int .i64 z]) w'))(k:Int)(hcm: ∀w',Calls Tryz.prog 112 #[.agg (Zb S),.agg (Zb M)] w' (Rt (.int .i64 k) w'))(hk:decide (0<=k)=true):
  Calls Tryz.prog 142 #[.agg (Zb A),.agg (Zb B),.agg (Zb M)] w fun e w'=>e= .returned (.tuple #[.agg (Zb V),.int .i64 0])/\Below w.heap.size w w':=by
 go_enter func142,ntmps142
 iterate 2 go_step
 refine rp ?_;refine Zy (by rfl) 57 _ rfl (_) rfl ?_;intro g3 z0 n0 r3 k;refine p_W ?_;clear n0;have sb:=k_b k;clear k;refine Zy (by rfl) 57 _ rfl (_) rfl ?_;intro g4 z1 n0 r4 k;refine p_W ?_;clear n0;replace r3:=k.ro r3;replace sb:=kk sb k;clear k;refine Zy (by rfl) 57 _ rfl (_) rfl ?_;intro g5 z2 n0 r5 k;refine p_W ?_;clear n0;replace r3:=k.ro r3;replace r4:=k.ro r4;replace sb:=kk sb k;clear k;refine ZU (by rfl) 57 rfl _ Zm ?_;intro g6 z3 n0 r6 k;refine p_W ?_;have d5x6:=l_l r5.lt n0;have b6:=f_ sb.size n0;clear n0;replace r3:=k.ro r3;replace r4:=k.ro r4;replace r5:=k.ro r5;replace sb:=kk sb k;clear k;refine p_V (.int .i64 0) (fun _=>rfl) ?_;iterate 4 go_step
 refine rp ?_;refine ZC (by rfl) 57 _ rfl _ (0) rfl r5.r (Zb M) (Yy _) _ b_ rfl Zc (p_W ?_);refine p_V _ (ZG _ rfl _ ZA) ?_;refine p_V (.bool false) (fun w'=>(ZJ _ _ _ rfl M 0 rfl rfl w').trans (by rw[HV])) ?_;iterate 7 go_step
 apply Zg (by kernel_rfl) [] [_,_,_,_,_,_,_,_,_,_,_,_,_] trivial a_
 ·intro p;refine m_L r3 ?_;refine m_L r5 ?_;refine m_C 156 gD0 #[.agg (Zb A),.agg (Zb M)] hra ?_;refine m_L r4 ?_;refine m_L r5 ?_;refine m_C 156 gD0 #[.agg (Zb B),.agg (Zb M)] hrb ?_;refine m_C 184 func184 #[.agg (Zb x),.agg (Zb y)] had ?_;refine m_n ?_;refine m_W ?_;refine m_p 21 S ?_;simp only[Act.put];refine m_W ?_;refine Zd ?_;intro w2 hkw hrw hnew hdis;have n8:=hnew 10 rfl;have zr8:Row w2 (p 10) (Zb S) 57:=hrw 21 (57,Zb S) rfl;have d5x8:=l_l r5.lt n8;have d6x8:=l_l r6.lt n8;replace r5:=hkw.ro r5;replace r6:=hkw.ro r6;have b8:=f_ sb.size n8;replace sb:=kk sb hkw;clear hkw hrw hnew hdis n8;generalize p 10=g8 at*;have r8:=zr8;clear zr8;iterate 4 go_step
  refine r_p ?_;refine p_V _ (BP .i64 _ _ _ _ rfl c 1 rfl rfl false (d_ (by omega))) ?_;refine ZC (by rfl) 57 _ rfl _ (0) rfl r8.r (Zb S) (Yy _) _ b_ rfl Zc (p_W ?_);refine ZC (by rfl) 57 _ rfl _ (0) rfl r5.r (Zb M) (Yy _) _ b_ rfl Zc (p_W ?_);refine p_c 112 iL0 #[.agg (Zb S),.agg (Zb M)] (hcm _) ?_;intro z4005 k;refine p_W ?_;replace r5:=k.ro r5;replace r6:=k.ro r6;replace r8:=k.ro r8;replace sb:=kk sb k;clear k;refine p_V _ (yq _ _ _ _ rfl k 0 rfl rfl true hk) ?_;refine p_K false (.bool true) ?_;iterate 3 go_step
  refine rp ?_;refine ZC (by rfl) 57 _ rfl _ (0) rfl r8.r (Zb S) (Yy _) _ b_ rfl Zc (p_W ?_);refine ZC (by rfl) 57 _ rfl _ (0) rfl r5.r (Zb M) (Yy _) _ b_ rfl Zc (p_W ?_);refine p_c 154 iS0 #[.agg (Zb S),.agg (Zb M)] (hsu _) ?_;intro z5002 k;refine p_W ?_;replace r5:=k.ro r5;replace r6:=k.ro r6;replace r8:=k.ro r8;replace sb:=kk sb k;clear k;refine p_W ?_;refine Xo (by rfl) 57 _ _ rfl _ rfl r8 (Zb V) rfl (by exact Zc) (by simp only[Zk]) (Zu _) ?_;clear r8;intro z5006 r8 k;simp only[Act.put];replace r5:=k.ro r5;replace r6:=k.ro r6;replace sb:=kk sb k;clear k;refine p_W ?_;iterate 3 go_step
  refine rp ?_;refine ZC (by rfl) 57 _ rfl _ (0) rfl r8.r (Zb V) (Yy _) _ b_ rfl Zc (p_W ?_);refine Xo (by rfl) 57 _ _ rfl _ rfl r6 (Zb V) rfl (by exact Zc) (by simp only[Zk]) (Zu _) ?_;clear r6;intro z6001 r6 k;simp only[Act.put];replace r5:=k.ro r5;replace r8:=k.ro r8;replace sb:=kk sb k;clear k;refine p_V (.int .i64 0) (fun _=>rfl) ?_;go_wp2;exact Yb rfl _ rfl r6 4 _ b_ (by exact Zc) rfl _ rfl ⟨rfl,sb⟩
 ·kernel_rfl
theorem JV (A B M x y S V c:Nat)(w:World)(HV:decide (M%2^256=0%2^256)=false)
  (hra: ∀w',Calls Tryz.prog 156 #[.agg (Zb A),.agg (Zb M)] w' (Rt (.agg (Zb x)) w'))
  (hrb: ∀w',Calls Tryz.prog 156 #[.agg (Zb B),.agg (Zb M)] w' (Rt (.agg (Zb y)) w'))
  (had: ∀w',Calls Tryz.prog 184 #[.agg (Zb x),.agg (Zb y)] w' (Rt (.tuple #[.agg (Zb S),.int .i64 (c:Nat)]) w'))
  (hc:c=0)(k:Int)(hcm: ∀w',Calls Tryz.prog 112 #[.agg (Zb S),.agg (Zb M)] w' (Rt (.int .i64 k) w'))(hk:decide (0<=k)=false):
  Calls Tryz.prog 142 #[.agg (Zb A),.agg (Zb B),.agg (Zb M)] w fun e w'=>e= .returned (.tuple #[.agg (Zb S),.int .i64 0])/\Below w.heap.size w w':=by
 go_enter func142,ntmps142
 iterate 2 go_step
 refine rp ?_;refine Zy (by rfl) 57 _ rfl (_) rfl ?_;intro g3 z0 n0 r3 k;refine p_W ?_;clear n0;have sb:=k_b k;clear k;refine Zy (by rfl) 57 _ rfl (_) rfl ?_;intro g4 z1 n0 r4 k;refine p_W ?_;clear n0;replace r3:=k.ro r3;replace sb:=kk sb k;clear k;refine Zy (by rfl) 57 _ rfl (_) rfl ?_;intro g5 z2 n0 r5 k;refine p_W ?_;clear n0;replace r3:=k.ro r3;replace r4:=k.ro r4;replace sb:=kk sb k;clear k;refine ZU (by rfl) 57 rfl _ Zm ?_;intro g6 z3 n0 r6 k;refine p_W ?_;have d5x6:=l_l r5.lt n0;have b6:=f_ sb.size n0;clear n0;replace r3:=k.ro r3;replace r4:=k.ro r4;replace r5:=k.ro r5;replace sb:=kk sb k;clear k;refine p_V (.int .i64 0) (fun _=>rfl) ?_;iterate 4 go_step
 refine rp ?_;refine ZC (by rfl) 57 _ rfl _ (0) rfl r5.r (Zb M) (Yy _) _ b_ rfl Zc (p_W ?_);refine p_V _ (ZG _ rfl _ ZA) ?_;refine p_V (.bool false) (fun w'=>(ZJ _ _ _ rfl M 0 rfl rfl w').trans (by rw[HV])) ?_;iterate 7 go_step
 apply Zg (by kernel_rfl) [] [_,_,_,_,_,_,_,_,_,_,_,_,_] trivial a_
 ·intro p;refine m_L r3 ?_;refine m_L r5 ?_;refine m_C 156 gD0 #[.agg (Zb A),.agg (Zb M)] hra ?_;refine m_L r4 ?_;refine m_L r5 ?_;refine m_C 156 gD0 #[.agg (Zb B),.agg (Zb M)] hrb ?_;refine m_C 184 func184 #[.agg (Zb x),.agg (Zb y)] had ?_;refine m_n ?_;refine m_W ?_;refine m_p 21 S ?_;simp only[Act.put];refine m_W ?_;refine Zd ?_;intro w2 hkw hrw hnew hdis;have n8:=hnew 10 rfl;have zr8:Row w2 (p 10) (Zb S) 57:=hrw 21 (57,Zb S) rfl;have d6x8:=l_l r6.lt n8;replace r5:=hkw.ro r5;replace r6:=hkw.ro r6;replace sb:=kk sb hkw;clear hkw hrw hnew hdis n8;generalize p 10=g8 at*;have r8:=zr8;clear zr8;iterate 4 go_step
  refine r_p ?_;refine p_V _ (BP .i64 _ _ _ _ rfl c 1 rfl rfl false (d_ (by omega))) ?_;refine ZC (by rfl) 57 _ rfl _ (0) rfl r8.r (Zb S) (Yy _) _ b_ rfl Zc (p_W ?_);refine ZC (by rfl) 57 _ rfl _ (0) rfl r5.r (Zb M) (Yy _) _ b_ rfl Zc (p_W ?_);refine p_c 112 iL0 #[.agg (Zb S),.agg (Zb M)] (hcm _) ?_;intro z4005 k;refine p_W ?_;replace r5:=k.ro r5;replace r6:=k.ro r6;replace r8:=k.ro r8;replace sb:=kk sb k;clear k;refine p_V _ (yq _ _ _ _ rfl k 0 rfl rfl false hk) ?_;refine p_K false (.bool false) ?_;iterate 7 go_step
  refine rp ?_;refine ZC (by rfl) 57 _ rfl _ (0) rfl r8.r (Zb S) (Yy _) _ b_ rfl Zc (p_W ?_);refine Xo (by rfl) 57 _ _ rfl _ rfl r6 (Zb S) rfl (by exact Zc) (by simp only[Zk]) (Zu _) ?_;clear r6;intro z6001 r6 k;simp only[Act.put];replace r5:=k.ro r5;replace r8:=k.ro r8;replace sb:=kk sb k;clear k;refine p_V (.int .i64 0) (fun _=>rfl) ?_;go_wp2;exact Yb rfl _ rfl r6 4 _ b_ (by exact Zc) rfl _ rfl ⟨rfl,sb⟩
 ·kernel_rfl
theorem NV (A B M:Nat)(w:World)(hA:A<2^256)(hB:B<2^256)(hM:M<2^256):
  Calls Tryz.prog 142 #[.agg (Zb A),.agg (Zb B),.agg (Zb M)] w (Rt (.tuple #[.agg (Zb (Sy (A+B) M)),.int .i64 (U8 M)]) w):=by
 by_cases h0:M=0
 ·have h:=JS A B M w (by rw[h0];rfl);rw[show Sy (A+B) M=0 from i_ h0,show U8 M=1 from i_ h0];exact h
 ·have hra:=fun w'=>Xw A M w' hA (by omega) hM
  have hrb:=fun w'=>Xw B M w' hB (by omega) hM
  have hx:=n_ A (show 0<M by omega);have hy:=n_ B (show 0<M by omega)
  have HV:decide (M%2^256=0%2^256)=false:=by
   rw[g_ hM];exact d_ h0
  rw[show Sy (A+B) M=(A%M+B%M)%M from(j_ h0).trans (eV0 A B M),show U8 M=0 from j_ h0];generalize A%M=x at*;generalize B%M=y at*;have had:=fun w'=>Ua x y w'
  have hsu:=fun w'=>X4 (x+y) M w' hM
  have hcc:cN x y 256=if 2^256<=x+y then 1 else 0:=by rw[Kp,g_ (by omega),g_ (by omega)]
  by_cases h1:M<=x+y
  ·rw[yr x y M h1 hx hy hM]at hsu;by_cases h2:2^256<=x+y
   ·rw[i_ h2]at hcc;exact JT A B M x y (x+y) _ _ w HV hra hrb had hcc _ hsu
   ·rw[j_ h2]at hcc;exact JU A B M x y (x+y) _ _ w HV hra hrb had hcc _ hsu _ (fun w'=>Wn (x+y) M w' (by omega) hM) (yt h1)
  ·rw[j_ (by omega)]at hcc;rw[g_ (show x+y<M by omega)];exact JV A B M x y (x+y) 0 _ w HV hra hrb had hcc _ (fun w'=>Wn (x+y) M w' (by omega) hM) (yw (by omega))
