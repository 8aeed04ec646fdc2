import Derived.Test.YtnagnkhbamhfmaaGreatDoorGH
import Derived.Test.YtnagnkhbamhfmaaGreatDoorGWalk
set_option maxRecDepth 100000
set_option maxHeartbeats 8000000
namespace Go.Proofs.YtnagnkhbamhfmaaGreatDoor
set_option linter.all false
open Go.RowKit
open Go.Proofs.Tryz
theorem Yt (c:Array Value): ∀j v,c.toList[j]?=some v->c[0+j]?=some v:=fun j v h=>by
 rw[B_,<-o_];exact h
theorem zr {P:Program}{o:Oper}{ρ:Operand->Value}(t:TypeId)(x y:Operand)(u:TypeId)(ho:o.op= .binOp .geq t x y u)(n m:Int)(hx:ρ x= .int .i64 n)(hy:ρ y= .int .i64 m)(b:Bool)(hb:decide (m<=n)=b)(w:World):
  (execOp ρ o).run P w= .ok (.value (.bool b)) w:=by
 subst hb;unfold execOp;simp only[ho,hx,hy];simp[go_sem]
theorem C9 {P:Program}{o:Oper}{ρ:Operand->Value}(k:IntKind)(t:TypeId)(x y:Operand)(u:TypeId)(ho:o.op= .binOp .eql t x y u)(n m:Int)(hx:ρ x= .int k n)(hy:ρ y= .int k m)(b:Bool)(hb:decide (n=m)=b)(w:World):
  (execOp ρ o).run P w= .ok (.value (.bool b)) w:=by
 subst hb;unfold execOp;simp only[ho,hx,hy];simp[eqGuard,go_sem];rfl
theorem zt (x y M:Nat)(h:M<=x+y)(hx:x<M)(hy:y<M)(hM:M<2^256):Zc (WC (x+y) M)=Zc ((x+y)%M):=by
 rw[show x+y=x+y-M+M*1 by omega,G_,g_ (show x+y-M<M by omega)];refine(W5 _ _).2 ?_;unfold WC;rw[show x+y-M+M*1+(2^256-M)=x+y-M+2^256*1 by omega,G_]
theorem zv {A B:Nat}(h:B<=A):decide ((0:Int)<=Wn A B)=true:=by
 refine d_ ?_;unfold Wn;rw[i_ (by omega)]
 split<;>omega
theorem zw {A B:Nat}(h:A<B):decide ((0:Int)<=Wn A B)=false:=by
 refine e_ ?_;unfold Wn;rw[j_ h];omega
theorem Jg (A B M:Nat)(w:World)(HV:decide (M%2^256=0%2^256)=true):
  Calls prog 142 #[.agg (Zc A),.agg (Zc B),.agg (Zc M)] w fun e w'=>e= .returned (.tuple #[.agg (Zc 0),.int .i64 1])/\Below w.heap.size w w':=by
 go_enter func142,ntmps142
 iterate 2 go_step
 refine rp ?_;refine ZO (by rfl) 57 _ rfl (_) rfl ?_;intro g3 z0 n0 r3 k;simp only[pv];clear n0;have sb:=k_b k;clear k;refine ZO (by rfl) 57 _ rfl (_) rfl ?_;intro g4 z1 n0 r4 k;simp only[pv];clear n0;replace r3:=k.ro r3;replace sb:=kk sb k;clear k;refine ZO (by rfl) 57 _ rfl (_) rfl ?_;intro g5 z2 n0 r5 k;simp only[pv];clear n0;replace r3:=k.ro r3;replace r4:=k.ro r4;replace sb:=kk sb k;clear k;refine ZT (by rfl) 57 rfl _ Zp ?_;intro g6 z3 n0 r6 k;simp only[pv];have d3x6:=l_l r3.lt n0;have d4x6:=l_l r4.lt n0;have d5x6:=l_l r5.lt n0;have b6:=f_ sb.size n0;clear n0;replace r3:=k.ro r3;replace r4:=k.ro r4;replace r5:=k.ro r5;replace sb:=kk sb k;clear k;refine p_v (.int .i64 0) (fun _=>rfl) (Zb ?_);simp only[pv];iterate 4 go_step
 refine rp ?_;refine ZJ (by rfl) 57 _ rfl _ (0) rfl r5.r (Zc M) (Yt _) _ b_ rfl Zd ?_;simp only[pv];refine p_v _ (ZE _ rfl _ ZA) ?_;simp only[pv];refine p_v (.bool true) (fun w'=>(ZG _ _ _ rfl M 0 rfl rfl w').trans (by rw[HV])) (Zb ?_);simp only[pv];iterate 4 go_step
 refine rp ?_;refine p_v _ (ZE _ rfl _ ZA) ?_;simp only[pv];refine Xg (by rfl) 57 _ _ rfl _ rfl r6 (Zc 0) rfl (by exact Zd) (by simp only[Zo]) (Zu _) ?_;clear r6;intro z2001 r6 k;simp only[Act.put];replace r3:=k.ro r3;replace r4:=k.ro r4;replace r5:=k.ro r5;replace sb:=kk sb k;clear k;refine p_v (.int .i64 1) (fun _=>rfl) (Zb ?_);simp only[pv];go_wp2;exact Z9 rfl _ rfl r6 4 _ b_ (by exact Zd) rfl _ rfl ⟨rfl,sb⟩
theorem Jh (A B M x y S V c:Nat)(w:World)(HV:decide (M%2^256=0%2^256)=false)
  (hra: ∀w',Calls prog 156 #[.agg (Zc A),.agg (Zc M)] w' (Rt (.agg (Zc x)) w'))
  (hrb: ∀w',Calls prog 156 #[.agg (Zc B),.agg (Zc M)] w' (Rt (.agg (Zc y)) w'))
  (had: ∀w',Calls prog 184 #[.agg (Zc x),.agg (Zc y)] w' (Rt (.tuple #[.agg (Zc S),.int .i64 (c:Nat)]) w'))
  (hc:c=1)(z:Int)(hsu: ∀w',Calls prog 154 #[.agg (Zc S),.agg (Zc M)] w' (Rt (.tuple #[.agg (Zc V),.int .i64 z]) w')):
  Calls prog 142 #[.agg (Zc A),.agg (Zc B),.agg (Zc M)] w fun e w'=>e= .returned (.tuple #[.agg (Zc V),.int .i64 0])/\Below w.heap.size w w':=by
 go_enter func142,ntmps142
 iterate 2 go_step
 refine rp ?_;refine ZO (by rfl) 57 _ rfl (_) rfl ?_;intro g3 z0 n0 r3 k;simp only[pv];clear n0;have sb:=k_b k;clear k;refine ZO (by rfl) 57 _ rfl (_) rfl ?_;intro g4 z1 n0 r4 k;simp only[pv];clear n0;replace r3:=k.ro r3;replace sb:=kk sb k;clear k;refine ZO (by rfl) 57 _ rfl (_) rfl ?_;intro g5 z2 n0 r5 k;simp only[pv];clear n0;replace r3:=k.ro r3;replace r4:=k.ro r4;replace sb:=kk sb k;clear k;refine ZT (by rfl) 57 rfl _ Zp ?_;intro g6 z3 n0 r6 k;simp only[pv];have d5x6:=l_l r5.lt n0;have b6:=f_ sb.size n0;clear n0;replace r3:=k.ro r3;replace r4:=k.ro r4;replace r5:=k.ro r5;replace sb:=kk sb k;clear k;refine p_v (.int .i64 0) (fun _=>rfl) (Zb ?_);simp only[pv];iterate 4 go_step
 refine rp ?_;refine ZJ (by rfl) 57 _ rfl _ (0) rfl r5.r (Zc M) (Yt _) _ b_ rfl Zd ?_;simp only[pv];refine p_v _ (ZE _ rfl _ ZA) ?_;simp only[pv];refine p_v (.bool false) (fun w'=>(ZG _ _ _ rfl M 0 rfl rfl w').trans (by rw[HV])) (Zb ?_);simp only[pv];iterate 7 go_step
 apply Zi (by kernel_rfl) [] [_,_,_,_,_,_,_,_,_,_,_,_,_] trivial a_
 ·intro p;refine m_l r3 ?_;simp only[pv];refine m_l r5 ?_;simp only[pv];refine m_c 156 fZ0 #[.agg (Zc A),.agg (Zc M)] hra ?_;simp only[pv];refine m_l r4 ?_;simp only[pv];refine m_l r5 ?_;simp only[pv];refine m_c 156 fZ0 #[.agg (Zc B),.agg (Zc M)] hrb ?_;simp only[pv];refine m_c 184 func184 #[.agg (Zc x),.agg (Zc y)] had ?_;refine m_m ?_;refine m_e ?_;refine m_e ?_;simp only[pv];refine m_n ?_;simp only[pv];refine m_p 21 S ?_;simp only[Act.put];refine m_a ?_;simp only[pv];refine Zf ?_;intro w2 hkw hrw hnew hdis;have n8:=hnew 10 rfl;have zr8:Row w2 (p 10) (Zc S) 57:=hrw 21 (57,Zc S) rfl;have d5x8:=l_l r5.lt n8;have d6x8:=l_l r6.lt n8;replace r5:=hkw.ro r5;replace r6:=hkw.ro r6;have b8:=f_ sb.size n8;replace sb:=kk sb hkw;clear hkw hrw hnew hdis n8;generalize p 10=g8 at*;have r8:=zr8;clear zr8;iterate 4 go_step
  refine rp ?_;refine p_m ?_;simp only[pv];refine p_v _ (C9 .i64 _ _ _ _ rfl c 1 rfl rfl true (d_ (by omega))) ?_;refine p_m ?_;refine p_s ?_;refine p_s ?_;refine p_s ?_;simp only[pv];refine p_s ?_;refine p_k true (.bool true) (Zb ?_);simp only[pv];iterate 3 go_step
  refine rp ?_;refine ZJ (by rfl) 57 _ rfl _ (0) rfl r8.r (Zc S) (Yt _) _ b_ rfl Zd ?_;simp only[pv];refine ZJ (by rfl) 57 _ rfl _ (0) rfl r5.r (Zc M) (Yt _) _ b_ rfl Zd ?_;simp only[pv];refine p_c 154 iO0 #[.agg (Zc S),.agg (Zc M)] (hsu _) ?_;intro z5002 k;simp only[pv];replace r5:=k.ro r5;replace r6:=k.ro r6;replace r8:=k.ro r8;replace sb:=kk sb k;clear k;refine p_m ?_;refine p_e ?_;refine p_e ?_;simp only[pv];refine Xg (by rfl) 57 _ _ rfl _ rfl r8 (Zc V) rfl (by exact Zd) (by simp only[Zo]) (Zu _) ?_;clear r8;intro z5006 r8 k;simp only[Act.put];replace r5:=k.ro r5;replace r6:=k.ro r6;replace sb:=kk sb k;clear k;refine Zb ?_;iterate 3 go_step
  refine rp ?_;refine ZJ (by rfl) 57 _ rfl _ (0) rfl r8.r (Zc V) (Yt _) _ b_ rfl Zd ?_;simp only[pv];refine Xg (by rfl) 57 _ _ rfl _ rfl r6 (Zc V) rfl (by exact Zd) (by simp only[Zo]) (Zu _) ?_;clear r6;intro z6001 r6 k;simp only[Act.put];replace r5:=k.ro r5;replace r8:=k.ro r8;replace sb:=kk sb k;clear k;refine p_v (.int .i64 0) (fun _=>rfl) (Zb ?_);simp only[pv];go_wp2;exact Z9 rfl _ rfl r6 4 _ b_ (by exact Zd) rfl _ rfl ⟨rfl,sb⟩
 ·kernel_rfl
theorem Ji (A B M x y S V c:Nat)(w:World)(HV:decide (M%2^256=0%2^256)=false)
  (hra: ∀w',Calls prog 156 #[.agg (Zc A),.agg (Zc M)] w' (Rt (.agg (Zc x)) w'))
  (hrb: ∀w',Calls prog 156 #[.agg (Zc B),.agg (Zc M)] w' (Rt (.agg (Zc y)) w'))
  (had: ∀w',Calls prog 184 #[.agg (Zc x),.agg (Zc y)] w' (Rt (.tuple #[.agg (Zc S),.int .i64 (c:Nat)]) w'))
  (hc:c=0)(z:Int)(hsu: ∀w',Calls prog 154 #[.agg (Zc S),.agg (Zc M)] w' (Rt (.tuple #[.agg (Zc V),.int .i64 z]) w'))(k:Int)(hcm: ∀w',Calls prog 112 #[.agg (Zc S),.agg (Zc M)] w' (Rt (.int .i64 k) w'))(hk:decide (0<=k)=true):
  Calls prog 142 #[.agg (Zc A),.agg (Zc B),.agg (Zc M)] w fun e w'=>e= .returned (.tuple #[.agg (Zc V),.int .i64 0])/\Below w.heap.size w w':=by
 go_enter func142,ntmps142
 iterate 2 go_step
 refine rp ?_;refine ZO (by rfl) 57 _ rfl (_) rfl ?_;intro g3 z0 n0 r3 k;simp only[pv];clear n0;have sb:=k_b k;clear k;refine ZO (by rfl) 57 _ rfl (_) rfl ?_;intro g4 z1 n0 r4 k;simp only[pv];clear n0;replace r3:=k.ro r3;replace sb:=kk sb k;clear k;refine ZO (by rfl) 57 _ rfl (_) rfl ?_;intro g5 z2 n0 r5 k;simp only[pv];clear n0;replace r3:=k.ro r3;replace r4:=k.ro r4;replace sb:=kk sb k;clear k;refine ZT (by rfl) 57 rfl _ Zp ?_;intro g6 z3 n0 r6 k;simp only[pv];have d5x6:=l_l r5.lt n0;have b6:=f_ sb.size n0;clear n0;replace r3:=k.ro r3;replace r4:=k.ro r4;replace r5:=k.ro r5;replace sb:=kk sb k;clear k;refine p_v (.int .i64 0) (fun _=>rfl) (Zb ?_);simp only[pv];iterate 4 go_step
 refine rp ?_;refine ZJ (by rfl) 57 _ rfl _ (0) rfl r5.r (Zc M) (Yt _) _ b_ rfl Zd ?_;simp only[pv];refine p_v _ (ZE _ rfl _ ZA) ?_;simp only[pv];refine p_v (.bool false) (fun w'=>(ZG _ _ _ rfl M 0 rfl rfl w').trans (by rw[HV])) (Zb ?_);simp only[pv];iterate 7 go_step
 apply Zi (by kernel_rfl) [] [_,_,_,_,_,_,_,_,_,_,_,_,_] trivial a_
 ·intro p;refine m_l r3 ?_;simp only[pv];refine m_l r5 ?_;simp only[pv];refine m_c 156 fZ0 #[.agg (Zc A),.agg (Zc M)] hra ?_;simp only[pv];refine m_l r4 ?_;simp only[pv];refine m_l r5 ?_;simp only[pv];refine m_c 156 fZ0 #[.agg (Zc B),.agg (Zc M)] hrb ?_;simp only[pv];refine m_c 184 func184 #[.agg (Zc x),.agg (Zc y)] had ?_;refine m_m ?_;refine m_e ?_;refine m_e ?_;simp only[pv];refine m_n ?_;simp only[pv];refine m_p 21 S ?_;simp only[Act.put];refine m_a ?_;simp only[pv];refine Zf ?_;intro w2 hkw hrw hnew hdis;have n8:=hnew 10 rfl;have zr8:Row w2 (p 10) (Zc S) 57:=hrw 21 (57,Zc S) rfl;have d5x8:=l_l r5.lt n8;have d6x8:=l_l r6.lt n8;replace r5:=hkw.ro r5;replace r6:=hkw.ro r6;have b8:=f_ sb.size n8;replace sb:=kk sb hkw;clear hkw hrw hnew hdis n8;generalize p 10=g8 at*;have r8:=zr8;clear zr8;iterate 4 go_step
  refine rp ?_;refine p_m ?_;simp only[pv];refine p_v _ (C9 .i64 _ _ _ _ rfl c 1 rfl rfl false (e_ (by omega))) ?_;refine p_m ?_;simp only[pv];refine ZJ (by rfl) 57 _ rfl _ (0) rfl r8.r (Zc S) (Yt _) _ b_ rfl Zd ?_;simp only[pv];refine ZJ (by rfl) 57 _ rfl _ (0) rfl r5.r (Zc M) (Yt _) _ b_ rfl Zd ?_;simp only[pv];refine p_c 112 iH0 #[.agg (Zc S),.agg (Zc M)] (hcm _) ?_;intro z4005 k;simp only[pv];replace r5:=k.ro r5;replace r6:=k.ro r6;replace r8:=k.ro r8;replace sb:=kk sb k;clear k;refine p_v _ (zr _ _ _ _ rfl k 0 rfl rfl true hk) ?_;refine p_k false (.bool true) (Zb ?_);simp only[pv];iterate 3 go_step
  refine rp ?_;refine ZJ (by rfl) 57 _ rfl _ (0) rfl r8.r (Zc S) (Yt _) _ b_ rfl Zd ?_;simp only[pv];refine ZJ (by rfl) 57 _ rfl _ (0) rfl r5.r (Zc M) (Yt _) _ b_ rfl Zd ?_;simp only[pv];refine p_c 154 iO0 #[.agg (Zc S),.agg (Zc M)] (hsu _) ?_;intro z5002 k;simp only[pv];replace r5:=k.ro r5;replace r6:=k.ro r6;replace r8:=k.ro r8;replace sb:=kk sb k;clear k;refine p_m ?_;refine p_e ?_;refine p_e ?_;simp only[pv];refine Xg (by rfl) 57 _ _ rfl _ rfl r8 (Zc V) rfl (by exact Zd) (by simp only[Zo]) (Zu _) ?_;clear r8;intro z5006 r8 k;simp only[Act.put];replace r5:=k.ro r5;replace r6:=k.ro r6;replace sb:=kk sb k;clear k;refine Zb ?_;iterate 3 go_step
  refine rp ?_;refine ZJ (by rfl) 57 _ rfl _ (0) rfl r8.r (Zc V) (Yt _) _ b_ rfl Zd ?_;simp only[pv];refine Xg (by rfl) 57 _ _ rfl _ rfl r6 (Zc V) rfl (by exact Zd) (by simp only[Zo]) (Zu _) ?_;clear r6;intro z6001 r6 k;simp only[Act.put];replace r5:=k.ro r5;replace r8:=k.ro r8;replace sb:=kk sb k;clear k;refine p_v (.int .i64 0) (fun _=>rfl) (Zb ?_);simp only[pv];go_wp2;exact Z9 rfl _ rfl r6 4 _ b_ (by exact Zd) rfl _ rfl ⟨rfl,sb⟩
 ·kernel_rfl
theorem Jj (A B M x y S V c:Nat)(w:World)(HV:decide (M%2^256=0%2^256)=false)
  (hra: ∀w',Calls prog 156 #[.agg (Zc A),.agg (Zc M)] w' (Rt (.agg (Zc x)) w'))
  (hrb: ∀w',Calls prog 156 #[.agg (Zc B),.agg (Zc M)] w' (Rt (.agg (Zc y)) w'))
  (had: ∀w',Calls prog 184 #[.agg (Zc x),.agg (Zc y)] w' (Rt (.tuple #[.agg (Zc S),.int .i64 (c:Nat)]) w'))
  (hc:c=0)(k:Int)(hcm: ∀w',Calls prog 112 #[.agg (Zc S),.agg (Zc M)] w' (Rt (.int .i64 k) w'))(hk:decide (0<=k)=false):
  Calls prog 142 #[.agg (Zc A),.agg (Zc B),.agg (Zc M)] w fun e w'=>e= .returned (.tuple #[.agg (Zc S),.int .i64 0])/\Below w.heap.size w w':=by
 go_enter func142,ntmps142
 iterate 2 go_step
 refine rp ?_;refine ZO (by rfl) 57 _ rfl (_) rfl ?_;intro g3 z0 n0 r3 k;simp only[pv];clear n0;have sb:=k_b k;clear k;refine ZO (by rfl) 57 _ rfl (_) rfl ?_;intro g4 z1 n0 r4 k;simp only[pv];clear n0;replace r3:=k.ro r3;replace sb:=kk sb k;clear k;refine ZO (by rfl) 57 _ rfl (_) rfl ?_;intro g5 z2 n0 r5 k;simp only[pv];clear n0;replace r3:=k.ro r3;replace r4:=k.ro r4;replace sb:=kk sb k;clear k;refine ZT (by rfl) 57 rfl _ Zp ?_;intro g6 z3 n0 r6 k;simp only[pv];have d5x6:=l_l r5.lt n0;have b6:=f_ sb.size n0;clear n0;replace r3:=k.ro r3;replace r4:=k.ro r4;replace r5:=k.ro r5;replace sb:=kk sb k;clear k;refine p_v (.int .i64 0) (fun _=>rfl) (Zb ?_);simp only[pv];iterate 4 go_step
 refine rp ?_;refine ZJ (by rfl) 57 _ rfl _ (0) rfl r5.r (Zc M) (Yt _) _ b_ rfl Zd ?_;simp only[pv];refine p_v _ (ZE _ rfl _ ZA) ?_;simp only[pv];refine p_v (.bool false) (fun w'=>(ZG _ _ _ rfl M 0 rfl rfl w').trans (by rw[HV])) (Zb ?_);simp only[pv];iterate 7 go_step
 apply Zi (by kernel_rfl) [] [_,_,_,_,_,_,_,_,_,_,_,_,_] trivial a_
 ·intro p;refine m_l r3 ?_;simp only[pv];refine m_l r5 ?_;simp only[pv];refine m_c 156 fZ0 #[.agg (Zc A),.agg (Zc M)] hra ?_;simp only[pv];refine m_l r4 ?_;simp only[pv];refine m_l r5 ?_;simp only[pv];refine m_c 156 fZ0 #[.agg (Zc B),.agg (Zc M)] hrb ?_;simp only[pv];refine m_c 184 func184 #[.agg (Zc x),.agg (Zc y)] had ?_;refine m_m ?_;refine m_e ?_;refine m_e ?_;simp only[pv];refine m_n ?_;simp only[pv];refine m_p 21 S ?_;simp only[Act.put];refine m_a ?_;simp only[pv];refine Zf ?_;intro w2 hkw hrw hnew hdis;have n8:=hnew 10 rfl;have zr8:Row w2 (p 10) (Zc S) 57:=hrw 21 (57,Zc S) rfl;have d6x8:=l_l r6.lt n8;replace r5:=hkw.ro r5;replace r6:=hkw.ro r6;replace sb:=kk sb hkw;clear hkw hrw hnew hdis n8;generalize p 10=g8 at*;have r8:=zr8;clear zr8;iterate 4 go_step
  refine rp ?_;refine p_m ?_;simp only[pv];refine p_v _ (C9 .i64 _ _ _ _ rfl c 1 rfl rfl false (e_ (by omega))) ?_;refine p_m ?_;simp only[pv];refine ZJ (by rfl) 57 _ rfl _ (0) rfl r8.r (Zc S) (Yt _) _ b_ rfl Zd ?_;simp only[pv];refine ZJ (by rfl) 57 _ rfl _ (0) rfl r5.r (Zc M) (Yt _) _ b_ rfl Zd ?_;simp only[pv];refine p_c 112 iH0 #[.agg (Zc S),.agg (Zc M)] (hcm _) ?_;intro z4005 k;simp only[pv];replace r5:=k.ro r5;replace r6:=k.ro r6;replace r8:=k.ro r8;replace sb:=kk sb k;clear k;refine p_v _ (zr _ _ _ _ rfl k 0 rfl rfl false hk) ?_;refine p_k false (.bool false) (Zb ?_);simp only[pv];iterate 7 go_step
  refine rp ?_;refine ZJ (by rfl) 57 _ rfl _ (0) rfl r8.r (Zc S) (Yt _) _ b_ rfl Zd ?_;simp only[pv];refine Xg (by rfl) 57 _ _ rfl _ rfl r6 (Zc S) rfl (by exact Zd) (by simp only[Zo]) (Zu _) ?_;clear r6;intro z6001 r6 k;simp only[Act.put];replace r5:=k.ro r5;replace r8:=k.ro r8;replace sb:=kk sb k;clear k;refine p_v (.int .i64 0) (fun _=>rfl) (Zb ?_);simp only[pv];go_wp2;exact Z9 rfl _ rfl r6 4 _ b_ (by exact Zd) rfl _ rfl ⟨rfl,sb⟩
 ·kernel_rfl
theorem Nv (A B M:Nat)(w:World)(hA:A<2^256)(hB:B<2^256)(hM:M<2^256):
  Calls prog 142 #[.agg (Zc A),.agg (Zc B),.agg (Zc M)] w (Rt (.tuple #[.agg (Zc (Sx (A+B) M)),.int .i64 (U6 M)]) w):=by
 by_cases h0:M=0
 ·have h:=Jg A B M w (by rw[h0];rfl);rw[show Sx (A+B) M=0 from j_ h0,show U6 M=1 from j_ h0];exact h
 ·have hra:=fun w'=>Xm A M w' hA (by omega) hM
  have hrb:=fun w'=>Xm B M w' hB (by omega) hM
  have hx:=m_ A (show 0<M by omega);have hy:=m_ B (show 0<M by omega)
  have HV:decide (M%2^256=0%2^256)=false:=by
   rw[g_ hM];exact e_ h0
  rw[show Sx (A+B) M=(A%M+B%M)%M from(i_ h0).trans (eR0 A B M),show U6 M=0 from i_ h0];generalize A%M=x at*;generalize B%M=y at*;have had:=fun w'=>Uc x y w'
  have hsu:=fun w'=>XV (x+y) M w' hM
  have hcc:cN x y 256=if 2^256<=x+y then 1 else 0:=by rw[LL,g_ (by omega),g_ (by omega)]
  by_cases h1:M<=x+y
  ·rw[zt x y M h1 hx hy hM]at hsu;by_cases h2:2^256<=x+y
   ·rw[j_ h2]at hcc;exact Jh A B M x y (x+y) _ _ w HV hra hrb had hcc _ hsu
   ·rw[i_ h2]at hcc;exact Ji A B M x y (x+y) _ _ w HV hra hrb had hcc _ hsu _ (fun w'=>Wk (x+y) M w' (by omega) hM) (zv h1)
  ·rw[i_ (by omega)]at hcc;rw[g_ (show x+y<M by omega)];exact Jj A B M x y (x+y) 0 _ w HV hra hrb had hcc _ (fun w'=>Wk (x+y) M w' (by omega) hM) (zw (by omega))
end Go.Proofs.YtnagnkhbamhfmaaGreatDoor
