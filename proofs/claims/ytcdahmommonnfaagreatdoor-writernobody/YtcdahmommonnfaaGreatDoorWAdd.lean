import Derived.Test.YtcdahmommonnfaaGreatDoorGH
set_option maxRecDepth 100000
set_option maxHeartbeats 8000000
namespace Go.Proofs.YtcdahmommonnfaaGreatDoor
set_option linter.all false
open Go.RowKit
open Go.Proofs.Tryz
theorem Yx (c:Array Value): ∀j v,c.toList[j]?=some v->c[0+j]?=some v:=fun j v h=>by
 rw[Nat.zero_add,<-Array.getElem?_toList];exact h
theorem Dk {P:Program}{o:Oper}{ρ:Operand->Value}(t:TypeId)(x y:Operand)(u:TypeId)(ho:o.op= .binOp .geq t x y u)(n m:Int)(hx:ρ x= .int .i64 n)(hy:ρ y= .int .i64 m)(b:Bool)(hb:decide (m<=n)=b)(w:World):
  (execOp ρ o).run P w= .ok (.value (.bool b)) w:=by
 subst hb;unfold execOp;simp only[ho,hx,hy];simp[go_sem]
theorem Fp {P:Program}{o:Oper}{ρ:Operand->Value}(k:IntKind)(t:TypeId)(x y:Operand)(u:TypeId)(ho:o.op= .binOp .eql t x y u)(n m:Int)(hx:ρ x= .int k n)(hy:ρ y= .int k m)(b:Bool)(hb:decide (n=m)=b)(w:World):
  (execOp ρ o).run P w= .ok (.value (.bool b)) w:=by
 subst hb;unfold execOp;simp only[ho,hx,hy];simp[eqGuard,go_sem];rfl
theorem Dl (x y M:Nat)(h:M<=x+y)(hx:x<M)(hy:y<M)(hM:M<2^256):Zc (WU (x+y) M)=Zc ((x+y)%M):=by
 rw[show x+y=x+y-M+M*1 by omega,Nat.add_mul_mod_self_left,Nat.mod_eq_of_lt (show x+y-M<M by omega)];refine(VF _ _).2 ?_;unfold WU;rw[show x+y-M+M*1+(2^256-M)=x+y-M+2^256*1 by omega,Nat.add_mul_mod_self_left]
theorem Dm {A B:Nat}(h:B<=A):decide ((0:Int)<=WB A B)=true:=by
 refine decide_eq_true ?_;unfold WB;rw[if_neg (by omega)]
 split<;>omega
theorem Dn {A B:Nat}(h:A<B):decide ((0:Int)<=WB A B)=false:=by
 refine decide_eq_false ?_;unfold WB;rw[if_pos h];omega
theorem MK (A B M:Nat)(w:World)(HV:decide (M%2^256=0%2^256)=true):
  Calls prog 267 #[.agg (Zc A),.agg (Zc B),.agg (Zc M)] w fun e w'=>e= .returned (.tuple #[.agg (Zc 0),.int .i64 1])/\Below w.heap.size w w':=by
 go_enter func267,ntmps267
 iterate 2 go_step
 refine rp ?_;refine ZD (by rfl) 39 _ rfl (_) rfl ?_;intro g3 z0 n0 r3 k;simp only[pv];clear n0;have sb:=k_b k;clear k;refine ZD (by rfl) 39 _ rfl (_) rfl ?_;intro g4 z1 n0 r4 k;simp only[pv];clear n0;replace r3:=k.ro r3;replace sb:=kk sb k;clear k;refine ZD (by rfl) 39 _ rfl (_) rfl ?_;intro g5 z2 n0 r5 k;simp only[pv];clear n0;replace r3:=k.ro r3;replace r4:=k.ro r4;replace sb:=kk sb k;clear k;refine ZJ (by rfl) 39 rfl _ Zv ?_;intro g6 z3 n0 r6 k;simp only[pv];have d3x6:=l_l r3.lt n0;have d4x6:=l_l r4.lt n0;have d5x6:=l_l r5.lt n0;have b6:=Nat.le_trans sb.size n0;clear n0;replace r3:=k.ro r3;replace r4:=k.ro r4;replace r5:=k.ro r5;replace sb:=kk sb k;clear k;refine p_v (.int .i64 0) (fun _=>rfl) (Za ?_);simp only[pv];iterate 4 go_step
 refine rp ?_;refine Zf (by rfl) 39 _ rfl _ (0) rfl r5.r (Zc M) (Yx _) _ underlying39 rfl Ze ?_;simp only[pv];refine p_v _ (ZS _ rfl _ ZO) ?_;simp only[pv];refine p_v (.bool true) (fun w'=>(ZZ _ _ _ rfl M 0 rfl rfl w').trans (by rw[HV])) (Za ?_);simp only[pv];iterate 4 go_step
 refine rp ?_;refine p_v _ (ZS _ rfl _ ZO) ?_;simp only[pv];refine Z0 (by rfl) 39 _ _ rfl _ rfl r6 (Zc 0) rfl (by exact Ze) (by simp only[Zt]) (ZA _) ?_;clear r6;intro z2001 r6 k;simp only[Act.put];replace r3:=k.ro r3;replace r4:=k.ro r4;replace r5:=k.ro r5;replace sb:=kk sb k;clear k;refine p_v (.int .i64 1) (fun _=>rfl) (Za ?_);simp only[pv];go_wp2;exact Yl rfl _ rfl r6 4 _ underlying39 (by exact Ze) rfl _ rfl ⟨rfl,sb⟩
theorem ML (A B M x y S V c:Nat)(w:World)(HV:decide (M%2^256=0%2^256)=false)
  (hra: ∀w',Calls prog 129 #[.agg (Zc A),.agg (Zc M)] w' (Rt (.agg (Zc x)) w'))
  (hrb: ∀w',Calls prog 129 #[.agg (Zc B),.agg (Zc M)] w' (Rt (.agg (Zc y)) w'))
  (had: ∀w',Calls prog 176 #[.agg (Zc x),.agg (Zc y)] w' (Rt (.tuple #[.agg (Zc S),.int .i64 (c:Nat)]) w'))
  (hc:c=1)(z:Int)(hsu: ∀w',Calls prog 127 #[.agg (Zc S),.agg (Zc M)] w' (Rt (.tuple #[.agg (Zc V),.int .i64 z]) w')):
  Calls prog 267 #[.agg (Zc A),.agg (Zc B),.agg (Zc M)] w fun e w'=>e= .returned (.tuple #[.agg (Zc V),.int .i64 0])/\Below w.heap.size w w':=by
 go_enter func267,ntmps267
 iterate 2 go_step
 refine rp ?_;refine ZD (by rfl) 39 _ rfl (_) rfl ?_;intro g3 z0 n0 r3 k;simp only[pv];clear n0;have sb:=k_b k;clear k;refine ZD (by rfl) 39 _ rfl (_) rfl ?_;intro g4 z1 n0 r4 k;simp only[pv];clear n0;replace r3:=k.ro r3;replace sb:=kk sb k;clear k;refine ZD (by rfl) 39 _ rfl (_) rfl ?_;intro g5 z2 n0 r5 k;simp only[pv];clear n0;replace r3:=k.ro r3;replace r4:=k.ro r4;replace sb:=kk sb k;clear k;refine ZJ (by rfl) 39 rfl _ Zv ?_;intro g6 z3 n0 r6 k;simp only[pv];have d5x6:=l_l r5.lt n0;have b6:=Nat.le_trans sb.size n0;clear n0;replace r3:=k.ro r3;replace r4:=k.ro r4;replace r5:=k.ro r5;replace sb:=kk sb k;clear k;refine p_v (.int .i64 0) (fun _=>rfl) (Za ?_);simp only[pv];iterate 4 go_step
 refine rp ?_;refine Zf (by rfl) 39 _ rfl _ (0) rfl r5.r (Zc M) (Yx _) _ underlying39 rfl Ze ?_;simp only[pv];refine p_v _ (ZS _ rfl _ ZO) ?_;simp only[pv];refine p_v (.bool false) (fun w'=>(ZZ _ _ _ rfl M 0 rfl rfl w').trans (by rw[HV])) (Za ?_);simp only[pv];iterate 7 go_step
 apply Zo (by kernel_rfl) [] [_,_,_,_,_,_,_,_,_,_,_,_,_] trivial List.nodup_nil
 ·intro p;refine m_l r3 ?_;simp only[pv];refine m_l r5 ?_;simp only[pv];refine m_c 129 func129 #[.agg (Zc A),.agg (Zc M)] hra ?_;simp only[pv];refine m_l r4 ?_;simp only[pv];refine m_l r5 ?_;simp only[pv];refine m_c 129 func129 #[.agg (Zc B),.agg (Zc M)] hrb ?_;simp only[pv];refine m_c 176 func176 #[.agg (Zc x),.agg (Zc y)] had ?_;refine m_m ?_;refine m_e ?_;refine m_e ?_;simp only[pv];refine m_n ?_;simp only[pv];refine m_p 21 S ?_;simp only[Act.put];refine m_a ?_;simp only[pv];refine Zi ?_;intro w2 hkw hrw hnew hdis;have n8:=hnew 10 rfl;have zr8:Row w2 (p 10) (Zc S) 39:=hrw 21 (39,Zc S) rfl;have d5x8:=l_l r5.lt n8;have d6x8:=l_l r6.lt n8;replace r5:=hkw.ro r5;replace r6:=hkw.ro r6;have b8:=Nat.le_trans sb.size n8;replace sb:=kk sb hkw;clear hkw hrw hnew hdis n8;generalize p 10=g8 at*;have r8:=zr8;clear zr8;iterate 4 go_step
  refine rp ?_;refine p_m ?_;simp only[pv];refine p_v _ (Fp .i64 _ _ _ _ rfl c 1 rfl rfl true (decide_eq_true (by omega))) ?_;refine p_m ?_;refine p_s ?_;refine p_s ?_;refine p_s ?_;simp only[pv];refine p_s ?_;refine p_k true (.bool true) (Za ?_);simp only[pv];iterate 3 go_step
  refine rp ?_;refine Zf (by rfl) 39 _ rfl _ (0) rfl r8.r (Zc S) (Yx _) _ underlying39 rfl Ze ?_;simp only[pv];refine Zf (by rfl) 39 _ rfl _ (0) rfl r5.r (Zc M) (Yx _) _ underlying39 rfl Ze ?_;simp only[pv];refine p_c 127 func127 #[.agg (Zc S),.agg (Zc M)] (hsu _) ?_;intro z5002 k;simp only[pv];replace r5:=k.ro r5;replace r6:=k.ro r6;replace r8:=k.ro r8;replace sb:=kk sb k;clear k;refine p_m ?_;refine p_e ?_;refine p_e ?_;simp only[pv];refine Z0 (by rfl) 39 _ _ rfl _ rfl r8 (Zc V) rfl (by exact Ze) (by simp only[Zt]) (ZA _) ?_;clear r8;intro z5006 r8 k;simp only[Act.put];replace r5:=k.ro r5;replace r6:=k.ro r6;replace sb:=kk sb k;clear k;refine Za ?_;iterate 3 go_step
  refine rp ?_;refine Zf (by rfl) 39 _ rfl _ (0) rfl r8.r (Zc V) (Yx _) _ underlying39 rfl Ze ?_;simp only[pv];refine Z0 (by rfl) 39 _ _ rfl _ rfl r6 (Zc V) rfl (by exact Ze) (by simp only[Zt]) (ZA _) ?_;clear r6;intro z6001 r6 k;simp only[Act.put];replace r5:=k.ro r5;replace r8:=k.ro r8;replace sb:=kk sb k;clear k;refine p_v (.int .i64 0) (fun _=>rfl) (Za ?_);simp only[pv];go_wp2;exact Yl rfl _ rfl r6 4 _ underlying39 (by exact Ze) rfl _ rfl ⟨rfl,sb⟩
 ·kernel_rfl
theorem MM (A B M x y S V c:Nat)(w:World)(HV:decide (M%2^256=0%2^256)=false)
  (hra: ∀w',Calls prog 129 #[.agg (Zc A),.agg (Zc M)] w' (Rt (.agg (Zc x)) w'))
  (hrb: ∀w',Calls prog 129 #[.agg (Zc B),.agg (Zc M)] w' (Rt (.agg (Zc y)) w'))
  (had: ∀w',Calls prog 176 #[.agg (Zc x),.agg (Zc y)] w' (Rt (.tuple #[.agg (Zc S),.int .i64 (c:Nat)]) w'))
  (hc:c=0)(z:Int)(hsu: ∀w',Calls prog 127 #[.agg (Zc S),.agg (Zc M)] w' (Rt (.tuple #[.agg (Zc V),.int .i64 z]) w'))(k:Int)(hcm: ∀w',Calls prog 83 #[.agg (Zc S),.agg (Zc M)] w' (Rt (.int .i64 k) w'))(hk:decide (0<=k)=true):
  Calls prog 267 #[.agg (Zc A),.agg (Zc B),.agg (Zc M)] w fun e w'=>e= .returned (.tuple #[.agg (Zc V),.int .i64 0])/\Below w.heap.size w w':=by
 go_enter func267,ntmps267
 iterate 2 go_step
 refine rp ?_;refine ZD (by rfl) 39 _ rfl (_) rfl ?_;intro g3 z0 n0 r3 k;simp only[pv];clear n0;have sb:=k_b k;clear k;refine ZD (by rfl) 39 _ rfl (_) rfl ?_;intro g4 z1 n0 r4 k;simp only[pv];clear n0;replace r3:=k.ro r3;replace sb:=kk sb k;clear k;refine ZD (by rfl) 39 _ rfl (_) rfl ?_;intro g5 z2 n0 r5 k;simp only[pv];clear n0;replace r3:=k.ro r3;replace r4:=k.ro r4;replace sb:=kk sb k;clear k;refine ZJ (by rfl) 39 rfl _ Zv ?_;intro g6 z3 n0 r6 k;simp only[pv];have d5x6:=l_l r5.lt n0;have b6:=Nat.le_trans sb.size n0;clear n0;replace r3:=k.ro r3;replace r4:=k.ro r4;replace r5:=k.ro r5;replace sb:=kk sb k;clear k;refine p_v (.int .i64 0) (fun _=>rfl) (Za ?_);simp only[pv];iterate 4 go_step
 refine rp ?_;refine Zf (by rfl) 39 _ rfl _ (0) rfl r5.r (Zc M) (Yx _) _ underlying39 rfl Ze ?_;simp only[pv];refine p_v _ (ZS _ rfl _ ZO) ?_;simp only[pv];refine p_v (.bool false) (fun w'=>(ZZ _ _ _ rfl M 0 rfl rfl w').trans (by rw[HV])) (Za ?_);simp only[pv];iterate 7 go_step
 apply Zo (by kernel_rfl) [] [_,_,_,_,_,_,_,_,_,_,_,_,_] trivial List.nodup_nil
 ·intro p;refine m_l r3 ?_;simp only[pv];refine m_l r5 ?_;simp only[pv];refine m_c 129 func129 #[.agg (Zc A),.agg (Zc M)] hra ?_;simp only[pv];refine m_l r4 ?_;simp only[pv];refine m_l r5 ?_;simp only[pv];refine m_c 129 func129 #[.agg (Zc B),.agg (Zc M)] hrb ?_;simp only[pv];refine m_c 176 func176 #[.agg (Zc x),.agg (Zc y)] had ?_;refine m_m ?_;refine m_e ?_;refine m_e ?_;simp only[pv];refine m_n ?_;simp only[pv];refine m_p 21 S ?_;simp only[Act.put];refine m_a ?_;simp only[pv];refine Zi ?_;intro w2 hkw hrw hnew hdis;have n8:=hnew 10 rfl;have zr8:Row w2 (p 10) (Zc S) 39:=hrw 21 (39,Zc S) rfl;have d5x8:=l_l r5.lt n8;have d6x8:=l_l r6.lt n8;replace r5:=hkw.ro r5;replace r6:=hkw.ro r6;have b8:=Nat.le_trans sb.size n8;replace sb:=kk sb hkw;clear hkw hrw hnew hdis n8;generalize p 10=g8 at*;have r8:=zr8;clear zr8;iterate 4 go_step
  refine rp ?_;refine p_m ?_;simp only[pv];refine p_v _ (Fp .i64 _ _ _ _ rfl c 1 rfl rfl false (decide_eq_false (by omega))) ?_;refine p_m ?_;simp only[pv];refine Zf (by rfl) 39 _ rfl _ (0) rfl r8.r (Zc S) (Yx _) _ underlying39 rfl Ze ?_;simp only[pv];refine Zf (by rfl) 39 _ rfl _ (0) rfl r5.r (Zc M) (Yx _) _ underlying39 rfl Ze ?_;simp only[pv];refine p_c 83 func83 #[.agg (Zc S),.agg (Zc M)] (hcm _) ?_;intro z4005 k;simp only[pv];replace r5:=k.ro r5;replace r6:=k.ro r6;replace r8:=k.ro r8;replace sb:=kk sb k;clear k;refine p_v _ (Dk _ _ _ _ rfl k 0 rfl rfl true hk) ?_;refine p_k false (.bool true) (Za ?_);simp only[pv];iterate 3 go_step
  refine rp ?_;refine Zf (by rfl) 39 _ rfl _ (0) rfl r8.r (Zc S) (Yx _) _ underlying39 rfl Ze ?_;simp only[pv];refine Zf (by rfl) 39 _ rfl _ (0) rfl r5.r (Zc M) (Yx _) _ underlying39 rfl Ze ?_;simp only[pv];refine p_c 127 func127 #[.agg (Zc S),.agg (Zc M)] (hsu _) ?_;intro z5002 k;simp only[pv];replace r5:=k.ro r5;replace r6:=k.ro r6;replace r8:=k.ro r8;replace sb:=kk sb k;clear k;refine p_m ?_;refine p_e ?_;refine p_e ?_;simp only[pv];refine Z0 (by rfl) 39 _ _ rfl _ rfl r8 (Zc V) rfl (by exact Ze) (by simp only[Zt]) (ZA _) ?_;clear r8;intro z5006 r8 k;simp only[Act.put];replace r5:=k.ro r5;replace r6:=k.ro r6;replace sb:=kk sb k;clear k;refine Za ?_;iterate 3 go_step
  refine rp ?_;refine Zf (by rfl) 39 _ rfl _ (0) rfl r8.r (Zc V) (Yx _) _ underlying39 rfl Ze ?_;simp only[pv];refine Z0 (by rfl) 39 _ _ rfl _ rfl r6 (Zc V) rfl (by exact Ze) (by simp only[Zt]) (ZA _) ?_;clear r6;intro z6001 r6 k;simp only[Act.put];replace r5:=k.ro r5;replace r8:=k.ro r8;replace sb:=kk sb k;clear k;refine p_v (.int .i64 0) (fun _=>rfl) (Za ?_);simp only[pv];go_wp2;exact Yl rfl _ rfl r6 4 _ underlying39 (by exact Ze) rfl _ rfl ⟨rfl,sb⟩
 ·kernel_rfl
theorem MN (A B M x y S V c:Nat)(w:World)(HV:decide (M%2^256=0%2^256)=false)
  (hra: ∀w',Calls prog 129 #[.agg (Zc A),.agg (Zc M)] w' (Rt (.agg (Zc x)) w'))
  (hrb: ∀w',Calls prog 129 #[.agg (Zc B),.agg (Zc M)] w' (Rt (.agg (Zc y)) w'))
  (had: ∀w',Calls prog 176 #[.agg (Zc x),.agg (Zc y)] w' (Rt (.tuple #[.agg (Zc S),.int .i64 (c:Nat)]) w'))
  (hc:c=0)(k:Int)(hcm: ∀w',Calls prog 83 #[.agg (Zc S),.agg (Zc M)] w' (Rt (.int .i64 k) w'))(hk:decide (0<=k)=false):
  Calls prog 267 #[.agg (Zc A),.agg (Zc B),.agg (Zc M)] w fun e w'=>e= .returned (.tuple #[.agg (Zc S),.int .i64 0])/\Below w.heap.size w w':=by
 go_enter func267,ntmps267
 iterate 2 go_step
 refine rp ?_;refine ZD (by rfl) 39 _ rfl (_) rfl ?_;intro g3 z0 n0 r3 k;simp only[pv];clear n0;have sb:=k_b k;clear k;refine ZD (by rfl) 39 _ rfl (_) rfl ?_;intro g4 z1 n0 r4 k;simp only[pv];clear n0;replace r3:=k.ro r3;replace sb:=kk sb k;clear k;refine ZD (by rfl) 39 _ rfl (_) rfl ?_;intro g5 z2 n0 r5 k;simp only[pv];clear n0;replace r3:=k.ro r3;replace r4:=k.ro r4;replace sb:=kk sb k;clear k;refine ZJ (by rfl) 39 rfl _ Zv ?_;intro g6 z3 n0 r6 k;simp only[pv];have d5x6:=l_l r5.lt n0;have b6:=Nat.le_trans sb.size n0;clear n0;replace r3:=k.ro r3;replace r4:=k.ro r4;replace r5:=k.ro r5;replace sb:=kk sb k;clear k;refine p_v (.int .i64 0) (fun _=>rfl) (Za ?_);simp only[pv];iterate 4 go_step
 refine rp ?_;refine Zf (by rfl) 39 _ rfl _ (0) rfl r5.r (Zc M) (Yx _) _ underlying39 rfl Ze ?_;simp only[pv];refine p_v _ (ZS _ rfl _ ZO) ?_;simp only[pv];refine p_v (.bool false) (fun w'=>(ZZ _ _ _ rfl M 0 rfl rfl w').trans (by rw[HV])) (Za ?_);simp only[pv];iterate 7 go_step
 apply Zo (by kernel_rfl) [] [_,_,_,_,_,_,_,_,_,_,_,_,_] trivial List.nodup_nil
 ·intro p;refine m_l r3 ?_;simp only[pv];refine m_l r5 ?_;simp only[pv];refine m_c 129 func129 #[.agg (Zc A),.agg (Zc M)] hra ?_;simp only[pv];refine m_l r4 ?_;simp only[pv];refine m_l r5 ?_;simp only[pv];refine m_c 129 func129 #[.agg (Zc B),.agg (Zc M)] hrb ?_;simp only[pv];refine m_c 176 func176 #[.agg (Zc x),.agg (Zc y)] had ?_;refine m_m ?_;refine m_e ?_;refine m_e ?_;simp only[pv];refine m_n ?_;simp only[pv];refine m_p 21 S ?_;simp only[Act.put];refine m_a ?_;simp only[pv];refine Zi ?_;intro w2 hkw hrw hnew hdis;have n8:=hnew 10 rfl;have zr8:Row w2 (p 10) (Zc S) 39:=hrw 21 (39,Zc S) rfl;have d6x8:=l_l r6.lt n8;replace r5:=hkw.ro r5;replace r6:=hkw.ro r6;replace sb:=kk sb hkw;clear hkw hrw hnew hdis n8;generalize p 10=g8 at*;have r8:=zr8;clear zr8;iterate 4 go_step
  refine rp ?_;refine p_m ?_;simp only[pv];refine p_v _ (Fp .i64 _ _ _ _ rfl c 1 rfl rfl false (decide_eq_false (by omega))) ?_;refine p_m ?_;simp only[pv];refine Zf (by rfl) 39 _ rfl _ (0) rfl r8.r (Zc S) (Yx _) _ underlying39 rfl Ze ?_;simp only[pv];refine Zf (by rfl) 39 _ rfl _ (0) rfl r5.r (Zc M) (Yx _) _ underlying39 rfl Ze ?_;simp only[pv];refine p_c 83 func83 #[.agg (Zc S),.agg (Zc M)] (hcm _) ?_;intro z4005 k;simp only[pv];replace r5:=k.ro r5;replace r6:=k.ro r6;replace r8:=k.ro r8;replace sb:=kk sb k;clear k;refine p_v _ (Dk _ _ _ _ rfl k 0 rfl rfl false hk) ?_;refine p_k false (.bool false) (Za ?_);simp only[pv];iterate 7 go_step
  refine rp ?_;refine Zf (by rfl) 39 _ rfl _ (0) rfl r8.r (Zc S) (Yx _) _ underlying39 rfl Ze ?_;simp only[pv];refine Z0 (by rfl) 39 _ _ rfl _ rfl r6 (Zc S) rfl (by exact Ze) (by simp only[Zt]) (ZA _) ?_;clear r6;intro z6001 r6 k;simp only[Act.put];replace r5:=k.ro r5;replace r8:=k.ro r8;replace sb:=kk sb k;clear k;refine p_v (.int .i64 0) (fun _=>rfl) (Za ?_);simp only[pv];go_wp2;exact Yl rfl _ rfl r6 4 _ underlying39 (by exact Ze) rfl _ rfl ⟨rfl,sb⟩
 ·kernel_rfl
theorem Pv (A B M:Nat)(w:World)(hA:A<2^256)(hB:B<2^256)(hM:M<2^256):
  Calls prog 267 #[.agg (Zc A),.agg (Zc B),.agg (Zc M)] w (Rt (.tuple #[.agg (Zc (So (A+B) M)),.int .i64 (RJ M)]) w):=by
 by_cases h0:M=0
 ·have h:=MK A B M w (by rw[h0];rfl);rw[show So (A+B) M=0 from if_pos h0,show RJ M=1 from if_pos h0];exact h
 ·have hra:=fun w'=>Wo A M w' hA (by omega) hM
  have hrb:=fun w'=>Wo B M w' hB (by omega) hM
  have hx:=Nat.mod_lt A (show 0<M by omega);have hy:=Nat.mod_lt B (show 0<M by omega)
  have HV:decide (M%2^256=0%2^256)=false:=by
   rw[Nat.mod_eq_of_lt hM];exact decide_eq_false h0
  rw[show So (A+B) M=(A%M+B%M)%M from(if_neg h0).trans (Nat.add_mod A B M),show RJ M=0 from if_neg h0];generalize A%M=x at*;generalize B%M=y at*;have had:=fun w'=>Tw x y w'
  have hsu:=fun w'=>Wk (x+y) M w' hM
  have hcc:cN x y 256=if 2^256<=x+y then 1 else 0:=by rw[Ns,Nat.mod_eq_of_lt (by omega),Nat.mod_eq_of_lt (by omega)]
  by_cases h1:M<=x+y
  ·rw[Dl x y M h1 hx hy hM]at hsu;by_cases h2:2^256<=x+y
   ·rw[if_pos h2]at hcc;exact ML A B M x y (x+y) _ _ w HV hra hrb had hcc _ hsu
   ·rw[if_neg h2]at hcc;exact MM A B M x y (x+y) _ _ w HV hra hrb had hcc _ hsu _ (fun w'=>XF (x+y) M w' (by omega) hM) (Dm h1)
  ·rw[if_neg (by omega)]at hcc;rw[Nat.mod_eq_of_lt (show x+y<M by omega)];exact MN A B M x y (x+y) 0 _ w HV hra hrb had hcc _ (fun w'=>XF (x+y) M w' (by omega) hM) (Dn (by omega))
end Go.Proofs.YtcdahmommonnfaaGreatDoor
