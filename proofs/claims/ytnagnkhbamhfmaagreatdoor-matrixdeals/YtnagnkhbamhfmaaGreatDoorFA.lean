import Derived.Test.YtnagnkhbamhfmaaGreatDoorGV
import Derived.Test.YtnagnkhbamhfmaaGreatDoorWAdd
import Derived.Test.YtnagnkhbamhfmaaGreatDoorWI
set_option maxRecDepth 100000
set_option maxHeartbeats 8000000
namespace Go.Proofs.YtnagnkhbamhfmaaGreatDoor
set_option linter.all false
open Go.Proofs.Tryz
open Go.RowKit
theorem wT:lN leL (3-1)=1055500680322183127:=rfl
theorem wU:lN leL (3-2)=1966023127:=rfl
def sbN (A B q:Nat):Nat:=(A%q+(q-B%q))%q
def EN (a b:Nat->Nat)(q:Nat):Nat->Nat
 |0=>0
 |k+1=>(EN a b q k+a k*b k%q)%q
theorem Ba (a b:Nat->Nat)(q:Nat)(h:0<q): ∀k,EN a b q k<q
 |0=>h
 |_+1=>m_ _ h
theorem Bb (A B q:Nat)(h:0<q):yS A B q=sbN A B q:=i_ (by omega)
theorem xr {A q:Nat}(hq:IsP q)(h:A%q=0):Ru A q=0:=by
 unfold Ru;rw[i_ (by have:=hq.1;omega),i_];intro hg;have hd:q∣Nat.gcd A q:=Nat.dvd_gcd (dQ0 h) (Nat.dvd_refl q);rw[hg]at hd;have:=dY0 (by decide) hd;have:=hq.1;omega
theorem Jl {A q:Nat}(hq:IsP q)(h:A%q≠0):Nat.gcd A q=1:=by
 rw[Nat.gcd_comm];exact VN hq fun hd=>h (Nat.mod_eq_zero_of_dvd hd)
theorem xt {A q:Nat}(hq:IsP q)(h:A%q≠0):A*Ru A q%q=1:=by
 rw[t_];exact(Kf A q hq.1 (Jl hq h)).2
theorem zy (A q:Nat)(hq:IsP q):Ru A q<q:=by
 by_cases h:A%q=0
 ·rw[xr hq h];have:=hq.1;omega
 ·exact(Kf A q hq.1 (Jl hq h)).1
def ivN (x q:Nat):Nat:=if x=0 then 0 else x^(q-2)%q
theorem GR (v f:Option Addr)(A:Nat)(B:Bool)(w:World)(hq: ∀w',Below w.heap.size w w'->Calls prog 98 #[.pointer v] w' (Rt (.pointer f) w'))
  (hin: ∀w',Below w.heap.size w w'->Calls prog 128 #[.pointer f,.agg (Zc A)] w' (Rt (.bool B) w')):
  Calls prog 79 #[.pointer v,.agg (Zc A)] w fun e w'=>e= .returned (.bool B)/\Below w.heap.size w w':=by
 go_enter func79,ntmps79
 iterate 2 go_step
 refine rp ?_;refine ZO (by rfl) 57 _ rfl (_) rfl ?_;intro g3 z0 n0 r3 k;simp only[pv];have b3:w.heap.size<=g3:=n0;clear n0;have sb:=k_b k;clear k;refine p_v (.bool false) (fun _=>rfl) (Zb ?_);simp only[pv];iterate 3 go_step
 refine ZD (by kernel_rfl) (by kernel_rfl) ?_;refine q_m ?_;simp only[pv];refine q_k 98 func98 #[.pointer v] (fun w' hb=>hq w' (Zk sb (c_ _) hb)) ?_;simp only[pv];refine YX (by rfl) 57 _ rfl _ rfl r3 4 _ b_ Zd ?_;simp only[pv];refine q_k 128 func128 #[.pointer f,.agg (Zc A)] (fun w' hb=>hin w' (Zk sb (c_ _) hb)) ?_;refine q_a ?_;simp only[pv];refine ZR ?_;intro w3 hqb;replace sb:=b_o sb hqb;clear hqb;go_wp2;go_ret;exact⟨rfl,sb⟩
theorem QT (v:Option Addr)(A B QQ S:Nat)(z:Int)(w:World)(hq: ∀w',Below w.heap.size w w'->Calls prog 143 #[.pointer v] w' (Rt (.agg (Zc QQ)) w'))
  (had: ∀w',Calls prog 142 #[.agg (Zc A),.agg (Zc B),.agg (Zc QQ)] w' (Rt (.tuple #[.agg (Zc S),.int .i64 z]) w')):
  Calls prog 99 #[.pointer v,.agg (Zc A),.agg (Zc B)] w fun e w'=>e= .returned (.agg (Zc S))/\Below w.heap.size w w':=by
 go_enter func99,ntmps99
 iterate 2 go_step
 refine rp ?_;refine ZO (by rfl) 57 _ rfl (_) rfl ?_;intro g4 z0 n0 r4 k;simp only[pv];clear n0;have sb:=k_b k;clear k;refine ZO (by rfl) 57 _ rfl (_) rfl ?_;intro g5 z1 n0 r5 k;simp only[pv];clear n0;replace r4:=k.ro r4;replace sb:=kk sb k;clear k;refine ZT (by rfl) 57 rfl _ Zp ?_;intro g6 z2 n0 r6 k;simp only[pv];have b6:=f_ sb.size n0;clear n0;replace r4:=k.ro r4;replace r5:=k.ro r5;replace sb:=kk sb k;clear k;refine Zb ?_;iterate 3 go_step
 apply Zi (by kernel_rfl) [] [_,_,_,_,_,_,_,_,_,_,_] trivial a_
 ·intro p;refine m_l r4 ?_;simp only[pv];refine m_l r5 ?_;refine m_m ?_;simp only[pv];refine m_k 143 func143 #[.pointer v] (fun w' hk=>hq w' (sb.trans (hk.below w.heap.size sb.size (by simp<;>omega)))) ?_;simp only[pv];refine m_c 142 func142 #[.agg (Zc A),.agg (Zc B),.agg (Zc QQ)] had ?_;refine m_m ?_;refine m_e ?_;refine m_e ?_;simp only[pv];refine m_n ?_;simp only[pv];refine m_p 17 S ?_;simp only[Act.put];refine m_a ?_;simp only[pv];refine Zf ?_;intro w2 hkw hrw hnew hdis;have n7:=hnew 8 rfl;have zr7:Row w2 (p 8) (Zc S) 57:=hrw 17 (57,Zc S) rfl;have d6x7:=l_l r6.lt n7;replace r6:=hkw.ro r6;replace sb:=kk sb hkw;clear hkw hrw hnew hdis n7;generalize p 8=g7 at*;have r7:=zr7;clear zr7;iterate 3 go_step
  refine rp ?_;refine p_l r7.r ?_;simp only[pv];refine p_p r6 S ?_;clear r6;intro z2001 r6 k;simp only[Act.put];replace r7:=k.ro r7;replace sb:=kk sb k;clear k;refine Zb ?_;go_wp2;exact ZM rfl _ rfl r6 4 _ b_ (by exact Zd) rfl ⟨rfl,sb⟩
 ·kernel_rfl
theorem Jm (v:Option Addr)(A B QQ S:Nat)(z:Int)(w:World)(hq: ∀w',Below w.heap.size w w'->Calls prog 143 #[.pointer v] w' (Rt (.agg (Zc QQ)) w'))
  (had: ∀w',Calls prog 166 #[.agg (Zc A),.agg (Zc B),.agg (Zc QQ)] w' (Rt (.tuple #[.agg (Zc S),.int .i64 z]) w')):
  Calls prog 118 #[.pointer v,.agg (Zc A),.agg (Zc B)] w fun e w'=>e= .returned (.agg (Zc S))/\Below w.heap.size w w':=by
 go_enter func118,ntmps118
 iterate 2 go_step
 refine rp ?_;refine ZO (by rfl) 57 _ rfl (_) rfl ?_;intro g4 z0 n0 r4 k;simp only[pv];clear n0;have sb:=k_b k;clear k;refine ZO (by rfl) 57 _ rfl (_) rfl ?_;intro g5 z1 n0 r5 k;simp only[pv];clear n0;replace r4:=k.ro r4;replace sb:=kk sb k;clear k;refine ZT (by rfl) 57 rfl _ Zp ?_;intro g6 z2 n0 r6 k;simp only[pv];have b6:=f_ sb.size n0;clear n0;replace r4:=k.ro r4;replace r5:=k.ro r5;replace sb:=kk sb k;clear k;refine Zb ?_;iterate 3 go_step
 apply Zi (by kernel_rfl) [] [_,_,_,_,_,_,_,_,_,_,_] trivial a_
 ·intro p;refine m_l r4 ?_;simp only[pv];refine m_l r5 ?_;refine m_m ?_;simp only[pv];refine m_k 143 func143 #[.pointer v] (fun w' hk=>hq w' (sb.trans (hk.below w.heap.size sb.size (by simp<;>omega)))) ?_;simp only[pv];refine m_c 166 func166 #[.agg (Zc A),.agg (Zc B),.agg (Zc QQ)] had ?_;refine m_m ?_;refine m_e ?_;refine m_e ?_;simp only[pv];refine m_n ?_;simp only[pv];refine m_p 17 S ?_;simp only[Act.put];refine m_a ?_;simp only[pv];refine Zf ?_;intro w2 hkw hrw hnew hdis;have n7:=hnew 8 rfl;have zr7:Row w2 (p 8) (Zc S) 57:=hrw 17 (57,Zc S) rfl;have d6x7:=l_l r6.lt n7;replace r6:=hkw.ro r6;replace sb:=kk sb hkw;clear hkw hrw hnew hdis n7;generalize p 8=g7 at*;have r7:=zr7;clear zr7;iterate 3 go_step
  refine rp ?_;refine p_l r7.r ?_;simp only[pv];refine p_p r6 S ?_;clear r6;intro z2001 r6 k;simp only[Act.put];replace r7:=k.ro r7;replace sb:=kk sb k;clear k;refine Zb ?_;go_wp2;exact ZM rfl _ rfl r6 4 _ b_ (by exact Zd) rfl ⟨rfl,sb⟩
 ·kernel_rfl
theorem Jn (v:Option Addr)(A QQ S:Nat)(z:Int)(w:World)(hq: ∀w',Below w.heap.size w w'->Calls prog 143 #[.pointer v] w' (Rt (.agg (Zc QQ)) w'))
  (hiv: ∀w',Calls prog 183 #[.agg (Zc A),.agg (Zc QQ)] w' (Rt (.tuple #[.agg (Zc S),.int .i64 z]) w')):
  Calls prog 140 #[.pointer v,.agg (Zc A)] w fun e w'=>e= .returned (.agg (Zc S))/\Below w.heap.size w w':=by
 go_enter func140,ntmps140
 iterate 2 go_step
 refine rp ?_;refine ZO (by rfl) 57 _ rfl (_) rfl ?_;intro g3 z0 n0 r3 k;simp only[pv];clear n0;have sb:=k_b k;clear k;refine ZT (by rfl) 57 rfl _ Zp ?_;intro g4 z1 n0 r4 k;simp only[pv];have b4:=f_ sb.size n0;clear n0;replace r3:=k.ro r3;replace sb:=kk sb k;clear k;refine Zb ?_;iterate 3 go_step
 apply Zi (by kernel_rfl) [] [_,_,_,_,_,_,_,_,_,_] trivial a_
 ·intro p;refine m_l r3 ?_;refine m_m ?_;simp only[pv];refine m_k 143 func143 #[.pointer v] (fun w' hk=>hq w' (sb.trans (hk.below w.heap.size sb.size (by simp<;>omega)))) ?_;simp only[pv];refine m_c 183 func183 #[.agg (Zc A),.agg (Zc QQ)] hiv ?_;refine m_m ?_;refine m_e ?_;refine m_e ?_;simp only[pv];refine m_n ?_;simp only[pv];refine m_p 15 S ?_;simp only[Act.put];refine m_a ?_;simp only[pv];refine Zf ?_;intro w2 hkw hrw hnew hdis;have n5:=hnew 7 rfl;have zr5:Row w2 (p 7) (Zc S) 57:=hrw 15 (57,Zc S) rfl;have d4x5:=l_l r4.lt n5;replace r4:=hkw.ro r4;replace sb:=kk sb hkw;clear hkw hrw hnew hdis n5;generalize p 7=g5 at*;have r5:=zr5;clear zr5;iterate 3 go_step
  refine rp ?_;refine p_l r5.r ?_;simp only[pv];refine p_p r4 S ?_;clear r4;intro z2001 r4 k;simp only[Act.put];replace r5:=k.ro r5;replace sb:=kk sb k;clear k;refine Zb ?_;go_wp2;exact ZM rfl _ rfl r4 4 _ b_ (by exact Zd) rfl ⟨rfl,sb⟩
 ·kernel_rfl
theorem QU (v f:Option Addr)(A B S:Nat)(w:World)(hq: ∀w',Below w.heap.size w w'->Calls prog 98 #[.pointer v] w' (Rt (.pointer f) w'))
  (hmu: ∀w',Below w.heap.size w w'->Calls prog 144 #[.pointer f,.agg (Zc A),.agg (Zc B)] w' (Rt (.agg (Zc S)) w')):
  Calls prog 100 #[.pointer v,.agg (Zc A),.agg (Zc B)] w fun e w'=>e= .returned (.agg (Zc S))/\Below w.heap.size w w':=by
 go_enter func100,ntmps100
 iterate 2 go_step
 refine rp ?_;refine ZO (by rfl) 57 _ rfl (_) rfl ?_;intro g4 z0 n0 r4 k;simp only[pv];clear n0;have sb:=k_b k;clear k;refine ZO (by rfl) 57 _ rfl (_) rfl ?_;intro g5 z1 n0 r5 k;simp only[pv];clear n0;replace r4:=k.ro r4;replace sb:=kk sb k;clear k;refine ZT (by rfl) 57 rfl _ Zp ?_;intro g6 z2 n0 r6 k;simp only[pv];have d4x6:=l_l r4.lt n0;have d5x6:=l_l r5.lt n0;have b6:=f_ sb.size n0;clear n0;replace r4:=k.ro r4;replace r5:=k.ro r5;replace sb:=kk sb k;clear k;refine Zb ?_;iterate 3 go_step
 apply Zi (by kernel_rfl) [(g6,57,Zc 0)] [_,_,_,_,_,_] ⟨r6,trivial⟩ (by simp<;>omega)
 ·intro p;refine m_m ?_;simp only[pv];refine m_k 98 func98 #[.pointer v] (fun w' hk=>hq w' (sb.trans (hk.below w.heap.size sb.size (by simp<;>omega)))) ?_;simp only[pv];refine m_l r4 ?_;simp only[pv];refine m_l r5 ?_;simp only[pv];refine m_k 144 func144 #[.pointer f,.agg (Zc A),.agg (Zc B)] (fun w' hk=>hmu w' (sb.trans (hk.below w.heap.size sb.size (by simp<;>omega)))) ?_;simp only[pv];refine m_p 0 S ?_;simp only[Act.put];refine Zf ?_;intro w2 hkw hrw hnew hdis;have zr6:Row w2 (g6) (Zc S) 57:=hrw 0 (57,Zc S) rfl;replace sb:=kk sb hkw;clear hkw hrw hnew hdis r6;have r6:=zr6;clear zr6;go_wp2;exact ZM rfl _ rfl r6 4 _ b_ (by exact Zd) rfl ⟨rfl,sb⟩
 ·kernel_rfl
theorem Vh:prog.underlying 68=some (.pointer (prog.pointee 68)):=by kernel_rfl
theorem Jo (v ab ae:Option Addr)(n ca ce:Nat)(x:Addr)(a' b' T D:Nat->Nat)(gb ob ge oe:Nat)(bcs ecs:Array Value)(tb te:TypeId)(w:World)(hD0:D 0=0)
  (hna:NatsAt w ab n a' gb ob bcs tb)(hnb:NatsAt w ae n b' ge oe ecs te)(hn63:n<9223372036854775808)(hq: ∀w',Below w.heap.size w w'->Calls prog 98 #[.pointer v] w' (Rt (.pointer (some x)) w'))
  (hmu: ∀i,i<n-> ∀w',Below w.heap.size w w'->Calls prog 100 #[.pointer v,.agg (Zc (a' i)),.agg (Zc (b' i))] w' (Rt (.agg (Zc (T i))) w'))
  (had: ∀i,i<n-> ∀w',Below w.heap.size w w'->Calls prog 99 #[.pointer v,.agg (Zc (D i)),.agg (Zc (T i))] w' (Rt (.agg (Zc (D (i+1)))) w')):
  Calls prog 47 #[.pointer v,.slice ab n ca,.slice ae n ce] w fun e w'=>e= .returned (.tuple #[.agg (Zc (D n)),.int .i64 0])/\Below w.heap.size w w':=by
 have HB:Hid (NatsAt w ab n a' gb ob bcs tb):=hna;have HE:Hid (NatsAt w ae n b' ge oe ecs te):=hnb;clear hna hnb
 go_enter func47,ntmps47
 iterate 2 go_step
 refine rp ?_;refine ZT (by rfl) 57 rfl _ Zp ?_;intro g6 z0 n0 r6 k;simp only[pv];have b6:w.heap.size<=g6:=n0;clear n0;have sb:=k_b k;clear k;refine p_v (.int .i64 0) (fun _=>rfl) (Zb ?_);simp only[pv];iterate 4 go_step
 refine rp ?_;refine p_m ?_;simp only[pv];refine p_c 98 func98 #[.pointer v] (hq _ sb) ?_;intro z1001 k;simp only[pv];replace r6:=k.ro r6;replace sb:=kk sb k;clear k;refine p_v _ (WI _ _ _ _ rfl (some x) rfl rfl Vh) ?_;refine p_m ?_;refine p_m ?_;simp only[pv];refine p_v _ (n_l ab n ca Vd) ?_;refine p_m ?_;simp only[pv];refine p_v _ (n_l ae n ce Vd) ?_;simp only[pv];refine p_v _ (ZX .i64 _ _ _ _ rfl n n rfl rfl false (by rw[d_ rfl];rfl)) ?_;refine p_k false (.bool false) (Zb ?_);simp only[pv];clear hq;iterate 7 go_step
 refine rp ?_;refine ZT (by rfl) 57 rfl _ Zp ?_;intro g8 z3000 n0 r8 k;simp only[pv];have d6x8:=l_l r6.lt n0;have b8:=f_ sb.size n0;clear n0;replace r6:=k.ro r6;replace sb:=kk sb k;clear k;refine Zb ?_;iterate 4 go_step
 refine rp ?_;refine p_m ?_;simp only[pv];refine p_v _ (n_l ab n ca Vd) ?_;refine p_v (.int .i64 0) (fun _=>rfl) (Zb ?_);simp only[pv];have r8':Row _ g8 (Zc (D 0)) 57:=hD0▸r8;clear r8 hD0
 go_wp2_with fail
 go_loopg [9,23] n (fun g s9 s23 wr=> ∃i:Nat,i+g=n/\s23= .int .i64 i/\Row wr g6 (Zc 0) 57/\Row wr g8 (Zc (D i)) 57/\Below w.heap.size w wr)
 case atStart=>exact⟨0,by omega,rfl,r6,r8',sb⟩
 case round=>
  clear r6 r8' sb;obtain⟨i,hi,rfl,r6,r8,sb⟩:=hrel
  cases gk with
  |zero=>
   obtain rfl:i=n:=by omega
   clear hi hmu had
   go_step
   refine rp ?_;refine p_v _ (Xe i i) (Zb ?_);simp only[pv];iterate 8 go_step
   refine rp ?_;refine p_l r8.r ?_;simp only[pv];refine p_p r6 (D i) ?_;clear r6;intro z9001 r6 k;simp only[Act.put];replace r8:=k.ro r8;replace sb:=kk sb k;clear k;refine p_v (.int .i64 0) (fun _=>rfl) (Zb ?_);simp only[pv];go_wp2;exact Z9 rfl _ rfl r6 4 _ b_ (by exact Zd) rfl _ rfl ⟨rfl,sb⟩
  |succ g=>
   have hlt:i<n:=by omega
   replace hmu:=hmu i hlt;replace had:=had i hlt
   go_step
   refine rp ?_;refine p_v _ (X4 i n) (Zb ?_);simp only[pv];iterate 10 go_step
   refine rp ?_;refine p_m ?_;refine p_a (Zb ?_);simp only[pv];obtain h0|⟨rfl,rB,hbt⟩:=(HB.out.below sb).at'
   ·omega
   obtain h0|⟨rfl,rE,het⟩:=(HE.out.below sb).at'
   ·omega
   have lB:=((HB.out.at'.resolve_left (by omega)).2.1).lt;have lE:=((HE.out.at'.resolve_left (by omega)).2.1).lt;iterate 2 go_step
   apply Zi (by kernel_rfl) [(g8,57,Zc (D i))] [_,_,_,_,_,_,_,_,_,_,_,_,_,_] ⟨r8,trivial⟩ (by simp<;>omega)
   ·intro p;refine m_m ?_;simp only[pv];refine Yz 0 57 _ rfl rfl rfl 4 _ b_ Zd ?_;refine m_m ?_;refine m_m ?_;refine m_m ?_;simp only[pv];refine m_x i hlt r_ ZC ?_;simp only[pv];refine Yj 57 _ rfl _ ((ob+i*4)) rfl rB (by simp<;>omega) (Zc (a' i)) (hbt i hlt) _ b_ rfl Zd ?_;refine m_m ?_;refine m_m ?_;simp only[pv];refine m_x i hlt r_ ZC ?_;simp only[pv];refine Yj 57 _ rfl _ ((oe+i*4)) rfl rE (by simp<;>omega) (Zc (b' i)) (het i hlt) _ b_ rfl Zd ?_;simp only[pv];refine m_k 100 func100 #[.pointer v,.agg (Zc (a' i)),.agg (Zc (b' i))] (fun w' hk=>hmu w' (sb.trans (hk.below w.heap.size sb.size (by simp<;>omega)))) ?_;simp only[pv];refine m_k 99 func99 #[.pointer v,.agg (Zc (D i)),.agg (Zc (T i))] (fun w' hk=>had w' (sb.trans (hk.below w.heap.size sb.size (by simp<;>omega)))) ?_;simp only[pv];refine m_p 0 (D (i+1)) ?_;simp only[Act.put];refine Zf ?_;intro w10 hkw hrw hnew hdis;have zr8:Row w10 (g8) (Zc (D (i+1))) 57:=hrw 0 (57,Zc (D (i+1))) rfl;replace r6:=hkw.ro r6;replace sb:=kk sb hkw;clear hkw hrw hnew hdis r8;have r8:=zr8;clear zr8;iterate 2 go_step
    refine rp ?_;refine p_v _ (x_a i 1) ?_;refine p_m (Zb ?_);simp only[pv];go_wp2
    go_roundg g
    case measure=>omega
    case rel=>exact⟨i+1,by omega,rfl,r6,r8,sb⟩
   ·kernel_rfl
structure FdQ (Q:Nat):Prop extends RgQ Q where
 pr:IsP Q
theorem FdQ.pos {Q:Nat}(h:FdQ Q):0<Q:=l_ (by decide) h.two
theorem Jp (A g gr gf P Q G:Nat)(w:World)(hA:A<2^256)(q:FdQ Q)(h:GrpAt w g gr gf P Q G):
  Calls prog 79 #[.pointer (some ⟨g,0,none⟩),.agg (Zc A)] w (Rt (.bool (decide (A<Q))) w):=by
 refine GR _ _ A _ w (fun w' hb=>YF _ _ _ _ _ _ w' (h.below hb).kn) fun w' hb=>?_
 have:=SJ A Q _ _ _ gf w' hA q.pos q.m (h.below hb).fld;rw[Oh]at this;exact this
theorem Jq (A B g gr gf P Q G:Nat)(w:World)(hA:A<2^256)(hB:B<2^256)(q:FdQ Q)(h:GrpAt w g gr gf P Q G):
  Calls prog 99 #[.pointer (some ⟨g,0,none⟩),.agg (Zc A),.agg (Zc B)] w (Rt (.agg (Zc ((A+B)%Q))) w):=by
 refine QT _ A B Q _ (U6 Q) w (fun w' hb=>Uk _ _ _ _ _ _ w' (h.below hb).kn) fun w'=>?_
 have:=Nv A B Q w' hA hB q.m;rw[Kb _ _ (Nat.pos_iff_ne_zero.1 q.pos)]at this;exact this
theorem Jr (A B g gr gf P Q G:Nat)(w:World)(hA:A<2^256)(hB:B<2^256)(q:FdQ Q)(h:GrpAt w g gr gf P Q G):
  Calls prog 118 #[.pointer (some ⟨g,0,none⟩),.agg (Zc A),.agg (Zc B)] w (Rt (.agg (Zc (sbN A B Q))) w):=by
 refine Jm _ A B Q _ (U6 Q) w (fun w' hb=>Uk _ _ _ _ _ _ w' (h.below hb).kn) fun w'=>?_
 have:=Hr A B Q w' hA hB q.m;rw[Bb _ _ _ q.pos]at this;exact this
theorem Oj (A B g gr gf P Q G:Nat)(w:World)(hA:A<2^256)(hB:B<2^256)(q:FdQ Q)(h:GrpAt w g gr gf P Q G):
  Calls prog 100 #[.pointer (some ⟨g,0,none⟩),.agg (Zc A),.agg (Zc B)] w (Rt (.agg (Zc (A*B%Q))) w):=
 QU _ _ A B _ w (fun w' hb=>YF _ _ _ _ _ _ w' (h.below hb).kn) fun w' hb=>zg A B Q gf q.toRgQ w' hA hB (h.below hb).fld
theorem Bc (A g gr gf P Q G:Nat)(w:World)(hA:A<2^256)(q:FdQ Q)(h:GrpAt w g gr gf P Q G):
  Calls prog 140 #[.pointer (some ⟨g,0,none⟩),.agg (Zc A)] w (Rt (.agg (Zc (Ru A Q))) w):=
 Jn _ A Q _ _ w (fun w' hb=>Uk _ _ _ _ _ _ w' (h.below hb).kn) fun w'=>GQ A Q w' hA q.m
theorem Bd (g gr gf P Q G n ca ce:Nat)(ab ae:Option Addr)(a' b':Nat->Nat)(gb ob ge oe:Nat)(bcs ecs:Array Value)(tb te:TypeId)(w:World)(q:FdQ Q)(hn:n<9223372036854775808)
  (hna:NatsAt w ab n a' gb ob bcs tb)(hnb:NatsAt w ae n b' ge oe ecs te)(h:GrpAt w g gr gf P Q G):
  Calls prog 47 #[.pointer (some ⟨g,0,none⟩),.slice ab n ca,.slice ae n ce] w (Rt (.tuple #[.agg (Zc (EN a' b' Q n)),.int .i64 0]) w):=
 Jo _ ab ae n ca ce ⟨gf,0,none⟩ a' b' (fun i=>a' i*b' i%Q) (EN a' b' Q) gb ob ge oe bcs ecs tb te w rfl hna hnb hn (fun w' hb=>YF _ _ _ _ _ _ w' (h.below hb).kn)
  (fun i hi w' hb=>Oj _ _ g gr gf P Q G w' (hna.lt i hi) (hnb.lt i hi) q (h.below hb))
  (fun i _ w' hb=>Jq _ _ g gr gf P Q G w' (E_ (Ba a' b' Q q.pos i) q.m) (E_ (m_ _ q.pos) q.m) q (h.below hb))
def NoG (w:World)(v:Option Addr):Prop:=Oi w v 0 0 0 none none
theorem NoG.below {w w':World}{v:Option Addr}(h:NoG w v)(hb:Below w.heap.size w w'):NoG w' v:=Oi.below h hb
theorem Be (v:Option Addr)(A B:Nat)(w:World)(hA:A<2^256)(hB:B<2^256)(h:NoG w v):
  Calls prog 99 #[.pointer v,.agg (Zc A),.agg (Zc B)] w (Rt (.agg (Zc 0)) w):=
 QT _ A B 0 0 _ w (fun w' hb=>Uk _ _ _ _ _ _ w' (h.below hb)) fun w'=>Nv A B 0 w' hA hB (by decide)
theorem Bf (v:Option Addr)(A B:Nat)(w:World)(h:NoG w v):
  Calls prog 100 #[.pointer v,.agg (Zc A),.agg (Zc B)] w (Rt (.agg (Zc 0)) w):=
 QU _ _ A B _ w (fun w' hb=>YF _ _ _ _ _ _ w' (h.below hb)) fun w' _=>zx none A B w' (.inl rfl)
theorem GS (A QN X:Nat)(q:Int)(w:World)
  (hin: ∀w',Calls prog 40 #[.int .i64 q] w' (Rt (.agg (Zc QN)) w'))
  (hrm: ∀w',Calls prog 133 #[.agg (Zc A),.agg (Zc 0),.agg (Zc QN)] w' (Rt (.tuple #[.agg (Zc X),.int .i64 0]) w'))
  (hlo: ∀w',Calls prog 50 #[.agg (Zc X)] w' (Rt (.tuple #[.int .i64 (X:Nat),.bool true]) w')):
  Calls prog 87 #[.agg (Zc A),.int .i64 q] w fun e w'=>e= .returned (.int .i64 (X:Nat))/\Below w.heap.size w w':=by
 go_enter func87,ntmps87
 iterate 2 go_step
 refine rp ?_;refine ZO (by rfl) 57 _ rfl (_) rfl ?_;intro g2 z0 n0 r2 k;simp only[pv];have b2:w.heap.size<=g2:=n0;clear n0;have sb:=k_b k;clear k;refine p_v (.int .i64 0) (fun _=>rfl) (Zb ?_);simp only[pv];iterate 3 go_step
 apply Zi (by kernel_rfl) [] [_,_,_,_,_,_,_,_,_,_,_] trivial a_
 ·intro p;refine m_l r2 ?_;simp only[pv];refine Ze _ (ZE _ rfl _ ZA) ?_;refine m_m ?_;simp only[pv];refine m_c 40 iQ0 #[.int .i64 q] hin ?_;simp only[pv];refine m_c 133 func133 #[.agg (Zc A),.agg (Zc 0),.agg (Zc QN)] hrm ?_;refine m_m ?_;refine m_e ?_;refine m_e ?_;simp only[pv];refine m_n ?_;simp only[pv];refine m_p 17 X ?_;simp only[Act.put];refine m_a ?_;simp only[pv];refine Zf ?_;intro w2 hkw hrw hnew hdis;have n5:=hnew 8 rfl;have zr5:Row w2 (p 8) (Zc X) 57:=hrw 17 (57,Zc X) rfl;have b5:=f_ sb.size n5;replace sb:=kk sb hkw;clear hkw hrw hnew hdis n5;generalize p 8=g5 at*;have r5:=zr5;clear zr5;iterate 3 go_step
  refine rp ?_;refine p_l r5.r ?_;simp only[pv];refine p_c 50 func50 #[.agg (Zc X)] (hlo _) ?_;intro z2001 k;simp only[pv];replace r5:=k.ro r5;replace sb:=kk sb k;clear k;refine p_m ?_;refine p_e ?_;refine p_e ?_;refine p_a ?_;refine p_a (Zb ?_);simp only[pv];iterate 3 go_step
  refine rp ?_;refine p_m ?_;refine p_a (Zb ?_);simp only[pv];go_wp2;go_ret;exact⟨rfl,sb⟩
 ·kernel_rfl
theorem Bg (A q:Nat)(w:World)(hA:A<2^256)(h0:0<q)(hq:q<4611686018427387904):
  Calls prog 87 #[.agg (Zc A),.int .i64 (q:Nat)] w (Rt (.int .i64 (A%q:Nat)) w):=by
 have hX:=m_ A h0;refine GS A q (A%q) q w (fun w'=>?_) (fun w'=>?_) fun w'=>?_
 ·have:=Vp (q:Int) w' (by omega);rw[q_]at this;exact this
 ·have:=Gw A 0 q w' hA (by decide) (by omega);rw[show Sx (0*2^256+A) q=A%q by unfold Sx;rw[i_ (by omega),cD0,B_],show U6 q=0 by unfold U6;rw[i_ (by omega)]]at this;exact this
 ·have:=O6 (A%q) w' (by omega);rw[show LA (A%q)=((A%q:Nat):Int)from j_ (by omega),show LB (A%q)=true from d_ (by omega)]at this;exact this
theorem Js (x y q:Nat)(w:World)(h0:0<q)(hx:x<4611686018427387904)(hy:y<4611686018427387904):
  Calls prog 90 #[.int .i64 (x:Nat),.int .i64 (y:Nat),.int .i64 (q:Nat)] w fun e w'=>e= .returned (.int .i64 ((x+y)%q:Nat))/\Below w.heap.size w w':=by
 go_enter func90,ntmps90
 have sb:=H_ w.heap.size w;repeat((fail_if_success with_reducible apply rg);go_step)
 refine rp ?_;refine p_v (.int .i64 0) (fun _=>rfl) (Zb ?_);simp only[pv];repeat((fail_if_success with_reducible apply rg);go_step)
 refine rp ?_;refine p_m ?_;refine p_m ?_;simp only[pv];refine p_v _ (x_a x y) ?_;refine p_m ?_;simp only[pv];refine p_v _ (YO _ _ _ _ rfl (x+y) q rfl rfl h0) ?_;refine p_a (Zb ?_);simp only[pv];go_wp2;go_ret;exact⟨rfl,sb⟩
theorem Jt (x y q:Nat)(w:World)(h0:0<q)(hq:q<4611686018427387904):
  Calls prog 91 #[.int .i64 (x:Nat),.int .i64 (y:Nat),.int .i64 (q:Nat)] w fun e w'=>e= .returned (.int .i64 (x*y%q:Nat))/\Below w.heap.size w w':=by
 have hti:=fun w'=>SS x y q w' h0 hq
 generalize x*y%q=T at*;clear h0 hq
 go_enter func91,ntmps91
 have sb:=H_ w.heap.size w;repeat((fail_if_success with_reducible apply rg);go_step)
 refine rp ?_;refine p_v (.int .i64 0) (fun _=>rfl) (Zb ?_);simp only[pv];repeat((fail_if_success with_reducible apply rg);go_step)
 refine rp ?_;refine p_m ?_;refine p_m ?_;refine p_m ?_;simp only[pv];refine p_c 135 func135 #[.int .i64 (x:Nat),.int .i64 (y:Nat),.int .i64 (q:Nat)] (hti _) ?_;intro z1003 k;simp only[pv];replace sb:=kk sb k;clear k;refine p_a (Zb ?_);simp only[pv];go_wp2;go_ret;exact⟨rfl,sb⟩
def pk2 {α:Type}(b:Bool)(x y:α):α:=if b=true then x else y
theorem Bh (a0 z:Int)(w:World)(hz:bits .and .i64 a0 1=z)(h:decide (z=1)=true):
  Calls prog 30 #[.int .i64 a0] w fun e w'=> ∃g,e= .returned (.agg (paC (some ⟨g,0,none⟩) 3 3 otG))/\w.heap.size<=g/\Row w' g (Og 3 (lN otL) Pz) 106/\Below w.heap.size w w':=by
 go_enter func30,ntmps30
 iterate 2 go_step
 refine rp ?_;refine ZT (by rfl) 59 rfl _ TL ?_;intro g2 z0 n0 r2 k;simp only[pv];have b2:w.heap.size<=g2:=n0;clear n0;have sb:=k_b k;clear k;refine Zb ?_;iterate 4 go_step
 refine rp ?_;refine p_m ?_;simp only[pv];refine p_v (.int .i64 z) (fun w'=>(WH .and _ _ _ _ (.inl rfl) rfl a0 1 rfl rfl w').trans (by rw[hz])) ?_;simp only[pv];refine p_v _ (ZK .i64 _ _ _ _ rfl z 1 rfl rfl true h) (Zb ?_);simp only[pv];iterate 4 go_step
 refine rp ?_;refine p_f 21 func21 #[] (MV _) ?_;rintro _ z2000 ⟨gL,rfl,nL,rL,hb⟩;refine⟨_,rfl,?_⟩;simp only[pv];have d2xL:=l_l r2.lt nL;have bL:=f_ sb.size nL;clear nL;have k:=Kept.ofBelow hb;clear hb;replace r2:=k.ro r2;replace sb:=kk sb k;clear k;refine Xg (by rfl) 59 _ _ rfl _ rfl r2 (paC (some ⟨gL,0,none⟩) 3 3 otG) rfl (by exact Xy) (by rfl) (QR _ _ _ _) ?_;clear r2;intro z2001 r2 k;simp only[Act.put];replace rL:=k.ro rL;replace sb:=kk sb k;clear k;refine Zb ?_;go_wp2;exact XL rfl _ rfl r2 _ aY0 (by exact Xy) rfl ⟨gL,rfl,bL,rL,sb⟩
theorem Bi (a0 z:Int)(w:World)(hz:bits .and .i64 a0 1=z)(h:decide (z=1)=false):
  Calls prog 30 #[.int .i64 a0] w fun e w'=> ∃g,e= .returned (.agg (paC (some ⟨g,0,none⟩) 3 3 leG))/\w.heap.size<=g/\Row w' g (Og 3 (lN leL) Pz) 106/\Below w.heap.size w w':=by
 go_enter func30,ntmps30
 iterate 2 go_step
 refine rp ?_;refine ZT (by rfl) 59 rfl _ TL ?_;intro g2 z0 n0 r2 k;simp only[pv];have b2:w.heap.size<=g2:=n0;clear n0;have sb:=k_b k;clear k;refine Zb ?_;iterate 4 go_step
 refine rp ?_;refine p_m ?_;simp only[pv];refine p_v (.int .i64 z) (fun w'=>(WH .and _ _ _ _ (.inl rfl) rfl a0 1 rfl rfl w').trans (by rw[hz])) ?_;simp only[pv];refine p_v _ (ZK .i64 _ _ _ _ rfl z 1 rfl rfl false h) (Zb ?_);simp only[pv];iterate 7 go_step
 refine rp ?_;refine p_f 20 func20 #[] (MU _) ?_;rintro _ z3000 ⟨gL,rfl,nL,rL,hb⟩;refine⟨_,rfl,?_⟩;simp only[pv];have d2xL:=l_l r2.lt nL;have bL:=f_ sb.size nL;clear nL;have k:=Kept.ofBelow hb;clear hb;replace r2:=k.ro r2;replace sb:=kk sb k;clear k;refine Xg (by rfl) 59 _ _ rfl _ rfl r2 (paC (some ⟨gL,0,none⟩) 3 3 leG) rfl (by exact Xy) (by rfl) (QR _ _ _ _) ?_;clear r2;intro z3001 r2 k;simp only[Act.put];replace rL:=k.ro rL;replace sb:=kk sb k;clear k;refine Zb ?_;go_wp2;exact XL rfl _ rfl r2 _ aY0 (by exact Xy) rfl ⟨gL,rfl,bL,rL,sb⟩
def pkB (a0:Int):Bool:=decide (bits .and .i64 a0 1=1)
theorem Ju (a0:Int)(w:World):
  Calls prog 30 #[.int .i64 a0] w fun e w'=> ∃g,e= .returned (.agg (paC (some ⟨g,0,none⟩) 3 3 (pk2 (pkB a0) otG leG)))/\w.heap.size<=g/\Row w' g (Og 3 (lN (pk2 (pkB a0) otL leL)) Pz) 106/\Below w.heap.size w w':=by
 cases h:pkB a0 with
 |true=>exact Bh a0 _ w rfl h
 |false=>exact Bi a0 _ w rfl h
theorem EO (b:Bool):grN 3 (lN (pk2 b otL leL)) Pz (pk2 b otG leG)=true/\(∀i,i<3->lN (pk2 b otL leL) i<2^256)/\pk2 b otG leG<2^256/\lN (pk2 b otL leL) (3-2)<4611686018427387904:=by
 cases b with
 |true=>exact⟨Ga,xq,by decide,by decide⟩
 |false=>exact⟨Nm,zl,by decide,by decide⟩
end Go.Proofs.YtnagnkhbamhfmaaGreatDoor
