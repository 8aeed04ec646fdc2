import Derived.Test.YtcdahmommonnfaaGreatDoorGV
import Derived.Test.YtcdahmommonnfaaGreatDoorWAdd
set_option maxRecDepth 100000
set_option maxHeartbeats 8000000
namespace Go.Proofs.YtcdahmommonnfaaGreatDoor
set_option linter.all false
open Go.Proofs.Tryz
open Go.RowKit
def Nob (w:World)(v:Option Addr):Prop:=v=none∨ ∃g,v=some ⟨g,0,none⟩/\Row w g (rgC 0 0 0 0) 157
theorem Nob.below {w w':World}{v:Option Addr}(h:Nob w v)(hb:Below w.heap.size w w'):Nob w' v:=h.imp id fun⟨g,h1,h2⟩=>⟨g,h1,h2.belowAll hb⟩
theorem Nob.on {w w':World}{v:Option Addr}(h:Nob w v)(hk:Kept [] w w'):Nob w' v:=h.imp id fun⟨g,h1,h2⟩=>⟨g,h1,hk.row h2 (by simp)⟩
theorem JE (v:Option Addr)(w:World)(h:Nob w v):
  Calls prog 131 #[.pointer v] w fun e w'=>e= .returned (.bool false)/\Below w.heap.size w w':=by
 obtain rfl|⟨g0,rfl,r0⟩:=h
 ·go_enter func131,ntmps131
  iterate 2 go_step
  apply Zd [] [_] trivial List.nodup_nil
  ·intro p;refine Zg (.bool false) (fun _=>rfl) ?_;simp only[pv];refine Zi ?_;intro w2 hkw hrw hnew hdis;have sb:=k_b hkw;clear hkw hrw hnew hdis;iterate 3 go_step
   refine ZQ ?_;refine q_m ?_;simp only[pv];refine q_v _ (YE 109 _ _ _ rfl none rfl rfl TN) ?_;refine q_m ?_;simp only[pv];refine ZI (by rfl) ?_;simp only[pv];refine ZI (by rfl) ?_;simp only[pv];refine ZI (by rfl) ?_;simp only[pv];refine ZI (by rfl) ?_;simp only[pv];refine ZI (by rfl) ?_;simp only[pv];refine ZI (by rfl) ?_;refine q_p false (.bool false) ?_;refine q_a ?_;simp only[pv];refine Z2 ?_;intro w3 hqb;replace sb:=b_o sb hqb;clear hqb;go_wp2;go_ret;exact⟨rfl,sb⟩
  ·rfl
 ·go_enter func131,ntmps131
  iterate 2 go_step
  apply Zd [] [_] trivial List.nodup_nil
  ·intro p;refine Zg (.bool false) (fun _=>rfl) ?_;simp only[pv];refine Zi ?_;intro w2 hkw hrw hnew hdis;replace r0:=hkw.ro r0;have sb:=k_b hkw;clear hkw hrw hnew hdis;iterate 3 go_step
   refine ZQ ?_;refine q_m ?_;simp only[pv];refine q_v _ (YE 109 _ _ _ rfl (some ⟨g0,0,none⟩) rfl rfl TN) ?_;refine q_m ?_;refine q_m ?_;simp only[pv];refine q_v (.pointer (some ⟨g0,0,none⟩)) (Zl _ rfl g0 0 rfl) ?_;simp only[pv];refine q_v _ (Zb 157 _ 0 rfl g0 0 rfl _ underlying157 _ rfl 3 sizeOf39) ?_;simp only[pv];refine Yq (by rfl) 39 _ rfl _ (0) rfl r0 (Zc 0) (E4 0 0 0 0) _ underlying39 rfl Ze ?_;simp only[pv];refine q_v _ (ZS 39 rfl _ ZO) ?_;simp only[pv];refine q_v (.bool false) (fun w'=>(Yf _ _ _ rfl 0 0 rfl rfl w').trans (by rw[decide_eq_true rfl];rfl)) ?_;refine q_p true (.bool false) ?_;refine q_a ?_;simp only[pv];refine Z2 ?_;intro w3 hqb;replace sb:=b_o sb hqb;clear hqb;go_wp2;go_ret;exact⟨rfl,sb⟩
  ·rfl
theorem Do (v:Option Addr)(A B:Nat)(w:World)(h:Nob w v):
  Calls prog 270 #[.pointer v,.agg (Zc A),.agg (Zc B)] w fun e w'=>e= .returned (.agg (Zc 0))/\Below w.heap.size w w':=by
 have hgi:=fun w' (hb:Below w.heap.size w w')=>JE v w' (h.below hb)
 clear h
 go_enter func270,ntmps270
 iterate 2 go_step
 apply Zd [] [_,_,_] trivial List.nodup_nil
 ·intro p;refine YD 39 _ rfl _ rfl ?_;simp only[pv];refine YD 39 _ rfl _ rfl ?_;simp only[pv];refine m_n ?_;simp only[pv];refine Zi ?_;intro w2 hkw hrw hnew hdis;have n4:=hnew 0 rfl;have n5:=hnew 1 rfl;have n6:=hnew 2 rfl;have zr4:Row w2 (p 0) (Zc A) 39:=hrw 1 (39,Zc A) rfl;have zr5:Row w2 (p 1) (Zc B) 39:=hrw 3 (39,Zc B) rfl;have zr6:Row w2 (p 2) (Zc 0) 39:=hrw 5 (39,Zc 0) rfl;have sb:=k_b hkw;have b6:w.heap.size<=p 2:=n6;clear hkw hrw hnew hdis n4 n5 n6;generalize p 0=g4 at*;generalize p 1=g5 at*;generalize p 2=g6 at*;clear zr4;clear zr5;have r6:=zr6;clear zr6;iterate 4 go_step
  apply Zd [] [_,_,_] trivial List.nodup_nil
  ·intro p;refine m_m ?_;simp only[pv];refine m_k 131 func131 #[.pointer v] (fun w' hk=>hgi w' (sb.trans (hk.below w.heap.size sb.size (by simp)))) ?_;simp only[pv];refine Zg _ (Zp _ _ rfl false rfl) ?_;simp only[pv];refine Zi ?_;intro w3 hkw hrw hnew hdis;replace r6:=hkw.ro r6;replace sb:=kk sb hkw;clear hkw hrw hnew hdis;iterate 4 go_step
   apply Zd [(g6,39,Zc 0)] [_,_] ⟨r6,trivial⟩ (by simp<;>omega)
   ·intro p;refine Zg _ (ZS 39 rfl _ ZO) ?_;simp only[pv];refine m_p 0 0 ?_;simp only[Act.put];refine Zi ?_;intro w4 hkw hrw hnew hdis;have zr6:Row w4 (g6) (Zc 0) 39:=hrw 0 (39,Zc 0) rfl;replace sb:=kk sb hkw;clear hkw hrw hnew hdis r6;have r6:=zr6;clear zr6;go_wp2;exact ZX rfl _ rfl r6 4 _ underlying39 (by exact Ze) rfl ⟨rfl,sb⟩
   ·rfl
  ·rfl
 ·rfl
structure Held (wr w:World)(g3 g4 g6 g7 g8 g9 g10 M L S b f:Nat):Prop where
 m:Row wr g3 (Zc M) 39
 z:Row wr g4 (Zc 0) 39
 one:Row wr g6 (Zc 1) 39
 l:Row wr g7 (Zc L) 39
 s:Row wr g8 (Zc S) 39
 b:Row wr g9 (Zc b) 39
 f:Row wr g10 (Zc f) 39
 below:Below w.heap.size w wr
theorem AJ:lN leL (3-1)=1055500680322183127:=rfl
theorem AK:lN leL (3-2)=1966023127:=rfl
def sbN (A B q:Nat):Nat:=(A%q+(q-B%q))%q
def Bp (a b:Nat->Nat)(q:Nat):Nat->Nat
 |0=>0
 |k+1=>(Bp a b q k+a k*b k%q)%q
def ivN (x q:Nat):Nat:=if x=0 then 0 else x^(q-2)%q
theorem JF (v f:Option Addr)(A:Nat)(B:Bool)(w:World)(hq: ∀w',Below w.heap.size w w'->Calls prog 250 #[.pointer v] w' (Rt (.pointer f) w'))
  (hin: ∀w',Below w.heap.size w w'->Calls prog 251 #[.pointer f,.agg (Zc A)] w' (Rt (.bool B) w')):
  Calls prog 226 #[.pointer v,.agg (Zc A)] w fun e w'=>e= .returned (.bool B)/\Below w.heap.size w w':=by
 go_enter func226,ntmps226
 iterate 2 go_step
 refine rp ?_;refine ZD (by rfl) 39 _ rfl (_) rfl ?_;intro g3 z0 n0 r3 k;simp only[pv];have b3:w.heap.size<=g3:=n0;clear n0;have sb:=k_b k;clear k;refine p_v (.bool false) (fun _=>rfl) (Za ?_);simp only[pv];iterate 3 go_step
 refine ZF (by kernel_rfl) (by kernel_rfl) ?_;refine q_m ?_;simp only[pv];refine q_k 250 func250 #[.pointer v] (fun w' hb=>hq w' (Zk sb (Nat.le_refl _) hb)) ?_;simp only[pv];refine Xc (by rfl) 39 _ rfl _ rfl r3 4 _ underlying39 Ze ?_;simp only[pv];refine q_k 251 func251 #[.pointer f,.agg (Zc A)] (fun w' hb=>hin w' (Zk sb (Nat.le_refl _) hb)) ?_;refine q_a ?_;simp only[pv];refine Z2 ?_;intro w3 hqb;replace sb:=b_o sb hqb;clear hqb;go_wp2;go_ret;exact⟨rfl,sb⟩
theorem S4 (v:Option Addr)(A B QQ S:Nat)(z:Int)(w:World)(hq: ∀w',Below w.heap.size w w'->Calls prog 222 #[.pointer v] w' (Rt (.agg (Zc QQ)) w'))
  (had: ∀w',Calls prog 267 #[.agg (Zc A),.agg (Zc B),.agg (Zc QQ)] w' (Rt (.tuple #[.agg (Zc S),.int .i64 z]) w')):
  Calls prog 254 #[.pointer v,.agg (Zc A),.agg (Zc B)] w fun e w'=>e= .returned (.agg (Zc S))/\Below w.heap.size w w':=by
 go_enter func254,ntmps254
 iterate 2 go_step
 refine rp ?_;refine ZD (by rfl) 39 _ rfl (_) rfl ?_;intro g4 z0 n0 r4 k;simp only[pv];clear n0;have sb:=k_b k;clear k;refine ZD (by rfl) 39 _ rfl (_) rfl ?_;intro g5 z1 n0 r5 k;simp only[pv];clear n0;replace r4:=k.ro r4;replace sb:=kk sb k;clear k;refine ZJ (by rfl) 39 rfl _ Zv ?_;intro g6 z2 n0 r6 k;simp only[pv];have b6:=Nat.le_trans sb.size n0;clear n0;replace r4:=k.ro r4;replace r5:=k.ro r5;replace sb:=kk sb k;clear k;refine Za ?_;iterate 3 go_step
 apply Zo (by kernel_rfl) [] [_,_,_,_,_,_,_,_,_,_,_] trivial List.nodup_nil
 ·intro p;refine m_l r4 ?_;simp only[pv];refine m_l r5 ?_;refine m_m ?_;simp only[pv];refine m_k 222 func222 #[.pointer v] (fun w' hk=>hq w' (sb.trans (hk.below w.heap.size sb.size (by simp<;>omega)))) ?_;simp only[pv];refine m_c 267 func267 #[.agg (Zc A),.agg (Zc B),.agg (Zc QQ)] had ?_;refine m_m ?_;refine m_e ?_;refine m_e ?_;simp only[pv];refine m_n ?_;simp only[pv];refine m_p 17 S ?_;simp only[Act.put];refine m_a ?_;simp only[pv];refine Zi ?_;intro w2 hkw hrw hnew hdis;have n7:=hnew 8 rfl;have zr7:Row w2 (p 8) (Zc S) 39:=hrw 17 (39,Zc S) rfl;have d6x7:=l_l r6.lt n7;replace r6:=hkw.ro r6;replace sb:=kk sb hkw;clear hkw hrw hnew hdis n7;generalize p 8=g7 at*;have r7:=zr7;clear zr7;iterate 3 go_step
  refine rp ?_;refine p_l r7.r ?_;simp only[pv];refine p_p r6 S ?_;clear r6;intro z2001 r6 k;simp only[Act.put];replace r7:=k.ro r7;replace sb:=kk sb k;clear k;refine Za ?_;go_wp2;exact ZX rfl _ rfl r6 4 _ underlying39 (by exact Ze) rfl ⟨rfl,sb⟩
 ·kernel_rfl
theorem S5 (v f:Option Addr)(A B S:Nat)(w:World)(hq: ∀w',Below w.heap.size w w'->Calls prog 250 #[.pointer v] w' (Rt (.pointer f) w'))
  (hmu: ∀w',Below w.heap.size w w'->Calls prog 270 #[.pointer f,.agg (Zc A),.agg (Zc B)] w' (Rt (.agg (Zc S)) w')):
  Calls prog 258 #[.pointer v,.agg (Zc A),.agg (Zc B)] w fun e w'=>e= .returned (.agg (Zc S))/\Below w.heap.size w w':=by
 go_enter func258,ntmps258
 iterate 2 go_step
 refine rp ?_;refine ZD (by rfl) 39 _ rfl (_) rfl ?_;intro g4 z0 n0 r4 k;simp only[pv];clear n0;have sb:=k_b k;clear k;refine ZD (by rfl) 39 _ rfl (_) rfl ?_;intro g5 z1 n0 r5 k;simp only[pv];clear n0;replace r4:=k.ro r4;replace sb:=kk sb k;clear k;refine ZJ (by rfl) 39 rfl _ Zv ?_;intro g6 z2 n0 r6 k;simp only[pv];have d4x6:=l_l r4.lt n0;have d5x6:=l_l r5.lt n0;have b6:=Nat.le_trans sb.size n0;clear n0;replace r4:=k.ro r4;replace r5:=k.ro r5;replace sb:=kk sb k;clear k;refine Za ?_;iterate 3 go_step
 apply Zo (by kernel_rfl) [(g6,39,Zc 0)] [_,_,_,_,_,_] ⟨r6,trivial⟩ (by simp<;>omega)
 ·intro p;refine m_m ?_;simp only[pv];refine m_k 250 func250 #[.pointer v] (fun w' hk=>hq w' (sb.trans (hk.below w.heap.size sb.size (by simp<;>omega)))) ?_;simp only[pv];refine m_l r4 ?_;simp only[pv];refine m_l r5 ?_;simp only[pv];refine m_k 270 func270 #[.pointer f,.agg (Zc A),.agg (Zc B)] (fun w' hk=>hmu w' (sb.trans (hk.below w.heap.size sb.size (by simp<;>omega)))) ?_;simp only[pv];refine m_p 0 S ?_;simp only[Act.put];refine Zi ?_;intro w2 hkw hrw hnew hdis;have zr6:Row w2 (g6) (Zc S) 39:=hrw 0 (39,Zc S) rfl;replace sb:=kk sb hkw;clear hkw hrw hnew hdis r6;have r6:=zr6;clear zr6;go_wp2;exact ZX rfl _ rfl r6 4 _ underlying39 (by exact Ze) rfl ⟨rfl,sb⟩
 ·kernel_rfl
theorem S6:prog.underlying 109=some (.pointer (prog.pointee 109)):=by kernel_rfl
structure FdQ (Q:Nat):Prop extends RgQ Q where
 pr:IsP Q
theorem FdQ.pos {Q:Nat}(h:FdQ Q):0<Q:=Nat.lt_of_lt_of_le (by decide) h.two
theorem Dp (A g gr gf P Q G:Nat)(w:World)(hA:A<2^256)(q:FdQ Q)(h:GrpAt w g gr gf P Q G):
  Calls prog 226 #[.pointer (some ⟨g,0,none⟩),.agg (Zc A)] w (Rt (.bool (decide (A<Q))) w):=by
 refine JF _ _ A _ w (fun w' hb=>Xu _ _ _ _ _ _ w' (h.below hb).kn) fun w' hb=>?_
 have:=Ow A Q _ _ _ gf w' hA q.pos q.m (h.below hb).fld;rw[Qj]at this;exact this
theorem Fq (A B g gr gf P Q G:Nat)(w:World)(hA:A<2^256)(hB:B<2^256)(q:FdQ Q)(h:GrpAt w g gr gf P Q G):
  Calls prog 254 #[.pointer (some ⟨g,0,none⟩),.agg (Zc A),.agg (Zc B)] w (Rt (.agg (Zc ((A+B)%Q))) w):=by
 refine S4 _ A B Q _ (RJ Q) w (fun w' hb=>V1 _ _ _ _ _ _ w' (h.below hb).kn) fun w'=>?_
 have:=Pv A B Q w' hA hB q.m;rw[NV _ _ (Nat.pos_iff_ne_zero.1 q.pos)]at this;exact this
theorem Fr (A B g gr gf P Q G:Nat)(w:World)(hA:A<2^256)(hB:B<2^256)(q:FdQ Q)(h:GrpAt w g gr gf P Q G):
  Calls prog 258 #[.pointer (some ⟨g,0,none⟩),.agg (Zc A),.agg (Zc B)] w (Rt (.agg (Zc (A*B%Q))) w):=
 S5 _ _ A B _ w (fun w' hb=>Xu _ _ _ _ _ _ w' (h.below hb).kn) fun w' hb=>Dd A B Q gf q.toRgQ w' hA hB (h.below hb).fld
def NoG (w:World)(v:Option Addr):Prop:=UT w v 0 0 0 none none
theorem NoG.below {w w':World}{v:Option Addr}(h:NoG w v)(hb:Below w.heap.size w w'):NoG w' v:=UT.below h hb
theorem Fs (v:Option Addr)(A B:Nat)(w:World)(hA:A<2^256)(hB:B<2^256)(h:NoG w v):
  Calls prog 254 #[.pointer v,.agg (Zc A),.agg (Zc B)] w (Rt (.agg (Zc 0)) w):=
 S4 _ A B 0 0 _ w (fun w' hb=>V1 _ _ _ _ _ _ w' (h.below hb)) fun w'=>Pv A B 0 w' hA hB (by decide)
theorem Ft (v:Option Addr)(A B:Nat)(w:World)(h:NoG w v):
  Calls prog 258 #[.pointer v,.agg (Zc A),.agg (Zc B)] w (Rt (.agg (Zc 0)) w):=
 S5 _ _ A B _ w (fun w' hb=>Xu _ _ _ _ _ _ w' (h.below hb)) fun w' _=>Do none A B w' (.inl rfl)
def pk2 {α:Type}(b:Bool)(x y:α):α:=if b=true then x else y
theorem Fu (a0 z:Int)(w:World)(hz:bits .and .i64 a0 1=z)(h:decide (z=1)=true):
  Calls prog 11 #[.int .i64 a0] w fun e w'=> ∃g,e= .returned (.agg (paC (some ⟨g,0,none⟩) 3 3 otG))/\w.heap.size<=g/\Row w' g (RK 3 (lN otL) SY) 148/\Below w.heap.size w w':=by
 go_enter func11,ntmps11
 iterate 2 go_step
 refine rp ?_;refine ZJ (by rfl) 41 rfl _ Uu ?_;intro g2 z0 n0 r2 k;simp only[pv];have b2:w.heap.size<=g2:=n0;clear n0;have sb:=k_b k;clear k;refine Za ?_;iterate 4 go_step
 refine rp ?_;refine p_m ?_;simp only[pv];refine p_v (.int .i64 z) (fun w'=>(Ug .and _ _ _ _ (.inl rfl) rfl a0 1 rfl rfl w').trans (by rw[hz])) ?_;simp only[pv];refine p_v _ (Zq .i64 _ _ _ _ rfl z 1 rfl rfl true h) (Za ?_);simp only[pv];iterate 4 go_step
 refine rp ?_;refine p_f 43 func43 #[] (OJ _) ?_;rintro _ z2000 ⟨gL,rfl,nL,rL,hb⟩;refine⟨_,rfl,?_⟩;simp only[pv];have d2xL:=l_l r2.lt nL;have bL:=Nat.le_trans sb.size nL;clear nL;have k:=Kept.ofBelow hb;clear hb;replace r2:=k.ro r2;replace sb:=kk sb k;clear k;refine Z0 (by rfl) 41 _ _ rfl _ rfl r2 (paC (some ⟨gL,0,none⟩) 3 3 otG) rfl (by exact Y3) (by rfl) (S1 _ _ _ _) ?_;clear r2;intro z2001 r2 k;simp only[Act.put];replace rL:=k.ro rL;replace sb:=kk sb k;clear k;refine Za ?_;go_wp2;exact YP rfl _ rfl r2 _ underlying41 (by exact Y3) rfl ⟨gL,rfl,bL,rL,sb⟩
theorem Fv (a0 z:Int)(w:World)(hz:bits .and .i64 a0 1=z)(h:decide (z=1)=false):
  Calls prog 11 #[.int .i64 a0] w fun e w'=> ∃g,e= .returned (.agg (paC (some ⟨g,0,none⟩) 3 3 leG))/\w.heap.size<=g/\Row w' g (RK 3 (lN leL) SY) 148/\Below w.heap.size w w':=by
 go_enter func11,ntmps11
 iterate 2 go_step
 refine rp ?_;refine ZJ (by rfl) 41 rfl _ Uu ?_;intro g2 z0 n0 r2 k;simp only[pv];have b2:w.heap.size<=g2:=n0;clear n0;have sb:=k_b k;clear k;refine Za ?_;iterate 4 go_step
 refine rp ?_;refine p_m ?_;simp only[pv];refine p_v (.int .i64 z) (fun w'=>(Ug .and _ _ _ _ (.inl rfl) rfl a0 1 rfl rfl w').trans (by rw[hz])) ?_;simp only[pv];refine p_v _ (Zq .i64 _ _ _ _ rfl z 1 rfl rfl false h) (Za ?_);simp only[pv];iterate 7 go_step
 refine rp ?_;refine p_f 34 func34 #[] (Td _) ?_;rintro _ z3000 ⟨gL,rfl,nL,rL,hb⟩;refine⟨_,rfl,?_⟩;simp only[pv];have d2xL:=l_l r2.lt nL;have bL:=Nat.le_trans sb.size nL;clear nL;have k:=Kept.ofBelow hb;clear hb;replace r2:=k.ro r2;replace sb:=kk sb k;clear k;refine Z0 (by rfl) 41 _ _ rfl _ rfl r2 (paC (some ⟨gL,0,none⟩) 3 3 leG) rfl (by exact Y3) (by rfl) (S1 _ _ _ _) ?_;clear r2;intro z3001 r2 k;simp only[Act.put];replace rL:=k.ro rL;replace sb:=kk sb k;clear k;refine Za ?_;go_wp2;exact YP rfl _ rfl r2 _ underlying41 (by exact Y3) rfl ⟨gL,rfl,bL,rL,sb⟩
def pkB (a0:Int):Bool:=decide (bits .and .i64 a0 1=1)
theorem MO (a0:Int)(w:World):
  Calls prog 11 #[.int .i64 a0] w fun e w'=> ∃g,e= .returned (.agg (paC (some ⟨g,0,none⟩) 3 3 (pk2 (pkB a0) otG leG)))/\w.heap.size<=g/\Row w' g (RK 3 (lN (pk2 (pkB a0) otL leL)) SY) 148/\Below w.heap.size w w':=by
 cases h:pkB a0 with
 |true=>exact Fu a0 _ w rfl h
 |false=>exact Fv a0 _ w rfl h
theorem Hj (b:Bool):grN 3 (lN (pk2 b otL leL)) SY (pk2 b otG leG)=true/\(∀i,i<3->lN (pk2 b otL leL) i<2^256)/\pk2 b otG leG<2^256/\lN (pk2 b otL leL) (3-2)<4611686018427387904:=by
 cases b with
 |true=>exact⟨Jo,Bo,by decide,by decide⟩
 |false=>exact⟨Pn,Dh,by decide,by decide⟩
section
variable {q:Nat}[NeZero q]
def pev (x:Fin q):List (Fin q)->Fin q
 |[]=>0
 |c::t=>c+x*pev x t
def pdv (a:Fin q):List (Fin q)->List (Fin q)
 |[]=>[]
 |[_]=>[]
 |_::d::t=>pev a (d::t)::pdv a (d::t)
def pco (f:List (Fin q))(i:Nat):Fin q:=f.getD i 0
theorem JG (c:Fin q)(t:List (Fin q)):pco (c::t) 0=c:=rfl
theorem V3 (c:Fin q)(t:List (Fin q))(i:Nat):pco (c::t) (i+1)=pco t i:=rfl
theorem TT (f:List (Fin q))(i:Nat)(h:f.length<=i):pco f i=0:=by
 unfold pco;rw[List.getD_eq_getElem?_getD,List.getElem?_eq_none h];rfl
theorem Hk (f:List (Fin q))(i:Nat)(h:i<f.length):pco f i=f[i]:=by
 unfold pco;rw[List.getD_eq_getElem?_getD,List.getElem?_eq_getElem h];rfl
def Bq:List (Fin q)->List (Fin q)->List (Fin q)
 |[],g=>g
 |f,[]=>f
 |c::t,d::u=>(c+d)::Bq t u
def AL (c:Fin q)(f:List (Fin q)):List (Fin q):=f.map (c* ·)
def YM:List (Fin q)->List (Fin q)
 |[]=>[]
 |c::t=>if YM t=[]/\c=0 then[]else c::YM t
theorem Wa: ∀(f:List (Fin q)) (i:Nat),pco (YM f) i=pco f i
 |[],_=>rfl
 |c::t,i=>by
  unfold YM
  split
  ·rename_i h
   cases i with
   |zero=>rw[JG,h.2];rfl
   |succ i=>rw[V3,<-Wa t i,h.1];rfl
  ·cases i with
   |zero=>rfl
   |succ i=>rw[V3,V3];exact Wa t i
theorem Pw: ∀f:List (Fin q),(YM f).length<=f.length
 |[]=>Nat.le_refl _
 |c::t=>by
  have:=Pw t;unfold YM
  split
  ·simp
  ·simp only[List.length_cons];omega
theorem WF: ∀f:List (Fin q),YM f=[]↔ ∀i,pco f i=0
 |[]=>⟨fun _ _=>rfl,fun _=>rfl⟩
 |c::t=>by
  have ih:=WF t;unfold YM;constructor
  ·intro h i
   split at h
   ·rename_i hc
    cases i with
    |zero=>exact hc.2
    |succ i=>exact ih.1 hc.1 i
   ·cases h
  ·intro h;rw[if_pos ⟨ih.2 fun i=>h (i+1),h 0⟩]
theorem S7: ∀f g:List (Fin q),(∀i,pco f i=pco g i)->YM f=YM g
 |[],g,h=>((WF g).2 fun i=>(h i).symm).symm
 |c::t,[],h=>(WF (c::t)).2 h
 |c::t,d::u,h=>by
  have h0:c=d:=h 0;have h1:=S7 t u fun i=>h (i+1)
  unfold YM;rw[h0,h1]
theorem Te: ∀f:List (Fin q),YM f≠[]->pco f ((YM f).length-1)≠0
 |[],h=>absurd rfl h
 |c::t,h=>by
  have ih:=Te t;unfold YM at h ⊢
  split
  ·rename_i hc
   rw[if_pos hc]at h;exact absurd rfl h
  ·rename_i hc
   by_cases ht:YM t=[]
   ·rw[ht];intro h0;exact hc ⟨ht,h0⟩
   ·have hl:(YM t).length≠0:=fun e=>ht (List.eq_nil_of_length_eq_zero e)
    show pco (c::t) ((YM t).length+1-1)≠0
    rw[show(YM t).length+1-1=(YM t).length-1+1 by omega,V3];exact ih ht
theorem S8 (f:List (Fin q))(n:Nat)(hz: ∀i,n<=i->pco f i=0)(hn:n=0∨pco f (n-1)≠0):(YM f).length=n:=by
 have h1:(YM f).length<=n:=by
  by_cases e:YM f=[]
  ·rw[e];exact Nat.zero_le _
  ·by_cases hl:(YM f).length<=n
   ·exact hl
   ·exact absurd (hz ((YM f).length-1) (by omega)) (Te f e)
 rcases hn with h0|hn
 ·omega
 ·by_cases hl:(YM f).length<n
  ·exfalso;apply hn;rw[<-Wa];exact TT _ _ (by omega)
  ·omega
def pcv:List (Fin q)->List (Fin q)->List (Fin q)
 |[],_=>[]
 |c::t,g=>Bq (AL c g) (0::pcv t g)
def psm (f:Nat->Fin q):Nat->Fin q
 |0=>0
 |n+1=>psm f n+f n
end
section
variable {q:Nat}[NeZero q]
def Br (f g:List (Fin q)):List (Fin q):=if f=[]∨g=[]then[]else YM (pcv f g)
def Ap (f g:List (Fin q)):List (Fin q):=YM (Bq f g)
def plg (iv:Fin q->Fin q)(xs:Nat->Fin q)(y:Fin q)(i:Nat):Nat->List (Fin q)
 |0=>[y]
 |k+1=>if k=i then plg iv xs y i k else Br (plg iv xs y i k) [(0-xs k)*iv (xs i-xs k),iv (xs i-xs k)]
def Aq (iv:Fin q->Fin q)(xs ys:Nat->Fin q)(n:Nat):Nat->List (Fin q)
 |0=>[]
 |i+1=>Ap (Aq iv xs ys n i) (plg iv xs (ys i) i n)
end
section
variable {q:Nat}[NeZero q]
def poff (xs ys:Nat->Fin q)(n:Nat)(f:List (Fin q)):Nat:=(List.range n).countP fun j=>decide (pev (xs j) f≠ys j)
def fi (A:Nat):Fin q:=Fin.ofNat q A
theorem Tf (A:Nat):(fi A:Fin q).val=A%q:=rfl
theorem Bs (A B:Nat):(fi A:Fin q)=fi B↔A%q=B%q:=⟨fun h=>congrArg Fin.val h,fun h=>Fin.ext h⟩
theorem MP (A:Nat):(fi (A%q):Fin q)=fi A:=Fin.ext (Nat.mod_mod A q)
theorem MQ:(fi 0:Fin q)=0:=rfl
theorem Dq (A B:Nat):(fi (A+B):Fin q)=fi A+fi B:=by
 refine Fin.ext ?_;rw[Fin.val_add,Tf,Tf,Tf,<-Nat.add_mod]
theorem Dr (A B:Nat):(fi (A*B):Fin q)=fi A*fi B:=by
 refine Fin.ext ?_;rw[Fin.val_mul,Tf,Tf,Tf,<-Nat.mul_mod]
def fl (n:Nat)(f:Nat->Nat):List (Fin q):=(List.range n).map fun i=>fi (f i)
theorem WG (n:Nat)(f:Nat->Nat):(fl n f:List (Fin q)).length=n:=by simp[fl]
theorem JH (n:Nat)(f:Nat->Nat)(i:Nat)(h:i<n):pco (fl n f:List (Fin q)) i=fi (f i):=by
 rw[Hk _ _ (by rw[WG];exact h)];simp[fl]
theorem Ds (n:Nat)(f:Nat->Nat)(i:Nat)(h:n<=i):pco (fl n f:List (Fin q)) i=0:=TT _ _ (by rw[WG];exact h)
def ppw (x:Fin q):Nat->Fin q
 |0=>1
 |n+1=>ppw x n*x
end
structure FO where
 ad:Nat->Nat->Nat
 mu:Nat->Nat->Nat
def yTn (F:Nat->Nat):Nat->Nat
 |0=>0
 |n+1=>if F n=0 then yTn F n else n+1
theorem Px (F:Nat->Nat): ∀n,yTn F n<=n
 |0=>Nat.le_refl 0
 |n+1=>by
  have:=Px F n;unfold yTn
  split<;>omega
theorem Qm (F:Nat->Nat): ∀n i,yTn F n<=i->i<n->F i=0
 |0,i,_,h=>by omega
 |n+1,i,h,hi=>by
  unfold yTn at h
  split at h
  ·next h0=>
   by_cases e:i=n
   ·rw[e];exact h0
   ·exact Qm F n i h (by omega)
  ·omega
theorem Py (F:Nat->Nat): ∀n,yTn F n=0∨F (yTn F n-1)≠0
 |0=>.inl rfl
 |n+1=>by
  unfold yTn
  split
  ·exact Py F n
  ·next h=>exact .inr h
def yHv (o:FO)(F:Nat->Nat)(n x:Nat):Nat->Nat
 |0=>0
 |k+1=>o.ad (o.mu (yHv o F n x k) x) (F (n-1-k))
def yCf (n:Nat)(F:Nat->Nat)(k:Nat):Nat:=if k<n then F k else 0
def yCv (o:FO)(F G:Nat->Nat)(k lo:Nat):Nat->Nat
 |0=>0
 |j+1=>o.ad (yCv o F G k lo j) (o.mu (F (lo+j)) (G (k-(lo+j))))
def yTm (o:FO)(F:Nat->Nat)(k:Nat):Nat:=o.ad (F k) 0
def ySm (o:FO)(n:Nat)(F:Nat->Nat)(m:Nat)(G:Nat->Nat)(k:Nat):Nat:=o.ad (yCf n F k) (yCf m G k)
def yMl (o:FO)(n:Nat)(F:Nat->Nat)(m:Nat)(G:Nat->Nat)(k:Nat):Nat:=yCv o F G k (k+1-m) (min n (k+1)-(k+1-m))
def fO (q:Nat):FO:=⟨fun A B=>(A+B)%q,fun A B=>A*B%q⟩
def nO:FO:=⟨fun _ _=>0,fun _ _=>0⟩
section
variable {q:Nat}[NeZero q]
theorem JI:0<q:=Nat.pos_of_ne_zero (NeZero.ne q)
theorem Dt {A B:Nat}(h:(fi A:Fin q)=fi B)(hA:A<q)(hB:B<q):A=B:=by
 have:=(Bs A B).1 h
 rwa [Nat.mod_eq_of_lt hA,Nat.mod_eq_of_lt hB]at this
theorem AM {A:Nat}(hA:A<q):(fi A:Fin q)=0↔A=0:=⟨fun h=>Dt (h.trans MQ.symm) hA JI,fun h=>h▸MQ⟩
theorem Hl {A:Nat}(hA:A<q):(fi A:Fin q).val=A:=Nat.mod_eq_of_lt hA
theorem Du (n:Nat)(F:Nat->Nat)(h: ∀i,i<n->F i<q):(YM (fl n F:List (Fin q))).length=yTn F n:=by
 refine S8 _ _ (fun i hi=>?_) ?_
 ·by_cases hn:i<n
  ·rw[JH _ _ _ hn,Qm F n i hi hn];rfl
  ·exact Ds _ _ _ (by omega)
 ·have hle:=Px F n;rcases Py F n with h1|h1
  ·exact .inl h1
  ·by_cases h0:yTn F n=0
   ·exact .inl h0
   ·refine .inr ?_;rw[JH _ _ _ (by omega)];exact fun e=>h1 ((AM (h _ (by omega))).1 e)
theorem Dv (n:Nat)(F:Nat->Nat)(h: ∀i,i<n->F i<q)(i:Nat)(hi:i<yTn F n):F i=(pco (YM (fl n F:List (Fin q))) i).val:=by
 have hle:=Px F n;rw[Wa,JH _ _ _ (by omega),Hl (h _ (by omega))]
theorem Bt (n:Nat)(F:Nat->Nat)(L:List (Fin q))(h: ∀i,i<n->F i<q)(hL: ∀i,pco (fl n F:List (Fin q)) i=pco L i):
  yTn F n=(YM L).length/\ ∀i,i<yTn F n->F i=(pco (YM L) i).val:=by
 rw[<-S7 _ _ hL];exact⟨(Du n F h).symm,Dv n F h⟩
theorem Dw (n:Nat)(F:Nat->Nat):(fl n (yTm (fO q) F):List (Fin q))=fl n F:=by
 unfold fl;refine List.map_congr_left fun i _=>?_
 show fi ((F i+0)%q)=fi (F i)
 rw[MP];rfl
theorem Dx (F:Nat->Nat)(i:Nat):yTm (fO q) F i<q:=Nat.mod_lt _ JI
theorem Hm (F:Nat->Nat)(n x:Nat): ∀k,k<=n->(fi (yHv (fO q) F n x k):Fin q)=pev (fi x) ((fl n F).drop (n-k))
 |0,_=>by
  rw[List.drop_eq_nil_of_le (by rw[WG];omega)];rfl
 |k+1,h=>by
  show fi ((yHv (fO q) F n x k*x%q+F (n-1-k))%q)=_
  have hl:n-(k+1)<(fl n F:List (Fin q)).length:=by rw[WG];omega
  rw[MP,Dq,MP,Dr,Hm F n x k (by omega),List.drop_eq_getElem_cons hl,<-Hk _ _ hl,JH _ _ _ (by omega),show n-(k+1)+1=n-k by omega,show n-1-k=n-(k+1) by omega];show _=fi _+fi x*pev (fi x) _
  grind
theorem Dy (F:Nat->Nat)(n x:Nat): ∀k,yHv (fO q) F n x k<q
 |0=>JI
 |_+1=>Nat.mod_lt _ JI
theorem Dz (F:Nat->Nat)(n x:Nat):yHv (fO q) F n x n=(pev (fi x) (fl n F:List (Fin q))).val:=by
 have h:=Hm (q:=q) F n x n (Nat.le_refl n);rw[Nat.sub_self,List.drop_zero]at h;rw[<-h,Hl (Dy F n x n)]
def yDv (q m d:Nat)(B:Nat->Nat)(iv:Nat)(R0:Nat->Nat):Nat->(Nat->Nat)×(Nat->Nat)
 |0=>(R0,fun _=>0)
 |k+1=>((fun i=>if d-1-k<=i/\i<d-1-k+m then sbN ((yDv q m d B iv R0 k).1 i) (B (i-(d-1-k))*((yDv q m d B iv R0 k).1 (d-1-k+m-1)*iv%q)%q) q else(yDv q m d B iv R0 k).1 i),
  (fun i=>if i=d-1-k then(yDv q m d B iv R0 k).1 (d-1-k+m-1)*iv%q else(yDv q m d B iv R0 k).2 i))
def tGo (xs:Nat->Fin q):Nat->List (Fin q)
 |0=>[1]
 |k+1=>Br (tGo xs k) [0-xs k,1]
def tTh (iv:Fin q->Fin q)(xs ys:Nat->Fin q):Nat->List (Fin q)
 |0=>[]
 |k+1=>Ap (tTh iv xs ys k) (Br (tGo xs k) [(ys k-pev (xs k) (tTh iv xs ys k))*iv (pev (xs k) (tGo xs k))])
end
end Go.Proofs.YtcdahmommonnfaaGreatDoor
