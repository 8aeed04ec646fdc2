import Derived.Test.YtobblihganocoaaGreatDoorGV
import Derived.Test.YtobblihganocoaaGreatDoorWAdd
import Derived.Test.YtobblihganocoaaGreatDoorWI
set_option maxRecDepth 100000
set_option maxHeartbeats 2000000
namespace Go.Proofs.YtobblihganocoaaGreatDoor
open Go.Proofs.Tryz
set_option linter.unusedVariables false
open Go.RowKit
theorem xK:lN leL (3-1)=1055500680322183127:=rfl
theorem xL:lN leL (3-2)=1966023127:=rfl
def sbN (A B q:Nat):Nat:=(A%q+(q-B%q))%q
def Eh (a b:Nat->Nat)(q:Nat):Nat->Nat
 |0=>0
 |k+1=>(Eh a b q k+a k*b k%q)%q
theorem Cf (a b:Nat->Nat)(q:Nat)(h:0<q): ∀k,Eh a b q k<q
 |0=>h
 |_+1=>Nat.mod_lt _ h
theorem Cg (A B q:Nat)(h:0<q):zV A B q=sbN A B q:=if_neg (by omega)
theorem yB {A q:Nat}(hq:IsP q)(h:A%q=0):Rb A q=0:=by
 unfold Rb
 rw[if_neg (by have:=hq.1;omega),if_neg]
 intro hg
 have hd:q∣Nat.gcd A q:=Nat.dvd_gcd (Nat.dvd_of_mod_eq_zero h) (Nat.dvd_refl q)
 rw[hg]at hd
 have:=Nat.le_of_dvd (by decide) hd
 have:=hq.1
 omega
theorem KL {A q:Nat}(hq:IsP q)(h:A%q≠0):Nat.gcd A q=1:=by
 rw[Nat.gcd_comm]
 exact VA hq fun hd=>h (Nat.mod_eq_zero_of_dvd hd)
theorem yC {A q:Nat}(hq:IsP q)(h:A%q≠0):A*Rb A q%q=1:=by
 rw[Nat.mul_comm]
 exact(LP A q hq.1 (KL hq h)).2
theorem AF (A q:Nat)(hq:IsP q):Rb A q<q:=by
 by_cases h:A%q=0
 ·rw[yB hq h]
  have:=hq.1
  omega
 ·exact(LP A q hq.1 (KL hq h)).1
def ivN (x q:Nat):Nat:=if x=0 then 0 else x^(q-2)%q
theorem H7 (v f:Option Addr)(A:Nat)(B:Bool)(w:World)(hq: ∀w',Below w.heap.size w w'->Calls Tryz.prog 122 #[.pointer v] w' (Rt (.pointer f) w'))
  (hin: ∀w',Below w.heap.size w w'->Calls Tryz.prog 149 #[.pointer f,.agg (Zc A)] w' (Rt (.bool B) w')):
  Calls Tryz.prog 103 #[.pointer v,.agg (Zc A)] w fun e w'=>e= .returned (.bool B)/\Below w.heap.size w w':=by
 go_enter func103,ntmps103
 iterate 2 go_step
 refine rp ?_;refine ZX (by rfl) 62 _ rfl (_) rfl ?_;intro g3 z0 n0 r3 k;refine p_W ?_
 have b3:w.heap.size<=g3:=n0
 clear n0
 have sb:=k_b k
 clear k;refine p_V (.bool false) (fun _=>rfl) ?_
 iterate 3 go_step
 refine Zv (by kernel_rfl) (by kernel_rfl) ?_;refine q_W ?_;refine q_k 122 func122 #[.pointer v] (fun w' hb=>hq w' (Zh sb (Nat.le_refl _) hb)) ?_;refine q_W ?_
 refine YZ (by rfl) 62 _ rfl _ rfl r3 4 _ underlying62 Zb (q_W ?_)
 refine q_k 149 func149 #[.pointer f,.agg (Zc A)] (fun w' hb=>hin w' (Zh sb (Nat.le_refl _) hb)) ?_;refine q_W ?_;intro w3 hqb;replace sb:=b_o sb hqb;clear hqb
 go_wp2
 go_ret
 exact⟨rfl,sb⟩
theorem QF (v:Option Addr)(A B QQ S:Nat)(z:Int)(w:World)(hq: ∀w',Below w.heap.size w w'->Calls Tryz.prog 164 #[.pointer v] w' (Rt (.agg (Zc QQ)) w'))
  (had: ∀w',Calls Tryz.prog 163 #[.agg (Zc A),.agg (Zc B),.agg (Zc QQ)] w' (Rt (.tuple #[.agg (Zc S),.int .i64 z]) w')):
  Calls Tryz.prog 123 #[.pointer v,.agg (Zc A),.agg (Zc B)] w fun e w'=>e= .returned (.agg (Zc S))/\Below w.heap.size w w':=by
 go_enter func123,ntmps123
 iterate 2 go_step
 refine rp ?_;refine ZX (by rfl) 62 _ rfl (_) rfl ?_;intro g4 z0 n0 r4 k;refine p_W ?_;clear n0
 have sb:=k_b k
 clear k;refine ZX (by rfl) 62 _ rfl (_) rfl ?_;intro g5 z1 n0 r5 k;refine p_W ?_;clear n0;replace r4:=k.ro r4;replace sb:=kk sb k;clear k;refine ZN (by rfl) 62 rfl _ Zm ?_;intro g6 z2 n0 r6 k;refine p_W ?_
 have b6:=Nat.le_trans sb.size n0
 clear n0;replace r4:=k.ro r4;replace r5:=k.ro r5;replace sb:=kk sb k;clear k;refine p_W ?_
 iterate 3 go_step
 apply Zg (by kernel_rfl) [] [_,_,_,_,_,_,_,_,_,_,_] trivial List.nodup_nil
 ·intro p;refine m_L r4 ?_;refine m_L r5 ?_
  refine m_K 164 func164 #[.pointer v] (fun w' hk=>hq w' (sb.trans (hk.below w.heap.size sb.size (by simp<;>omega)))) ?_
  refine m_C 163 func163 #[.agg (Zc A),.agg (Zc B),.agg (Zc QQ)] had ?_;refine m_n ?_;refine m_W ?_;refine m_p 17 S ?_;simp only[Act.put];refine m_W ?_;refine Zd ?_;intro w2 hkw hrw hnew hdis
  have n7:=hnew 8 rfl
  have zr7:Row w2 (p 8) (Zc S) 62:=hrw 17 (62,Zc S) rfl
  have d6x7:=l_l r6.lt n7
  replace r6:=hkw.ro r6;replace sb:=kk sb hkw;clear hkw hrw hnew hdis n7
  generalize p 8=g7 at*
  have r7:=zr7
  clear zr7
  iterate 3 go_step
  refine rp ?_;refine p_l r7.r ?_;refine p_W ?_;refine p_p r6 S ?_;clear r6;intro z2001 r6 k;simp only[Act.put];replace r7:=k.ro r7;replace sb:=kk sb k;clear k;refine p_W ?_
  go_wp2
  exact ZH rfl _ rfl r6 4 _ underlying62 (by exact Zb) rfl ⟨rfl,sb⟩
 ·kernel_rfl
theorem KM (v:Option Addr)(A B QQ S:Nat)(z:Int)(w:World)(hq: ∀w',Below w.heap.size w w'->Calls Tryz.prog 164 #[.pointer v] w' (Rt (.agg (Zc QQ)) w'))
  (had: ∀w',Calls Tryz.prog 186 #[.agg (Zc A),.agg (Zc B),.agg (Zc QQ)] w' (Rt (.tuple #[.agg (Zc S),.int .i64 z]) w')):
  Calls Tryz.prog 140 #[.pointer v,.agg (Zc A),.agg (Zc B)] w fun e w'=>e= .returned (.agg (Zc S))/\Below w.heap.size w w':=by
 go_enter func140,ntmps140
 iterate 2 go_step
 refine rp ?_;refine ZX (by rfl) 62 _ rfl (_) rfl ?_;intro g4 z0 n0 r4 k;refine p_W ?_;clear n0
 have sb:=k_b k
 clear k;refine ZX (by rfl) 62 _ rfl (_) rfl ?_;intro g5 z1 n0 r5 k;refine p_W ?_;clear n0;replace r4:=k.ro r4;replace sb:=kk sb k;clear k;refine ZN (by rfl) 62 rfl _ Zm ?_;intro g6 z2 n0 r6 k;refine p_W ?_
 have b6:=Nat.le_trans sb.size n0
 clear n0;replace r4:=k.ro r4;replace r5:=k.ro r5;replace sb:=kk sb k;clear k;refine p_W ?_
 iterate 3 go_step
 apply Zg (by kernel_rfl) [] [_,_,_,_,_,_,_,_,_,_,_] trivial List.nodup_nil
 ·intro p;refine m_L r4 ?_;refine m_L r5 ?_
  refine m_K 164 func164 #[.pointer v] (fun w' hk=>hq w' (sb.trans (hk.below w.heap.size sb.size (by simp<;>omega)))) ?_
  refine m_C 186 func186 #[.agg (Zc A),.agg (Zc B),.agg (Zc QQ)] had ?_;refine m_n ?_;refine m_W ?_;refine m_p 17 S ?_;simp only[Act.put];refine m_W ?_;refine Zd ?_;intro w2 hkw hrw hnew hdis
  have n7:=hnew 8 rfl
  have zr7:Row w2 (p 8) (Zc S) 62:=hrw 17 (62,Zc S) rfl
  have d6x7:=l_l r6.lt n7
  replace r6:=hkw.ro r6;replace sb:=kk sb hkw;clear hkw hrw hnew hdis n7
  generalize p 8=g7 at*
  have r7:=zr7
  clear zr7
  iterate 3 go_step
  refine rp ?_;refine p_l r7.r ?_;refine p_W ?_;refine p_p r6 S ?_;clear r6;intro z2001 r6 k;simp only[Act.put];replace r7:=k.ro r7;replace sb:=kk sb k;clear k;refine p_W ?_
  go_wp2
  exact ZH rfl _ rfl r6 4 _ underlying62 (by exact Zb) rfl ⟨rfl,sb⟩
 ·kernel_rfl
theorem KN (v:Option Addr)(A QQ S:Nat)(z:Int)(w:World)(hq: ∀w',Below w.heap.size w w'->Calls Tryz.prog 164 #[.pointer v] w' (Rt (.agg (Zc QQ)) w'))
  (hiv: ∀w',Calls Tryz.prog 203 #[.agg (Zc A),.agg (Zc QQ)] w' (Rt (.tuple #[.agg (Zc S),.int .i64 z]) w')):
  Calls Tryz.prog 161 #[.pointer v,.agg (Zc A)] w fun e w'=>e= .returned (.agg (Zc S))/\Below w.heap.size w w':=by
 go_enter func161,ntmps161
 iterate 2 go_step
 refine rp ?_;refine ZX (by rfl) 62 _ rfl (_) rfl ?_;intro g3 z0 n0 r3 k;refine p_W ?_;clear n0
 have sb:=k_b k
 clear k;refine ZN (by rfl) 62 rfl _ Zm ?_;intro g4 z1 n0 r4 k;refine p_W ?_
 have b4:=Nat.le_trans sb.size n0
 clear n0;replace r3:=k.ro r3;replace sb:=kk sb k;clear k;refine p_W ?_
 iterate 3 go_step
 apply Zg (by kernel_rfl) [] [_,_,_,_,_,_,_,_,_,_] trivial List.nodup_nil
 ·intro p;refine m_L r3 ?_
  refine m_K 164 func164 #[.pointer v] (fun w' hk=>hq w' (sb.trans (hk.below w.heap.size sb.size (by simp<;>omega)))) ?_
  refine m_C 203 func203 #[.agg (Zc A),.agg (Zc QQ)] hiv ?_;refine m_n ?_;refine m_W ?_;refine m_p 15 S ?_;simp only[Act.put];refine m_W ?_;refine Zd ?_;intro w2 hkw hrw hnew hdis
  have n5:=hnew 7 rfl
  have zr5:Row w2 (p 7) (Zc S) 62:=hrw 15 (62,Zc S) rfl
  have d4x5:=l_l r4.lt n5
  replace r4:=hkw.ro r4;replace sb:=kk sb hkw;clear hkw hrw hnew hdis n5
  generalize p 7=g5 at*
  have r5:=zr5
  clear zr5
  iterate 3 go_step
  refine rp ?_;refine p_l r5.r ?_;refine p_W ?_;refine p_p r4 S ?_;clear r4;intro z2001 r4 k;simp only[Act.put];replace r5:=k.ro r5;replace sb:=kk sb k;clear k;refine p_W ?_
  go_wp2
  exact ZH rfl _ rfl r4 4 _ underlying62 (by exact Zb) rfl ⟨rfl,sb⟩
 ·kernel_rfl
theorem QG (v f:Option Addr)(A B S:Nat)(w:World)(hq: ∀w',Below w.heap.size w w'->Calls Tryz.prog 122 #[.pointer v] w' (Rt (.pointer f) w'))
  (hmu: ∀w',Below w.heap.size w w'->Calls Tryz.prog 165 #[.pointer f,.agg (Zc A),.agg (Zc B)] w' (Rt (.agg (Zc S)) w')):
  Calls Tryz.prog 124 #[.pointer v,.agg (Zc A),.agg (Zc B)] w fun e w'=>e= .returned (.agg (Zc S))/\Below w.heap.size w w':=by
 go_enter func124,ntmps124
 iterate 2 go_step
 refine rp ?_;refine ZX (by rfl) 62 _ rfl (_) rfl ?_;intro g4 z0 n0 r4 k;refine p_W ?_;clear n0
 have sb:=k_b k
 clear k;refine ZX (by rfl) 62 _ rfl (_) rfl ?_;intro g5 z1 n0 r5 k;refine p_W ?_;clear n0;replace r4:=k.ro r4;replace sb:=kk sb k;clear k;refine ZN (by rfl) 62 rfl _ Zm ?_;intro g6 z2 n0 r6 k;refine p_W ?_
 have d4x6:=l_l r4.lt n0
 have d5x6:=l_l r5.lt n0
 have b6:=Nat.le_trans sb.size n0
 clear n0;replace r4:=k.ro r4;replace r5:=k.ro r5;replace sb:=kk sb k;clear k;refine p_W ?_
 iterate 3 go_step
 apply Zg (by kernel_rfl) [(g6,62,Zc 0)] [_,_,_,_,_,_] ⟨r6,trivial⟩ (by simp<;>omega)
 ·intro p;refine m_W ?_
  refine m_K 122 func122 #[.pointer v] (fun w' hk=>hq w' (sb.trans (hk.below w.heap.size sb.size (by simp<;>omega)))) ?_
  refine m_L r4 ?_;refine m_L r5 ?_
  refine m_K 165 func165 #[.pointer f,.agg (Zc A),.agg (Zc B)] (fun w' hk=>hmu w' (sb.trans (hk.below w.heap.size sb.size (by simp<;>omega)))) ?_
  refine m_p 0 S ?_;simp only[Act.put];refine Zd ?_;intro w2 hkw hrw hnew hdis
  have zr6:Row w2 (g6) (Zc S) 62:=hrw 0 (62,Zc S) rfl
  replace sb:=kk sb hkw;clear hkw hrw hnew hdis r6
  have r6:=zr6
  clear zr6
  go_wp2
  exact ZH rfl _ rfl r6 4 _ underlying62 (by exact Zb) rfl ⟨rfl,sb⟩
 ·kernel_rfl
theorem W5:Tryz.prog.underlying 73=some (.pointer (Tryz.prog.pointee 73)):=by kernel_rfl
theorem KO (v ab ae:Option Addr)(n ca ce:Nat)(x:Addr)(a' b' T D:Nat->Nat)(gb ob ge oe:Nat)(bcs ecs:Array Value)(tb te:TypeId)(w:World)(hD0:D 0=0)
  (hna:NatsAt w ab n a' gb ob bcs tb)(hnb:NatsAt w ae n b' ge oe ecs te)(hn63:n<9223372036854775808)(hq: ∀w',Below w.heap.size w w'->Calls Tryz.prog 122 #[.pointer v] w' (Rt (.pointer (some x)) w'))
  (hmu: ∀i,i<n-> ∀w',Below w.heap.size w w'->Calls Tryz.prog 124 #[.pointer v,.agg (Zc (a' i)),.agg (Zc (b' i))] w' (Rt (.agg (Zc (T i))) w'))
  (had: ∀i,i<n-> ∀w',Below w.heap.size w w'->Calls Tryz.prog 123 #[.pointer v,.agg (Zc (D i)),.agg (Zc (T i))] w' (Rt (.agg (Zc (D (i+1)))) w')):
  Calls Tryz.prog 64 #[.pointer v,.slice ab n ca,.slice ae n ce] w fun e w'=>e= .returned (.tuple #[.agg (Zc (D n)),.int .i64 0])/\Below w.heap.size w w':=by
 have HB:Hid (NatsAt w ab n a' gb ob bcs tb):=hna
 have HE:Hid (NatsAt w ae n b' ge oe ecs te):=hnb
 clear hna hnb
 go_enter func64,ntmps64
 iterate 2 go_step
 refine rp ?_;refine ZN (by rfl) 62 rfl _ Zm ?_;intro g6 z0 n0 r6 k;refine p_W ?_
 have b6:w.heap.size<=g6:=n0
 clear n0
 have sb:=k_b k
 clear k;refine p_V (.int .i64 0) (fun _=>rfl) ?_
 iterate 4 go_step
 refine r_p ?_;refine p_c 122 func122 #[.pointer v] (hq _ sb) ?_;intro z1001 k;refine p_W ?_;replace r6:=k.ro r6;replace sb:=kk sb k;clear k;refine p_V _ (WC _ _ _ _ rfl (some x) rfl rfl W5) ?_;refine p_V _ (n_l ab n ca W4) ?_;refine p_V _ (n_l ae n ce W4) ?_;refine p_V _ (ZU .i64 _ _ _ _ rfl n n rfl rfl false (by rw[decide_eq_true rfl];rfl)) ?_;refine p_K false (.bool false) ?_;clear hq
 iterate 7 go_step
 refine rp ?_;refine ZN (by rfl) 62 rfl _ Zm ?_;intro g8 z3000 n0 r8 k;refine p_W ?_
 have d6x8:=l_l r6.lt n0
 have b8:=Nat.le_trans sb.size n0
 clear n0;replace r6:=k.ro r6;replace sb:=kk sb k;clear k;refine p_W ?_
 iterate 4 go_step
 refine r_p ?_;refine p_V _ (n_l ab n ca W4) ?_;refine p_V (.int .i64 0) (fun _=>rfl) ?_
 have r8':Row _ g8 (Zc (D 0)) 62:=hD0▸r8
 clear r8 hD0
 go_wp2_with fail
 go_loopg [9,23] n (fun g s9 s23 wr=> ∃i:Nat,i+g=n/\s23= .int .i64 i/\Row wr g6 (Zc 0) 62/\Row wr g8 (Zc (D i)) 62/\Below w.heap.size w wr)
 case atStart=>exact⟨0,by omega,rfl,r6,r8',sb⟩
 case round=>
  clear r6 r8' sb
  obtain⟨i,hi,rfl,r6,r8,sb⟩:=hrel
  cases gk with
  |zero=>
   obtain rfl:i=n:=by omega
   clear hi hmu had
   go_step
   refine rp ?_;refine p_V _ (Xf i i) ?_
   iterate 8 go_step
   refine rp ?_;refine p_l r8.r ?_;refine p_W ?_;refine p_p r6 (D i) ?_;clear r6;intro z9001 r6 k;simp only[Act.put];replace r8:=k.ro r8;replace sb:=kk sb k;clear k;refine p_V (.int .i64 0) (fun _=>rfl) ?_
   go_wp2
   exact ZY rfl _ rfl r6 4 _ underlying62 (by exact Zb) rfl _ rfl ⟨rfl,sb⟩
  |succ g=>
   have hlt:i<n:=by omega
   replace hmu:=hmu i hlt;replace had:=had i hlt
   go_step
   refine rp ?_;refine p_V _ (XC i n) ?_
   iterate 10 go_step
   refine r_p ?_
   obtain h0|⟨rfl,rB,hbt⟩:=(HB.out.below sb).at'
   ·omega
   obtain h0|⟨rfl,rE,het⟩:=(HE.out.below sb).at'
   ·omega
   have lB:=((HB.out.at'.resolve_left (by omega)).2.1).lt
   have lE:=((HE.out.at'.resolve_left (by omega)).2.1).lt
   iterate 2 go_step
   apply Zg (by kernel_rfl) [(g8,62,Zc (D i))] [_,_,_,_,_,_,_,_,_,_,_,_,_,_] ⟨r8,trivial⟩ (by simp<;>omega)
   ·intro p;refine m_W ?_
    refine YI 0 62 _ rfl rfl rfl 4 _ underlying62 Zb (m_W ?_)
    refine m_X i hlt underlying33 ZA ?_
    refine Yj 62 _ rfl _ ((ob+i*4)) rfl rB (by simp<;>omega) (Zc (a' i)) (hbt i hlt) _ underlying62 rfl Zb (m_W ?_)
    refine m_X i hlt underlying33 ZA ?_
    refine Yj 62 _ rfl _ ((oe+i*4)) rfl rE (by simp<;>omega) (Zc (b' i)) (het i hlt) _ underlying62 rfl Zb (m_W ?_)
    refine m_K 124 func124 #[.pointer v,.agg (Zc (a' i)),.agg (Zc (b' i))] (fun w' hk=>hmu w' (sb.trans (hk.below w.heap.size sb.size (by simp<;>omega)))) ?_
    refine m_K 123 func123 #[.pointer v,.agg (Zc (D i)),.agg (Zc (T i))] (fun w' hk=>had w' (sb.trans (hk.below w.heap.size sb.size (by simp<;>omega)))) ?_
    refine m_p 0 (D (i+1)) ?_;simp only[Act.put];refine Zd ?_;intro w10 hkw hrw hnew hdis
    have zr8:Row w10 (g8) (Zc (D (i+1))) 62:=hrw 0 (62,Zc (D (i+1))) rfl
    replace r6:=hkw.ro r6;replace sb:=kk sb hkw;clear hkw hrw hnew hdis r8
    have r8:=zr8
    clear zr8
    iterate 2 go_step
    refine rp ?_;refine p_V _ (x_a i 1) ?_
    go_wp2
    go_roundg g
    ·exact⟨i+1,by omega,rfl,r6,r8,sb⟩
    omega
   ·kernel_rfl
structure FdQ (Q:Nat):Prop extends RgQ Q where
 pr:IsP Q
theorem FdQ.pos {Q:Nat}(h:FdQ Q):0<Q:=Nat.lt_of_lt_of_le (by decide) h.two
theorem Ei (A g gr gf P Q G:Nat)(w:World)(hA:A<2^256)(q:FdQ Q)(h:GrpAt w g gr gf P Q G):
  Calls Tryz.prog 103 #[.pointer (some ⟨g,0,none⟩),.agg (Zc A)] w fun e w'=>e= .returned (.bool (decide (A<Q)))/\Below w.heap.size w w':=by
 refine H7 _ _ A _ w (fun w' hb=>YG _ _ _ _ _ _ w' (h.below hb).kn) fun w' hb=>?_
 have:=Sw A Q _ _ _ gf w' hA q.pos q.m (h.below hb).fld
 rw[PY]at this
 exact this
theorem KP (A B g gr gf P Q G:Nat)(w:World)(hA:A<2^256)(hB:B<2^256)(q:FdQ Q)(h:GrpAt w g gr gf P Q G):
  Calls Tryz.prog 123 #[.pointer (some ⟨g,0,none⟩),.agg (Zc A),.agg (Zc B)] w fun e w'=>e= .returned (.agg (Zc ((A+B)%Q)))/\Below w.heap.size w w':=by
 refine QF _ A B Q _ (Su Q) w (fun w' hb=>V4 _ _ _ _ _ _ w' (h.below hb).kn) fun w'=>?_
 have:=Na A B Q w' hA hB q.m
 rw[LL _ _ (Nat.pos_iff_ne_zero.1 q.pos)]at this
 exact this
theorem KQ (A B g gr gf P Q G:Nat)(w:World)(hA:A<2^256)(hB:B<2^256)(q:FdQ Q)(h:GrpAt w g gr gf P Q G):
  Calls Tryz.prog 140 #[.pointer (some ⟨g,0,none⟩),.agg (Zc A),.agg (Zc B)] w fun e w'=>e= .returned (.agg (Zc (sbN A B Q)))/\Below w.heap.size w w':=by
 refine KM _ A B Q _ (Su Q) w (fun w' hb=>V4 _ _ _ _ _ _ w' (h.below hb).kn) fun w'=>?_
 have:=I5 A B Q w' hA hB q.m
 rw[Cg _ _ _ q.pos]at this
 exact this
theorem P0 (A B g gr gf P Q G:Nat)(w:World)(hA:A<2^256)(hB:B<2^256)(q:FdQ Q)(h:GrpAt w g gr gf P Q G):
  Calls Tryz.prog 124 #[.pointer (some ⟨g,0,none⟩),.agg (Zc A),.agg (Zc B)] w fun e w'=>e= .returned (.agg (Zc (A*B%Q)))/\Below w.heap.size w w':=
 QG _ _ A B _ w (fun w' hb=>YG _ _ _ _ _ _ w' (h.below hb).kn) fun w' hb=>Au A B Q gf q.toRgQ w' hA hB (h.below hb).fld
theorem Ch (A g gr gf P Q G:Nat)(w:World)(hA:A<2^256)(q:FdQ Q)(h:GrpAt w g gr gf P Q G):
  Calls Tryz.prog 161 #[.pointer (some ⟨g,0,none⟩),.agg (Zc A)] w fun e w'=>e= .returned (.agg (Zc (Rb A Q)))/\Below w.heap.size w w':=
 KN _ A Q _ _ w (fun w' hb=>V4 _ _ _ _ _ _ w' (h.below hb).kn) fun w'=>H6 A Q w' hA q.m
theorem Ci (g gr gf P Q G n ca ce:Nat)(ab ae:Option Addr)(a' b':Nat->Nat)(gb ob ge oe:Nat)(bcs ecs:Array Value)(tb te:TypeId)(w:World)(q:FdQ Q)(hn:n<9223372036854775808)
  (hna:NatsAt w ab n a' gb ob bcs tb)(hnb:NatsAt w ae n b' ge oe ecs te)(h:GrpAt w g gr gf P Q G):
  Calls Tryz.prog 64 #[.pointer (some ⟨g,0,none⟩),.slice ab n ca,.slice ae n ce] w fun e w'=>e= .returned (.tuple #[.agg (Zc (Eh a' b' Q n)),.int .i64 0])/\Below w.heap.size w w':=
 KO _ ab ae n ca ce ⟨gf,0,none⟩ a' b' (fun i=>a' i*b' i%Q) (Eh a' b' Q) gb ob ge oe bcs ecs tb te w rfl hna hnb hn (fun w' hb=>YG _ _ _ _ _ _ w' (h.below hb).kn)
  (fun i hi w' hb=>P0 _ _ g gr gf P Q G w' (hna.lt i hi) (hnb.lt i hi) q (h.below hb))
  (fun i _ w' hb=>KP _ _ g gr gf P Q G w' (Nat.lt_trans (Cf a' b' Q q.pos i) q.m) (Nat.lt_trans (Nat.mod_lt _ q.pos) q.m) q (h.below hb))
def NoG (w:World)(v:Option Addr):Prop:=PZ w v 0 0 0 none none
theorem NoG.below {w w':World}{v:Option Addr}(h:NoG w v)(hb:Below w.heap.size w w'):NoG w' v:=PZ.below h hb
theorem Cj (v:Option Addr)(A B:Nat)(w:World)(hA:A<2^256)(hB:B<2^256)(h:NoG w v):
  Calls Tryz.prog 123 #[.pointer v,.agg (Zc A),.agg (Zc B)] w fun e w'=>e= .returned (.agg (Zc 0))/\Below w.heap.size w w':=
 QF _ A B 0 0 _ w (fun w' hb=>V4 _ _ _ _ _ _ w' (h.below hb)) fun w'=>Na A B 0 w' hA hB (by decide)
theorem Ck (v:Option Addr)(A B:Nat)(w:World)(h:NoG w v):
  Calls Tryz.prog 124 #[.pointer v,.agg (Zc A),.agg (Zc B)] w fun e w'=>e= .returned (.agg (Zc 0))/\Below w.heap.size w w':=
 QG _ _ A B _ w (fun w' hb=>YG _ _ _ _ _ _ w' (h.below hb)) fun w' _=>AE none A B w' (.inl rfl)
def pk2 {α:Type}(b:Bool)(x y:α):α:=if b=true then x else y
theorem Cl (a0 z:Int)(w:World)(hz:bits .and .i64 a0 1=z)(h:decide (z=1)=true):
  Calls Tryz.prog 48 #[.int .i64 a0] w fun e w'=> ∃g,e= .returned (.agg (paC (some ⟨g,0,none⟩) 3 3 otG))/\w.heap.size<=g/\Row w' g (PX 3 (lN otL) Pq) 126/\Below w.heap.size w w':=by
 go_enter func48,ntmps48
 iterate 2 go_step
 refine rp ?_;refine ZN (by rfl) 64 rfl _ Tt ?_;intro g2 z0 n0 r2 k;refine p_W ?_
 have b2:w.heap.size<=g2:=n0
 clear n0
 have sb:=k_b k
 clear k;refine p_W ?_
 iterate 4 go_step
 refine r_p ?_;refine p_V (.int .i64 z) (fun w'=>(Ti .and _ _ _ _ (.inl rfl) rfl a0 1 rfl rfl w').trans (by rw[hz])) ?_;refine p_V _ (ZG .i64 _ _ _ _ rfl z 1 rfl rfl true h) ?_
 iterate 4 go_step
 refine rp ?_;refine p_f 28 func28 #[] (Mp _) ?_
 rintro _ z2000 ⟨gL,rfl,nL,rL,hb⟩
 refine⟨_,rfl,?_⟩
 refine p_W ?_
 have d2xL:=l_l r2.lt nL
 have bL:=Nat.le_trans sb.size nL
 clear nL
 have k:=Kept.ofBelow hb
 clear hb;replace r2:=k.ro r2;replace sb:=kk sb k;clear k;refine Xr (by rfl) 64 _ _ rfl _ rfl r2 (paC (some ⟨gL,0,none⟩) 3 3 otG) rfl (by exact Xw) (by rfl) (QD _ _ _ _) ?_;clear r2;intro z2001 r2 k;simp only[Act.put];replace rL:=k.ro rL;replace sb:=kk sb k;clear k;refine p_W ?_
 go_wp2
 exact XK rfl _ rfl r2 _ underlying64 (by exact Xw) rfl ⟨gL,rfl,bL,rL,sb⟩
theorem Cm (a0 z:Int)(w:World)(hz:bits .and .i64 a0 1=z)(h:decide (z=1)=false):
  Calls Tryz.prog 48 #[.int .i64 a0] w fun e w'=> ∃g,e= .returned (.agg (paC (some ⟨g,0,none⟩) 3 3 leG))/\w.heap.size<=g/\Row w' g (PX 3 (lN leL) Pq) 126/\Below w.heap.size w w':=by
 go_enter func48,ntmps48
 iterate 2 go_step
 refine rp ?_;refine ZN (by rfl) 64 rfl _ Tt ?_;intro g2 z0 n0 r2 k;refine p_W ?_
 have b2:w.heap.size<=g2:=n0
 clear n0
 have sb:=k_b k
 clear k;refine p_W ?_
 iterate 4 go_step
 refine r_p ?_;refine p_V (.int .i64 z) (fun w'=>(Ti .and _ _ _ _ (.inl rfl) rfl a0 1 rfl rfl w').trans (by rw[hz])) ?_;refine p_V _ (ZG .i64 _ _ _ _ rfl z 1 rfl rfl false h) ?_
 iterate 7 go_step
 refine rp ?_;refine p_f 27 func27 #[] (Mo _) ?_
 rintro _ z3000 ⟨gL,rfl,nL,rL,hb⟩
 refine⟨_,rfl,?_⟩
 refine p_W ?_
 have d2xL:=l_l r2.lt nL
 have bL:=Nat.le_trans sb.size nL
 clear nL
 have k:=Kept.ofBelow hb
 clear hb;replace r2:=k.ro r2;replace sb:=kk sb k;clear k;refine Xr (by rfl) 64 _ _ rfl _ rfl r2 (paC (some ⟨gL,0,none⟩) 3 3 leG) rfl (by exact Xw) (by rfl) (QD _ _ _ _) ?_;clear r2;intro z3001 r2 k;simp only[Act.put];replace rL:=k.ro rL;replace sb:=kk sb k;clear k;refine p_W ?_
 go_wp2
 exact XK rfl _ rfl r2 _ underlying64 (by exact Xw) rfl ⟨gL,rfl,bL,rL,sb⟩
def pkB (a0:Int):Bool:=decide (bits .and .i64 a0 1=1)
theorem KR (a0:Int)(w:World):
  Calls Tryz.prog 48 #[.int .i64 a0] w fun e w'=> ∃g,e= .returned (.agg (paC (some ⟨g,0,none⟩) 3 3 (pk2 (pkB a0) otG leG)))/\w.heap.size<=g/\Row w' g (PX 3 (lN (pk2 (pkB a0) otL leL)) Pq) 126/\Below w.heap.size w w':=by
 cases h:pkB a0 with
 |true=>exact Cl a0 _ w rfl h
 |false=>exact Cm a0 _ w rfl h
theorem AG (b:Bool):grN 3 (lN (pk2 b otL leL)) Pq (pk2 b otG leG)=true/\(∀i,i<3->lN (pk2 b otL leL) i<2^256)/\pk2 b otG leG<2^256/\lN (pk2 b otL leL) (3-2)<4611686018427387904:=by
 cases b with
 |true=>exact⟨Hj,yA,by decide,by decide⟩
 |false=>exact⟨O5,Ax,by decide,by decide⟩