import Derived.Test.YtnagnkhbamhfmaaGreatDoorFA
set_option maxRecDepth 100000
set_option maxHeartbeats 8000000
namespace Go.Proofs.YtnagnkhbamhfmaaGreatDoor
set_option linter.all false
open Go.Proofs.Tryz
theorem neg_mul (a Q:Nat)(hQ:0<Q):a*(Q-1)%Q=sbN 0 a Q:=by
 unfold sbN;rw[eN0,B_,aH0,Nat.mul_mod_mod];have hr:=m_ a hQ;generalize a%Q=r at*
 cases r with
 |zero=>rw[cD0,eN0,Nat.sub_zero,Nat.mod_self]
 |succ r=>
  have e:(r+1)*(Q-1)=(Q-(r+1))+Q*r:=by
   obtain⟨k,rfl⟩: ∃k,Q=r+1+k:=⟨Q-(r+1),by omega⟩
   rw[show r+1+k-1=r+k by omega,aN0];simp only[aV0,aB0,cM0];rw[t_ k r];omega
  rw[e,G_]
open Go.RowKit
theorem UU (v r ab ae:Option Addr)(n m ca ce S:Nat)(z:Int)(w:World)(hq: ∀w',Below w.heap.size w w'->Calls prog 167 #[.pointer v] w' (Rt (.pointer r) w'))
  (hpr: ∀w',Below w.heap.size w w'->Calls prog 116 #[.pointer r,.slice ab n ca,.slice ae m ce] w' (Rt (.tuple #[.agg (Zc S),.int .i64 z]) w')):
  Calls prog 173 #[.pointer v,.slice ae m ce,.slice ab n ca] w fun e w'=>e= .returned (.tuple #[.agg (Zc S),.int .i64 z])/\Below w.heap.size w w':=by
 go_enter func173,ntmps173
 iterate 2 go_step
 refine rp ?_;refine ZT (by rfl) 57 rfl _ Zp ?_;intro g6 z0 n0 r6 k;simp only[pv];have b6:w.heap.size<=g6:=n0;clear n0;have sb:=k_b k;clear k;refine p_v (.int .i64 0) (fun _=>rfl) (Zb ?_);simp only[pv];iterate 3 go_step
 refine rp ?_;refine p_m ?_;simp only[pv];refine p_c 167 func167 #[.pointer v] (hq _ sb) ?_;intro z1001 k;simp only[pv];replace r6:=k.ro r6;replace sb:=kk sb k;clear k;refine p_m ?_;refine p_m ?_;simp only[pv];refine p_c 116 func116 #[.pointer r,.slice ab n ca,.slice ae m ce] (hpr _ sb) ?_;intro z1004 k;simp only[pv];replace r6:=k.ro r6;replace sb:=kk sb k;clear k;refine p_e ?_;refine p_e ?_;simp only[pv];refine p_p r6 S ?_;clear r6;intro z1007 r6 k;simp only[Act.put];replace sb:=kk sb k;clear k;refine p_a (Zb ?_);simp only[pv];go_wp2;exact Z9 rfl _ rfl r6 4 _ b_ (by exact Zd) rfl _ rfl ⟨rfl,sb⟩
theorem OA (v r ab ae:Option Addr)(n m ca ce S:Nat)(z:Int)(w:World)(hq: ∀w',Below w.heap.size w w'->Calls prog 167 #[.pointer v] w' (Rt (.pointer r) w'))
  (hpr: ∀w',Below w.heap.size w w'->Calls prog 116 #[.pointer r,.slice ab n ca,.slice ae m ce] w' (Rt (.tuple #[.agg (Zc S),.int .i64 z]) w')):
  Calls prog 165 #[.pointer v,.slice ab n ca,.slice ae m ce] w fun e w'=>e= .returned (.tuple #[.agg (Zc S),.int .i64 z])/\Below w.heap.size w w':=by
 have hra:=fun w' (hb:Below w.heap.size w w')=>UU v r ab ae n m ca ce S z w' (fun w2 h2=>hq w2 (Zk hb (c_ _) h2)) fun w2 h2=>hpr w2 (Zk hb (c_ _) h2)
 clear hq hpr
 go_enter func165,ntmps165
 iterate 2 go_step
 refine rp ?_;refine ZT (by rfl) 57 rfl _ Zp ?_;intro g6 z0 n0 r6 k;simp only[pv];have b6:w.heap.size<=g6:=n0;clear n0;have sb:=k_b k;clear k;refine p_v (.int .i64 0) (fun _=>rfl) (Zb ?_);simp only[pv];iterate 3 go_step
 refine rp ?_;refine p_m ?_;refine p_m ?_;refine p_m ?_;simp only[pv];refine p_c 173 func173 #[.pointer v,.slice ae m ce,.slice ab n ca] (hra _ sb) ?_;intro z1003 k;simp only[pv];replace r6:=k.ro r6;replace sb:=kk sb k;clear k;refine p_e ?_;refine p_e ?_;simp only[pv];refine p_p r6 S ?_;clear r6;intro z1006 r6 k;simp only[Act.put];replace sb:=kk sb k;clear k;refine p_a (Zb ?_);simp only[pv];go_wp2;exact Z9 rfl _ rfl r6 4 _ b_ (by exact Zd) rfl _ rfl ⟨rfl,sb⟩
theorem JW (v:Option Addr)(A E S:Nat)(z:Int)(w:World)
  (hra: ∀w',Below w.heap.size w w'-> ∀x y,Row w' x (Zc A) 57->Row w' y (Zc E) 57->Calls prog 173 #[.pointer v,.slice (some ⟨y,0,none⟩) 1 1,.slice (some ⟨x,0,none⟩) 1 1] w' (Rt (.tuple #[.agg (Zc S),.int .i64 z]) w')):
  Calls prog 131 #[.pointer v,.agg (Zc A),.agg (Zc E)] w fun e w'=>e= .returned (.agg (Zc S))/\Below w.heap.size w w':=by
 obtain⟨ie,hie,hz,hsz,_⟩:=Yn
 have hs1: ¬1*ie.size>2^24:=by rw[hsz];decide
 have hs2: ¬1*ie.size=0:=by rw[hsz];decide
 have hlA:=Vf A ie.size hsz;have hlE:=Vf E ie.size hsz
 go_enter func131,ntmps131
 iterate 2 go_step
 refine rp ?_;refine ZO (by rfl) 57 _ rfl (_) rfl ?_;intro g4 z0 n0 r4 k;simp only[pv];have b4:w.heap.size<=g4:=n0;clear n0;have sb:=k_b k;clear k;refine ZO (by rfl) 57 _ rfl (_) rfl ?_;intro g5 z1 n0 r5 k;simp only[pv];have d4x5:=l_l r4.lt n0;have b5:=f_ sb.size n0;clear n0;replace r4:=k.ro r4;replace sb:=kk sb k;clear k;refine ZT (by rfl) 57 rfl _ Zp ?_;intro g6 z2 n0 r6 k;simp only[pv];have d4x6:=l_l r4.lt n0;have d5x6:=l_l r5.lt n0;have b6:=f_ sb.size n0;clear n0;replace r4:=k.ro r4;replace r5:=k.ro r5;replace sb:=kk sb k;clear k;refine Zb ?_;iterate 3 go_step
 refine rp ?_;refine p_m ?_;simp only[pv];refine p_l r5.r ?_;simp only[pv];refine Wb (by rfl) 22 57 1 _ rfl (Zc E) ie _ r_ hie hz hs1 hs2 [(0,.agg (Zc E))] rfl hlE ?_;intro gU z1002 n0 rU k;simp only[pv];have d4xU:=l_l r4.lt n0;have d5xU:=l_l r5.lt n0;have d6xU:=l_l r6.lt n0;have bU:=f_ sb.size n0;clear n0;replace r4:=k.ro r4;replace r5:=k.ro r5;replace r6:=k.ro r6;replace sb:=kk sb k;clear k;refine p_l r4.r ?_;simp only[pv];refine Wb (by rfl) 22 57 1 _ rfl (Zc A) ie _ r_ hie hz hs1 hs2 [(0,.agg (Zc A))] rfl hlA ?_;intro gV z1004 n0 rV k;simp only[pv];have d4xV:=l_l r4.lt n0;have d5xV:=l_l r5.lt n0;have d6xV:=l_l r6.lt n0;have dUxV:=l_l rU.lt n0;have bV:=f_ sb.size n0;clear n0;replace r4:=k.ro r4;replace r5:=k.ro r5;replace r6:=k.ro r6;replace rU:=k.ro rU;replace sb:=kk sb k;clear k;refine p_c 173 func173 #[.pointer v,.slice (some ⟨gU,0,none⟩) 1 1,.slice (some ⟨gV,0,none⟩) 1 1] (hra _ sb gV gU rV rU) ?_;intro z1005 k;simp only[pv];replace r4:=k.ro r4;replace r5:=k.ro r5;replace r6:=k.ro r6;replace rU:=k.ro rU;replace rV:=k.ro rV;replace sb:=kk sb k;clear k;refine p_m ?_;refine p_e ?_;refine p_e ?_;simp only[pv];refine ZT (by rfl) 57 rfl _ Zp ?_;intro g7 z1009 n0 r7 k;simp only[pv];have d4x7:=l_l r4.lt n0;have d5x7:=l_l r5.lt n0;have d6x7:=l_l r6.lt n0;have dUx7:=l_l rU.lt n0;have dVx7:=l_l rV.lt n0;have b7:=f_ sb.size n0;clear n0;replace r4:=k.ro r4;replace r5:=k.ro r5;replace r6:=k.ro r6;replace rU:=k.ro rU;replace rV:=k.ro rV;replace sb:=kk sb k;clear k;refine p_p r7 S ?_;clear r7;intro z1010 r7 k;simp only[Act.put];replace r4:=k.ro r4;replace r5:=k.ro r5;replace r6:=k.ro r6;replace rU:=k.ro rU;replace rV:=k.ro rV;replace sb:=kk sb k;clear k;refine p_a (Zb ?_);simp only[pv];iterate 3 go_step
 refine rp ?_;refine p_l r7.r ?_;simp only[pv];refine p_p r6 S ?_;clear r6;intro z2001 r6 k;simp only[Act.put];replace r7:=k.ro r7;replace sb:=kk sb k;clear k;refine Zb ?_;go_wp2;exact ZM rfl _ rfl r6 4 _ b_ (by exact Zd) rfl ⟨rfl,sb⟩
theorem Fi (v:Option Addr)(E GG S:Nat)(w:World)(hg: ∀w',Below w.heap.size w w'->Calls prog 132 #[.pointer v] w' (Rt (.agg (Zc GG)) w'))
  (hex: ∀w',Below w.heap.size w w'->Calls prog 131 #[.pointer v,.agg (Zc GG),.agg (Zc E)] w' (Rt (.agg (Zc S)) w')):
  Calls prog 85 #[.pointer v,.agg (Zc E)] w fun e w'=>e= .returned (.agg (Zc S))/\Below w.heap.size w w':=by
 go_enter func85,ntmps85
 iterate 2 go_step
 refine rp ?_;refine ZO (by rfl) 57 _ rfl (_) rfl ?_;intro g3 z0 n0 r3 k;simp only[pv];have b3:w.heap.size<=g3:=n0;clear n0;have sb:=k_b k;clear k;refine ZT (by rfl) 57 rfl _ Zp ?_;intro g4 z1 n0 r4 k;simp only[pv];have d3x4:=l_l r3.lt n0;have b4:=f_ sb.size n0;clear n0;replace r3:=k.ro r3;replace sb:=kk sb k;clear k;refine Zb ?_;iterate 3 go_step
 apply Zi (by kernel_rfl) [(g4,57,Zc 0)] [_,_,_,_,_,_] ⟨r4,trivial⟩ (by simp<;>omega)
 ·intro p;refine m_m ?_;refine m_m ?_;simp only[pv];refine m_k 132 func132 #[.pointer v] (fun w' hk=>hg w' (sb.trans (hk.below w.heap.size sb.size (by simp<;>omega)))) ?_;simp only[pv];refine m_l r3 ?_;simp only[pv];refine m_k 131 func131 #[.pointer v,.agg (Zc GG),.agg (Zc E)] (fun w' hk=>hex w' (sb.trans (hk.below w.heap.size sb.size (by simp<;>omega)))) ?_;simp only[pv];refine m_p 0 S ?_;simp only[Act.put];refine Zf ?_;intro w2 hkw hrw hnew hdis;have zr4:Row w2 (g4) (Zc S) 57:=hrw 0 (57,Zc S) rfl;replace sb:=kk sb hkw;clear hkw hrw hnew hdis r4;have r4:=zr4;clear zr4;go_wp2;exact ZM rfl _ rfl r4 4 _ b_ (by exact Zd) rfl ⟨rfl,sb⟩
 ·kernel_rfl
theorem BD (v r:Option Addr)(A:Nat)(w:World)(hq: ∀w',Below w.heap.size w w'->Calls prog 167 #[.pointer v] w' (Rt (.pointer r) w'))
  (hin: ∀w',Below w.heap.size w w'->Calls prog 128 #[.pointer r,.agg (Zc A)] w' (Rt (.bool false) w')):
  Calls prog 120 #[.pointer v,.agg (Zc A)] w fun e w'=>e= .returned (.bool false)/\Below w.heap.size w w':=by
 go_enter func120,ntmps120
 iterate 2 go_step
 refine rp ?_;refine ZO (by rfl) 57 _ rfl (_) rfl ?_;intro g3 z0 n0 r3 k;simp only[pv];have b3:w.heap.size<=g3:=n0;clear n0;have sb:=k_b k;clear k;refine p_v (.bool false) (fun _=>rfl) (Zb ?_);simp only[pv];iterate 3 go_step
 refine ZD (by kernel_rfl) (by kernel_rfl) ?_;refine q_m ?_;simp only[pv];refine q_k 167 func167 #[.pointer v] (fun w' hb=>hq w' (Zk sb (c_ _) hb)) ?_;simp only[pv];refine YX (by rfl) 57 _ rfl _ rfl r3 4 _ b_ Zd ?_;simp only[pv];refine q_k 128 func128 #[.pointer r,.agg (Zc A)] (fun w' hb=>hin w' (Zk sb (c_ _) hb)) ?_;refine q_m ?_;simp only[pv];refine ZI (by rfl) ?_;simp only[pv];refine ZI (by rfl) ?_;simp only[pv];refine ZI (by rfl) ?_;simp only[pv];refine ZI (by rfl) ?_;simp only[pv];refine ZI (by rfl) ?_;simp only[pv];refine ZI (by rfl) ?_;simp only[pv];refine ZI (by rfl) ?_;refine q_p false (.bool false) ?_;refine q_a ?_;simp only[pv];refine ZR ?_;intro w3 hqb;replace sb:=b_o sb hqb;clear hqb;go_wp2;go_ret;exact⟨rfl,sb⟩
theorem Fj (v r:Option Addr)(A QQ S:Nat)(B:Bool)(w:World)(hB:decide (S%2^256=1%2^256)=B)(hq: ∀w',Below w.heap.size w w'->Calls prog 167 #[.pointer v] w' (Rt (.pointer r) w'))
  (hin: ∀w',Below w.heap.size w w'->Calls prog 128 #[.pointer r,.agg (Zc A)] w' (Rt (.bool true) w'))
  (hqq: ∀w',Below w.heap.size w w'->Calls prog 143 #[.pointer v] w' (Rt (.agg (Zc QQ)) w'))
  (hex: ∀w',Below w.heap.size w w'->Calls prog 131 #[.pointer v,.agg (Zc A),.agg (Zc QQ)] w' (Rt (.agg (Zc S)) w')):
  Calls prog 120 #[.pointer v,.agg (Zc A)] w fun e w'=>e= .returned (.bool B)/\Below w.heap.size w w':=by
 have h1:=fun w'=>Xl 1 w' (by decide)
 rw[show(1:Int).toNat=1 from rfl]at h1
 go_enter func120,ntmps120
 iterate 2 go_step
 refine rp ?_;refine ZO (by rfl) 57 _ rfl (_) rfl ?_;intro g3 z0 n0 r3 k;simp only[pv];have b3:w.heap.size<=g3:=n0;clear n0;have sb:=k_b k;clear k;refine p_v (.bool false) (fun _=>rfl) (Zb ?_);simp only[pv];iterate 3 go_step
 refine ZD (by kernel_rfl) (by kernel_rfl) ?_;refine q_m ?_;simp only[pv];refine q_k 167 func167 #[.pointer v] (fun w' hb=>hq w' (Zk sb (c_ _) hb)) ?_;simp only[pv];refine YX (by rfl) 57 _ rfl _ rfl r3 4 _ b_ Zd ?_;simp only[pv];refine q_k 128 func128 #[.pointer r,.agg (Zc A)] (fun w' hb=>hin w' (Zk sb (c_ _) hb)) ?_;refine q_m ?_;refine q_m ?_;simp only[pv];refine YX (by rfl) 57 _ rfl _ rfl r3 4 _ b_ Zd ?_;refine q_m ?_;simp only[pv];refine q_k 143 func143 #[.pointer v] (fun w' hb=>hqq w' (Zk sb (c_ _) hb)) ?_;simp only[pv];refine q_k 131 func131 #[.pointer v,.agg (Zc A),.agg (Zc QQ)] (fun w' hb=>hex w' (Zk sb (c_ _) hb)) ?_;simp only[pv];refine q_c 57 gZ0 #[.int .i64 1] h1 ?_;simp only[pv];refine q_v (.bool B) (fun w'=>(ZG _ _ _ rfl S 1 rfl rfl w').trans (by rw[hB])) ?_;refine q_p true (.bool B) ?_;refine q_a ?_;simp only[pv];refine ZR ?_;intro w3 hqb;replace sb:=b_o sb hqb;clear hqb;go_wp2;go_ret;exact⟨rfl,sb⟩
theorem JX (g gr gf P Q G n ca ce:Nat)(ab ae:Option Addr)(a' b':Nat->Nat)(gb ob ge oe:Nat)(bcs ecs:Array Value)(tb te:TypeId)(w:World)(hn:n<=64)
  (hna:NatsAt w ab n a' gb ob bcs tb)(hnb:NatsAt w ae n b' ge oe ecs te)(q:RgQ P)(h:GrpAt w g gr gf P Q G):
  Calls prog 165 #[.pointer (some ⟨g,0,none⟩),.slice ab n ca,.slice ae n ce] w (Rt (.tuple #[.agg (Zc (prd (fun i=>a' i^b' i) n%P)),.int .i64 0]) w):=
 OA _ _ ab ae n n ca ce _ 0 w (fun w' hb=>WM _ _ _ _ _ _ w' (h.below hb).kn) fun w' hb=>Oa n P a' b' ab ae ca ce gb ob ge oe bcs ecs tb te gr w' ⟨hn,q.m,q.odd,q.two,hna.below hb,hnb.below hb⟩ (h.below hb).ring
theorem JY (A E g gr gf P Q G:Nat)(w:World)(hA:A<2^256)(hE:E<2^256)(q:RgQ P)(h:GrpAt w g gr gf P Q G):
  Calls prog 131 #[.pointer (some ⟨g,0,none⟩),.agg (Zc A),.agg (Zc E)] w (Rt (.agg (Zc (A^E%P))) w):=by
 refine JW _ A E _ 0 w fun w' hb x y ra rb=>UU _ _ _ _ 1 1 1 1 _ 0 w' (fun w2 h2=>WM _ _ _ _ _ _ w2 ((h.below hb).below h2).kn) fun w2 h2=>?_
 have:=Oa 1 P (fun _=>A) (fun _=>E) (some ⟨x,0,none⟩) (some ⟨y,0,none⟩) 1 1 x 0 y 0 (Zc A) (Zc E) 57 57 gr w2 ⟨by decide,q.m,q.odd,q.two,Y7 (ra.belowAll h2) hA,Y7 (rb.belowAll h2) hE⟩ ((h.below hb).below h2).ring;rw[show prd (fun _=>A^E) 1=A^E from cM0 _]at this;exact this
theorem E6 (E g gr gf P Q G:Nat)(w:World)(hE:E<2^256)(hG:G<2^256)(q:RgQ P)(h:GrpAt w g gr gf P Q G):
  Calls prog 85 #[.pointer (some ⟨g,0,none⟩),.agg (Zc E)] w (Rt (.agg (Zc (G^E%P))) w):=
 Fi _ E G _ w (fun w' hb=>GP _ _ _ _ _ _ w' (h.below hb).kn) fun w' hb=>JY G E g gr gf P Q G w' hG hE q (h.below hb)
theorem zR (x P:Nat)(hP:P<2^256)(h2:2<=P):decide (x%P%2^256=1%2^256)=decide (x%P=1):=by
 rw[g_ (E_ (m_ x (l_ (by decide) h2)) hP),show 1%2^256=1 from rfl]
def AK (P Q A:Nat):Bool:=decide (A<P)&&decide (A^Q%P=1)
theorem zS (A g gr gf P Q G:Nat)(w:World)(hA:A<2^256)(hQ:Q<2^256)(q:RgQ P)(h:GrpAt w g gr gf P Q G):
  Calls prog 120 #[.pointer (some ⟨g,0,none⟩),.agg (Zc A)] w (Rt (.bool (AK P Q A)) w):=by
 have hin:=fun w' (hb:Below w.heap.size w w')=>SJ A P _ _ _ gr w' hA (l_ (by decide) q.two) q.m (h.below hb).ring
 rw[Oh]at hin;unfold AK;by_cases hl:A<P
 ·rw[d_ hl,bD0];rw[d_ hl]at hin;exact Fj _ _ A Q (A^Q%P) _ w (zR _ P q.m q.two) (fun w' hb=>WM _ _ _ _ _ _ w' (h.below hb).kn) hin (fun w' hb=>Uk _ _ _ _ _ _ w' (h.below hb).kn) fun w' hb=>JY A Q g gr gf P Q G w' hA hQ q (h.below hb)
 ·rw[e_ hl,bI0];rw[e_ hl]at hin;exact BD _ _ A w (fun w' hb=>WM _ _ _ _ _ _ w' (h.below hb).kn) hin
def smC (P Q G:Int):Array Value:=#[.int .i64 P,.int .i64 Q,.int .i64 G]
theorem NL (P Q G:Int):(smC P Q G).all (·.oneCell')=true:=by simp[smC,Value.oneCell']
theorem JZ:(prog.info? 27).map (fun i=>(i.zero,i.size))=some (some (.agg (smC 0 0 0)),3):=by kernel_rfl
theorem R1 (w:World):(zeroValue 27).run prog w= .ok (.agg (smC 0 0 0)) w:=(Q_ JZ).1 w
theorem Ws:(prog.info? 27).map (·.size)=some 3:=(Q_ JZ).2
theorem Fk (P Q G:Int):prog.built 27 [(0,.int .i64 P),(1,.int .i64 Q),(2,.int .i64 G)]=some (smC P Q G):=by
 unfold smC
 kernel_rfl
theorem J0 (ab:Option Addr)(n c P Q G:Nat)(w:World)
  (hrp: ∀w',Below w.heap.size w w'->Calls prog 75 #[.agg (paC ab n c G)] w' (Rt (.agg (Zc P)) w'))
  (hrq: ∀w',Below w.heap.size w w'->Calls prog 76 #[.agg (paC ab n c G)] w' (Rt (.agg (Zc Q)) w'))
  (hlp: ∀w',Calls prog 50 #[.agg (Zc P)] w' (Rt (.tuple #[.int .i64 (P:Nat),.bool true]) w'))(hlq: ∀w',Calls prog 50 #[.agg (Zc Q)] w' (Rt (.tuple #[.int .i64 (Q:Nat),.bool true]) w'))(hlg: ∀w',Calls prog 50 #[.agg (Zc G)] w' (Rt (.tuple #[.int .i64 (G:Nat),.bool true]) w')):
  Calls prog 31 #[.agg (paC ab n c G)] w fun e w'=>e= .returned (.agg (smC P Q G))/\Below w.heap.size w w':=by
 go_enter func31,ntmps31
 iterate 2 go_step
 refine rp ?_;refine ZO (by rfl) 59 _ rfl (_) rfl ?_;intro g1 z0 n0 r1 k;simp only[pv];have b1:w.heap.size<=g1:=n0;clear n0;have sb:=k_b k;clear k;refine ZT (by rfl) 27 rfl _ R1 ?_;intro g2 z1 n0 r2 k;simp only[pv];have d1x2:=l_l r1.lt n0;have b2:=f_ sb.size n0;clear n0;replace r1:=k.ro r1;replace sb:=kk sb k;clear k;refine Zb ?_;iterate 3 go_step
 refine rp ?_;refine ZJ (by rfl) 59 _ rfl _ 0 rfl r1.r _ (Yi _) _ aY0 rfl Xy ?_;simp only[pv];refine p_c 75 func75 #[.agg (paC ab n c G)] (hrp _ sb) ?_;intro z1001 k;simp only[pv];replace r1:=k.ro r1;replace r2:=k.ro r2;replace sb:=kk sb k;clear k;refine p_c 50 func50 #[.agg (Zc P)] (hlp _) ?_;intro z1002 k;simp only[pv];replace r1:=k.ro r1;replace r2:=k.ro r2;replace sb:=kk sb k;clear k;refine p_m ?_;refine p_e ?_;refine p_e ?_;refine p_a ?_;refine p_a (Zb ?_);simp only[pv];iterate 3 go_step
 refine rp ?_;refine ZJ (by rfl) 59 _ rfl _ 0 rfl r1.r _ (Yi _) _ aY0 rfl Xy ?_;simp only[pv];refine p_c 76 func76 #[.agg (paC ab n c G)] (hrq _ sb) ?_;intro z2001 k;simp only[pv];replace r1:=k.ro r1;replace r2:=k.ro r2;replace sb:=kk sb k;clear k;refine p_c 50 func50 #[.agg (Zc Q)] (hlq _) ?_;intro z2002 k;simp only[pv];replace r1:=k.ro r1;replace r2:=k.ro r2;replace sb:=kk sb k;clear k;refine p_m ?_;refine p_e ?_;refine p_e ?_;refine p_a ?_;refine p_a (Zb ?_);simp only[pv];iterate 3 go_step
 refine rp ?_;refine p_v _ (Zh 59 _ 1 rfl g1 0 rfl _ aY0 _ rfl 3 bJ0) ?_;simp only[pv];refine ZJ (by rfl) 57 _ rfl _ (1) rfl r1.r (Zc G) (wB _ _ _ _) _ b_ rfl Zd ?_;simp only[pv];refine p_c 50 func50 #[.agg (Zc G)] (hlg _) ?_;intro z3002 k;simp only[pv];replace r1:=k.ro r1;replace r2:=k.ro r2;replace sb:=kk sb k;clear k;refine p_m ?_;refine p_e ?_;refine p_e ?_;refine p_a ?_;refine p_a (Zb ?_);simp only[pv];iterate 3 go_step
 refine rp ?_;refine p_m ?_;refine p_m ?_;refine p_m ?_;simp only[pv];refine p_v _ (Z3 _ _ rfl [(0,.int .i64 P),(1,.int .i64 Q),(2,.int .i64 G)] rfl _ (Fk _ _ _)) ?_;simp only[pv];refine Xg (by rfl) 27 _ _ rfl _ rfl r2 (smC P Q G) rfl (by exact Ws) (by rfl) (NL _ _ _) ?_;clear r2;intro z4004 r2 k;simp only[Act.put];replace sb:=kk sb k;clear k;refine Zb ?_;go_wp2;exact XL rfl _ rfl r2 _ cE0 (by exact Ws) rfl ⟨rfl,sb⟩
theorem OB (A:Nat)(w:World)(h:A<9223372036854775808):
  Calls prog 50 #[.agg (Zc A)] w (Rt (.tuple #[.int .i64 (A:Nat),.bool true]) w):=by
 have:=O6 A w (by omega);rw[show LA A=((A:Nat):Int)from j_ h,show LB A=true from d_ h]at this;exact this
theorem Fl (x:Nat)(N:Nat->Nat)(A:Nat->Int)(G:Nat)(w:World)(r:Row w x (Og 3 N A) 106)(hlt: ∀i,i<3->N i<2^256)(hP:N (3-1)<9223372036854775808)(hQ:N (3-2)<9223372036854775808)(hG:G<9223372036854775808):
  Calls prog 31 #[.agg (paC (some ⟨x,0,none⟩) 3 3 G)] w (Rt (.agg (smC (N (3-1):Nat) (N (3-2):Nat) (G:Nat))) w):=
 J0 _ 3 3 _ _ G w (fun w' hb=>zm 3 3 (some ⟨x,0,none⟩) G _ _ x 0 _ _ w' (by decide) (by decide) (TO (r.belowAll hb) hlt)) (fun w' hb=>zn 3 3 (some ⟨x,0,none⟩) G _ _ x 0 _ _ w' (by decide) (by decide) (TO (r.belowAll hb) hlt))
  (fun w'=>OB _ w' hP) (fun w'=>OB _ w' hQ) fun w'=>OB _ w' hG
theorem J1 (X E P:Nat)(Q G:Int)(w:World)(hE:E<2^256)(h0:0<P)(hP:P<4611686018427387904):
  Calls prog 88 #[.agg (smC (P:Nat) Q G),.int .i64 (X:Nat),.agg (Zc E)] w fun e w'=>e= .returned (.int .i64 (X^E%P:Nat))/\Below w.heap.size w w':=by
 have hpw:=fun w'=>MP X E P w' hE h0 hP
 clear hE h0 hP;generalize X^E%P=Y at*
 go_enter func88,ntmps88
 iterate 2 go_step
 refine rp ?_;refine ZO (by rfl) 27 _ rfl (_) rfl ?_;intro g3 z0 n0 r3 k;simp only[pv];have b3:w.heap.size<=g3:=n0;clear n0;have sb:=k_b k;clear k;refine ZO (by rfl) 57 _ rfl (_) rfl ?_;intro g5 z1 n0 r5 k;simp only[pv];have d3x5:=l_l r3.lt n0;have b5:=f_ sb.size n0;clear n0;replace r3:=k.ro r3;replace sb:=kk sb k;clear k;refine p_v (.int .i64 0) (fun _=>rfl) (Zb ?_);simp only[pv];iterate 3 go_step
 refine rp ?_;refine p_m ?_;simp only[pv];refine p_l r5.r ?_;simp only[pv];refine p_v _ (Zh 27 _ 0 rfl g3 0 rfl _ cE0 _ rfl 0 aJ0) ?_;simp only[pv];refine p_d 0 r3.r (.int .i64 (P:Nat)) rfl bG0 ?_;simp only[pv];refine p_c 134 func134 #[.int .i64 (X:Nat),.agg (Zc E),.int .i64 (P:Nat)] (hpw _) ?_;intro z1004 k;simp only[pv];replace r3:=k.ro r3;replace r5:=k.ro r5;replace sb:=kk sb k;clear k;refine p_a (Zb ?_);simp only[pv];go_wp2;go_ret;exact⟨rfl,sb⟩
theorem zT (b:Bool):lN (pk2 b otL leL) (3-1)<4611686018427387904/\pk2 b otG leG<4611686018427387904:=by
 cases b<;>decide
theorem BE {P Q G:Nat}(h2:2<=P)(h:G^Q%P=1)(a:Nat):AK P Q (G^a%P)=true:=by
 unfold AK;rw[d_ (m_ _ (by omega)),d_ (KA h2 h a)];rfl
def le5:Nat:=499752131551553962
end Go.Proofs.YtnagnkhbamhfmaaGreatDoor
