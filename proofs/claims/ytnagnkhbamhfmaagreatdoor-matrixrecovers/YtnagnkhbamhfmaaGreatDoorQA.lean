import Derived.Test.YtnagnkhbamhfmaaGreatDoorFA
set_option maxRecDepth 100000
set_option maxHeartbeats 8000000
namespace Go.Proofs.YtnagnkhbamhfmaaGreatDoor
set_option linter.all false
open Go.Proofs.Tryz
theorem neg_mul (a Q:Nat)(hQ:0<Q):a*(Q-1)%Q=sbN 0 a Q:=by
 unfold sbN;rw[eE0,A_,aN0,Nat.mul_mod_mod];have hr:=n_ a hQ;generalize a%Q=r at*
 cases r with
 |zero=>rw[cD0,eE0,Nat.sub_zero,Nat.mod_self]
 |succ r=>
  have e:(r+1)*(Q-1)=(Q-(r+1))+Q*r:=by
   obtain⟨k,rfl⟩: ∃k,Q=r+1+k:=⟨Q-(r+1),by omega⟩
   rw[show r+1+k-1=r+k by omega,bF0];simp only[bD0,aM0,cV0];rw[u_ k r];omega
  rw[e,G_]
open Go.RowKit
theorem UX (v r ab ae:Option Addr)(n m ca ce S:Nat)(z:Int)(w:World)(hq: ∀w',Below w.heap.size w w'->Calls Tryz.prog 167 #[.pointer v] w' (Rt (.pointer r) w'))
  (hpr: ∀w',Below w.heap.size w w'->Calls Tryz.prog 116 #[.pointer r,.slice ab n ca,.slice ae m ce] w' (Rt (.tuple #[.agg (Zb S),.int .i64 z]) w')):
  Calls Tryz.prog 173 #[.pointer v,.slice ae m ce,.slice ab n ca] w fun e w'=>e= .returned (.tuple #[.agg (Zb S),.int .i64 z])/\Below w.heap.size w w':=by
 go_enter func173,ntmps173
 iterate 2 go_step
 refine rp ?_;refine ZU (by rfl) 57 rfl _ Zm ?_;intro g6 z0 n0 r6 k;refine p_W ?_;have b6:w.heap.size<=g6:=n0;clear n0;have sb:=k_b k;clear k;refine p_V (.int .i64 0) (fun _=>rfl) ?_;iterate 3 go_step
 refine r_p ?_;refine p_c 167 func167 #[.pointer v] (hq _ sb) ?_;intro z1001 k;refine p_W ?_;replace r6:=k.ro r6;replace sb:=kk sb k;clear k;refine p_W ?_;refine p_c 116 func116 #[.pointer r,.slice ab n ca,.slice ae m ce] (hpr _ sb) ?_;intro z1004 k;refine p_W ?_;replace r6:=k.ro r6;replace sb:=kk sb k;clear k;refine p_W ?_;refine p_p r6 S ?_;clear r6;intro z1007 r6 k;simp only[Act.put];replace sb:=kk sb k;clear k;refine p_W ?_;go_wp2;exact Yb rfl _ rfl r6 4 _ b_ (by exact Zc) rfl _ rfl ⟨rfl,sb⟩
theorem O1 (v r ab ae:Option Addr)(n m ca ce S:Nat)(z:Int)(w:World)(hq: ∀w',Below w.heap.size w w'->Calls Tryz.prog 167 #[.pointer v] w' (Rt (.pointer r) w'))
  (hpr: ∀w',Below w.heap.size w w'->Calls Tryz.prog 116 #[.pointer r,.slice ab n ca,.slice ae m ce] w' (Rt (.tuple #[.agg (Zb S),.int .i64 z]) w')):
  Calls Tryz.prog 165 #[.pointer v,.slice ab n ca,.slice ae m ce] w fun e w'=>e= .returned (.tuple #[.agg (Zb S),.int .i64 z])/\Below w.heap.size w w':=by
 have hra:=fun w' (hb:Below w.heap.size w w')=>UX v r ab ae n m ca ce S z w' (fun w2 h2=>hq w2 (Zi hb (e_ _) h2)) fun w2 h2=>hpr w2 (Zi hb (e_ _) h2)
 clear hq hpr
 go_enter func165,ntmps165
 iterate 2 go_step
 refine rp ?_;refine ZU (by rfl) 57 rfl _ Zm ?_;intro g6 z0 n0 r6 k;refine p_W ?_;have b6:w.heap.size<=g6:=n0;clear n0;have sb:=k_b k;clear k;refine p_V (.int .i64 0) (fun _=>rfl) ?_;iterate 3 go_step
 refine r_p ?_;refine p_c 173 func173 #[.pointer v,.slice ae m ce,.slice ab n ca] (hra _ sb) ?_;intro z1003 k;refine p_W ?_;replace r6:=k.ro r6;replace sb:=kk sb k;clear k;refine p_W ?_;refine p_p r6 S ?_;clear r6;intro z1006 r6 k;simp only[Act.put];replace sb:=kk sb k;clear k;refine p_W ?_;go_wp2;exact Yb rfl _ rfl r6 4 _ b_ (by exact Zc) rfl _ rfl ⟨rfl,sb⟩
theorem Ix (v:Option Addr)(A E S:Nat)(z:Int)(w:World)
  (hra: ∀w',Below w.heap.size w w'-> ∀x y,Row w' x (Zb A) 57->Row w' y (Zb E) 57->Calls Tryz.prog 173 #[.pointer v,.slice (some ⟨y,0,none⟩) 1 1,.slice (some ⟨x,0,none⟩) 1 1] w' (Rt (.tuple #[.agg (Zb S),.int .i64 z]) w')):
  Calls Tryz.prog 131 #[.pointer v,.agg (Zb A),.agg (Zb E)] w fun e w'=>e= .returned (.agg (Zb S))/\Below w.heap.size w w':=by
 obtain⟨ie,hie,hz,hsz,_⟩:=Yx
 have hs1: ¬1*ie.size>2^24:=by rw[hsz];decide
 have hs2: ¬1*ie.size=0:=by rw[hsz];decide
 have hlA:=VS A ie.size hsz;have hlE:=VS E ie.size hsz
 go_enter func131,ntmps131
 iterate 2 go_step
 refine rp ?_;refine Zy (by rfl) 57 _ rfl (_) rfl ?_;intro g4 z0 n0 r4 k;refine p_W ?_;have b4:w.heap.size<=g4:=n0;clear n0;have sb:=k_b k;clear k;refine Zy (by rfl) 57 _ rfl (_) rfl ?_;intro g5 z1 n0 r5 k;refine p_W ?_;have d4x5:=l_l r4.lt n0;have b5:=f_ sb.size n0;clear n0;replace r4:=k.ro r4;replace sb:=kk sb k;clear k;refine ZU (by rfl) 57 rfl _ Zm ?_;intro g6 z2 n0 r6 k;refine p_W ?_;have d4x6:=l_l r4.lt n0;have d5x6:=l_l r5.lt n0;have b6:=f_ sb.size n0;clear n0;replace r4:=k.ro r4;replace r5:=k.ro r5;replace sb:=kk sb k;clear k;refine p_W ?_;iterate 3 go_step
 refine r_p ?_;refine p_l r5.r ?_;refine p_W ?_;refine Y3 (by rfl) 22 57 1 _ rfl (Zb E) ie _ t_ hie hz hs1 hs2 [(0,.agg (Zb E))] rfl hlE ?_;intro gU z1002 n0 rU k;refine p_W ?_;have d4xU:=l_l r4.lt n0;have d5xU:=l_l r5.lt n0;have d6xU:=l_l r6.lt n0;have bU:=f_ sb.size n0;clear n0;replace r4:=k.ro r4;replace r5:=k.ro r5;replace r6:=k.ro r6;replace sb:=kk sb k;clear k;refine p_l r4.r ?_;refine p_W ?_;refine Y3 (by rfl) 22 57 1 _ rfl (Zb A) ie _ t_ hie hz hs1 hs2 [(0,.agg (Zb A))] rfl hlA ?_;intro gV z1004 n0 rV k;refine p_W ?_;have d4xV:=l_l r4.lt n0;have d5xV:=l_l r5.lt n0;have d6xV:=l_l r6.lt n0;have dUxV:=l_l rU.lt n0;have bV:=f_ sb.size n0;clear n0;replace r4:=k.ro r4;replace r5:=k.ro r5;replace r6:=k.ro r6;replace rU:=k.ro rU;replace sb:=kk sb k;clear k;refine p_c 173 func173 #[.pointer v,.slice (some ⟨gU,0,none⟩) 1 1,.slice (some ⟨gV,0,none⟩) 1 1] (hra _ sb gV gU rV rU) ?_;intro z1005 k;refine p_W ?_;replace r4:=k.ro r4;replace r5:=k.ro r5;replace r6:=k.ro r6;replace rU:=k.ro rU;replace rV:=k.ro rV;replace sb:=kk sb k;clear k;refine p_W ?_;refine ZU (by rfl) 57 rfl _ Zm ?_;intro g7 z1009 n0 r7 k;refine p_W ?_;have d4x7:=l_l r4.lt n0;have d5x7:=l_l r5.lt n0;have d6x7:=l_l r6.lt n0;have dUx7:=l_l rU.lt n0;have dVx7:=l_l rV.lt n0;have b7:=f_ sb.size n0;clear n0;replace r4:=k.ro r4;replace r5:=k.ro r5;replace r6:=k.ro r6;replace rU:=k.ro rU;replace rV:=k.ro rV;replace sb:=kk sb k;clear k;refine p_p r7 S ?_;clear r7;intro z1010 r7 k;simp only[Act.put];replace r4:=k.ro r4;replace r5:=k.ro r5;replace r6:=k.ro r6;replace rU:=k.ro rU;replace rV:=k.ro rV;replace sb:=kk sb k;clear k;refine p_W ?_;iterate 3 go_step
 refine rp ?_;refine p_l r7.r ?_;refine p_W ?_;refine p_p r6 S ?_;clear r6;intro z2001 r6 k;simp only[Act.put];replace r7:=k.ro r7;replace sb:=kk sb k;clear k;refine p_W ?_;go_wp2;exact ZN rfl _ rfl r6 4 _ b_ (by exact Zc) rfl ⟨rfl,sb⟩
theorem Ea (v:Option Addr)(E GG S:Nat)(w:World)(hg: ∀w',Below w.heap.size w w'->Calls Tryz.prog 132 #[.pointer v] w' (Rt (.agg (Zb GG)) w'))
  (hex: ∀w',Below w.heap.size w w'->Calls Tryz.prog 131 #[.pointer v,.agg (Zb GG),.agg (Zb E)] w' (Rt (.agg (Zb S)) w')):
  Calls Tryz.prog 85 #[.pointer v,.agg (Zb E)] w fun e w'=>e= .returned (.agg (Zb S))/\Below w.heap.size w w':=by
 go_enter func85,ntmps85
 iterate 2 go_step
 refine rp ?_;refine Zy (by rfl) 57 _ rfl (_) rfl ?_;intro g3 z0 n0 r3 k;refine p_W ?_;have b3:w.heap.size<=g3:=n0;clear n0;have sb:=k_b k;clear k;refine ZU (by rfl) 57 rfl _ Zm ?_;intro g4 z1 n0 r4 k;refine p_W ?_;have d3x4:=l_l r3.lt n0;have b4:=f_ sb.size n0;clear n0;replace r3:=k.ro r3;replace sb:=kk sb k;clear k;refine p_W ?_;iterate 3 go_step
 apply Zg (by kernel_rfl) [(g4,57,Zb 0)] [_,_,_,_,_,_] ⟨r4,trivial⟩ (by simp<;>omega)
 ·intro p;refine m_W ?_;refine m_K 132 func132 #[.pointer v] (fun w' hk=>hg w' (sb.trans (hk.below w.heap.size sb.size (by simp<;>omega)))) ?_;refine m_L r3 ?_;refine m_K 131 func131 #[.pointer v,.agg (Zb GG),.agg (Zb E)] (fun w' hk=>hex w' (sb.trans (hk.below w.heap.size sb.size (by simp<;>omega)))) ?_;refine m_p 0 S ?_;simp only[Act.put];refine Zd ?_;intro w2 hkw hrw hnew hdis;have zr4:Row w2 (g4) (Zb S) 57:=hrw 0 (57,Zb S) rfl;replace sb:=kk sb hkw;clear hkw hrw hnew hdis r4;have r4:=zr4;clear zr4;go_wp2;exact ZN rfl _ rfl r4 4 _ b_ (by exact Zc) rfl ⟨rfl,sb⟩
 ·kernel_rfl
theorem Al (v r:Option Addr)(A:Nat)(w:World)(hq: ∀w',Below w.heap.size w w'->Calls Tryz.prog 167 #[.pointer v] w' (Rt (.pointer r) w'))
  (hin: ∀w',Below w.heap.size w w'->Calls Tryz.prog 128 #[.pointer r,.agg (Zb A)] w' (Rt (.bool false) w')):
  Calls Tryz.prog 120 #[.pointer v,.agg (Zb A)] w fun e w'=>e= .returned (.bool false)/\Below w.heap.size w w':=by
 go_enter func120,ntmps120
 iterate 2 go_step
 refine rp ?_;refine Zy (by rfl) 57 _ rfl (_) rfl ?_;intro g3 z0 n0 r3 k;refine p_W ?_;have b3:w.heap.size<=g3:=n0;clear n0;have sb:=k_b k;clear k;refine p_V (.bool false) (fun _=>rfl) ?_;iterate 3 go_step
 refine Zl (by kernel_rfl) (by kernel_rfl) ?_;refine q_W ?_;refine q_k 167 func167 #[.pointer v] (fun w' hb=>hq w' (Zi sb (e_ _) hb)) ?_;refine q_W ?_;refine Y8 (by rfl) 57 _ rfl _ rfl r3 4 _ b_ Zc (q_W ?_);refine q_k 128 func128 #[.pointer r,.agg (Zb A)] (fun w' hb=>hin w' (Zi sb (e_ _) hb)) ?_;refine q_W ?_;refine q_P false (.bool false) ?_;intro w3 hqb;replace sb:=b_o sb hqb;clear hqb;go_wp2;go_ret;exact⟨rfl,sb⟩
theorem Eb (v r:Option Addr)(A QQ S:Nat)(B:Bool)(w:World)(hB:decide (S%2^256=1%2^256)=B)(hq: ∀w',Below w.heap.size w w'->Calls Tryz.prog 167 #[.pointer v] w' (Rt (.pointer r) w'))
  (hin: ∀w',Below w.heap.size w w'->Calls Tryz.prog 128 #[.pointer r,.agg (Zb A)] w' (Rt (.bool true) w'))
  (hqq: ∀w',Below w.heap.size w w'->Calls Tryz.prog 143 #[.pointer v] w' (Rt (.agg (Zb QQ)) w'))
  (hex: ∀w',Below w.heap.size w w'->Calls Tryz.prog 131 #[.pointer v,.agg (Zb A),.agg (Zb QQ)] w' (Rt (.agg (Zb S)) w')):
  Calls Tryz.prog 120 #[.pointer v,.agg (Zb A)] w fun e w'=>e= .returned (.bool B)/\Below w.heap.size w w':=by
 have h1:=fun w'=>Xv 1 w' (by decide)
 rw[show(1:Int).toNat=1 from rfl]at h1
 go_enter func120,ntmps120
 iterate 2 go_step
 refine rp ?_;refine Zy (by rfl) 57 _ rfl (_) rfl ?_;intro g3 z0 n0 r3 k;refine p_W ?_;have b3:w.heap.size<=g3:=n0;clear n0;have sb:=k_b k;clear k;refine p_V (.bool false) (fun _=>rfl) ?_;iterate 3 go_step
 refine Zl (by kernel_rfl) (by kernel_rfl) ?_;refine q_W ?_;refine q_k 167 func167 #[.pointer v] (fun w' hb=>hq w' (Zi sb (e_ _) hb)) ?_;refine q_W ?_;refine Y8 (by rfl) 57 _ rfl _ rfl r3 4 _ b_ Zc (q_W ?_);refine q_k 128 func128 #[.pointer r,.agg (Zb A)] (fun w' hb=>hin w' (Zi sb (e_ _) hb)) ?_;refine q_W ?_;refine Y8 (by rfl) 57 _ rfl _ rfl r3 4 _ b_ Zc (q_W ?_);refine q_k 143 func143 #[.pointer v] (fun w' hb=>hqq w' (Zi sb (e_ _) hb)) ?_;refine q_W ?_;refine q_k 131 func131 #[.pointer v,.agg (Zb A),.agg (Zb QQ)] (fun w' hb=>hex w' (Zi sb (e_ _) hb)) ?_;refine q_W ?_;refine q_c 57 hP0 #[.int .i64 1] h1 ?_;refine q_W ?_;refine q_V (.bool B) (fun w'=>(ZJ _ _ _ rfl S 1 rfl rfl w').trans (by rw[hB])) ?_;refine q_P true (.bool B) ?_;intro w3 hqb;replace sb:=b_o sb hqb;clear hqb;go_wp2;go_ret;exact⟨rfl,sb⟩
theorem Iy (g gr gf P Q G n ca ce:Nat)(ab ae:Option Addr)(a' b':Nat->Nat)(gb ob ge oe:Nat)(bcs ecs:Array Value)(tb te:TypeId)(w:World)(hn:n<=64)
  (hna:NatsAt w ab n a' gb ob bcs tb)(hnb:NatsAt w ae n b' ge oe ecs te)(q:RgQ P)(h:GrpAt w g gr gf P Q G):
  Calls Tryz.prog 165 #[.pointer (some ⟨g,0,none⟩),.slice ab n ca,.slice ae n ce] w (Rt (.tuple #[.agg (Zb (prd (fun i=>a' i^b' i) n%P)),.int .i64 0]) w):=
 O1 _ _ ab ae n n ca ce _ 0 w (fun w' hb=>WN _ _ _ _ _ _ w' (h.below hb).kn) fun w' hb=>OA n P a' b' ab ae ca ce gb ob ge oe bcs ecs tb te gr w' ⟨hn,q.m,q.odd,q.two,hna.below hb,hnb.below hb⟩ (h.below hb).ring
theorem Iz (A E g gr gf P Q G:Nat)(w:World)(hA:A<2^256)(hE:E<2^256)(q:RgQ P)(h:GrpAt w g gr gf P Q G):
  Calls Tryz.prog 131 #[.pointer (some ⟨g,0,none⟩),.agg (Zb A),.agg (Zb E)] w (Rt (.agg (Zb (A^E%P))) w):=by
 refine Ix _ A E _ 0 w fun w' hb x y ra rb=>UX _ _ _ _ 1 1 1 1 _ 0 w' (fun w2 h2=>WN _ _ _ _ _ _ w2 ((h.below hb).below h2).kn) fun w2 h2=>?_
 have:=OA 1 P (fun _=>A) (fun _=>E) (some ⟨x,0,none⟩) (some ⟨y,0,none⟩) 1 1 x 0 y 0 (Zb A) (Zb E) 57 57 gr w2 ⟨by decide,q.m,q.odd,q.two,Xi (ra.belowAll h2) hA,Xi (rb.belowAll h2) hE⟩ ((h.below hb).below h2).ring;rw[show prd (fun _=>A^E) 1=A^E from cV0 _]at this;exact this
theorem DX (E g gr gf P Q G:Nat)(w:World)(hE:E<2^256)(hG:G<2^256)(q:RgQ P)(h:GrpAt w g gr gf P Q G):
  Calls Tryz.prog 85 #[.pointer (some ⟨g,0,none⟩),.agg (Zb E)] w (Rt (.agg (Zb (G^E%P))) w):=
 Ea _ E G _ w (fun w' hb=>FG _ _ _ _ _ _ w' (h.below hb).kn) fun w' hb=>Iz G E g gr gf P Q G w' hG hE q (h.below hb)
theorem yP (x P:Nat)(hP:P<2^256)(h2:2<=P):decide (x%P%2^256=1%2^256)=decide (x%P=1):=by
 rw[g_ (E_ (n_ x (l_ (by decide) h2)) hP),show 1%2^256=1 from rfl]
def Kg (P Q A:Nat):Bool:=decide (A<P)&&decide (A^Q%P=1)
theorem yQ (A g gr gf P Q G:Nat)(w:World)(hA:A<2^256)(hQ:Q<2^256)(q:RgQ P)(h:GrpAt w g gr gf P Q G):
  Calls Tryz.prog 120 #[.pointer (some ⟨g,0,none⟩),.agg (Zb A)] w (Rt (.bool (Kg P Q A)) w):=by
 have hin:=fun w' (hb:Below w.heap.size w w')=>SN A P _ _ _ gr w' hA (l_ (by decide) q.two) q.m (h.below hb).ring
 rw[OG]at hin;unfold Kg;by_cases hl:A<P
 ·rw[c_ hl,aF0];rw[c_ hl]at hin;exact Eb _ _ A Q (A^Q%P) _ w (yP _ P q.m q.two) (fun w' hb=>WN _ _ _ _ _ _ w' (h.below hb).kn) hin (fun w' hb=>Ui _ _ _ _ _ _ w' (h.below hb).kn) fun w' hb=>Iz A Q g gr gf P Q G w' hA hQ q (h.below hb)
 ·rw[d_ hl,N_];rw[d_ hl]at hin;exact Al _ _ A w (fun w' hb=>WN _ _ _ _ _ _ w' (h.below hb).kn) hin
def smC (P Q G:Int):Array Value:=#[.int .i64 P,.int .i64 Q,.int .i64 G]
theorem Md (P Q G:Int):(smC P Q G).all (·.oneCell')=true:=by simp[smC,Value.oneCell']
theorem IA:(Tryz.prog.info? 27).map (fun i=>(i.zero,i.size))=some (some (.agg (smC 0 0 0)),3):=by kernel_rfl
theorem Qb (w:World):(zeroValue 27).run Tryz.prog w= .ok (.agg (smC 0 0 0)) w:=(V_ IA).1 w
theorem Yi:(Tryz.prog.info? 27).map (·.size)=some 3:=(V_ IA).2
theorem Ec (P Q G:Int):Tryz.prog.built 27 [(0,.int .i64 P),(1,.int .i64 Q),(2,.int .i64 G)]=some (smC P Q G):=by
 unfold smC
 kernel_rfl
theorem IC (ab:Option Addr)(n c P Q G:Nat)(w:World)
  (hrp: ∀w',Below w.heap.size w w'->Calls Tryz.prog 75 #[.agg (paC ab n c G)] w' (Rt (.agg (Zb P)) w'))
  (hrq: ∀w',Below w.heap.size w w'->Calls Tryz.prog 76 #[.agg (paC ab n c G)] w' (Rt (.agg (Zb Q)) w'))
  (hlp: ∀w',Calls Tryz.prog 50 #[.agg (Zb P)] w' (Rt (.tuple #[.int .i64 (P:Nat),.bool true]) w'))(hlq: ∀w',Calls Tryz.prog 50 #[.agg (Zb Q)] w' (Rt (.tuple #[.int .i64 (Q:Nat),.bool true]) w'))(hlg: ∀w',Calls Tryz.prog 50 #[.agg (Zb G)] w' (Rt (.tuple #[.int .i64 (G:Nat),.bool true]) w')):
  Calls Tryz.prog 31 #[.agg (paC ab n c G)] w fun e w'=>e= .returned (.agg (smC P Q G))/\Below w.heap.size w w':=by
 go_enter func31,ntmps31
 iterate 2 go_step
 refine rp ?_;refine Zy (by rfl) 59 _ rfl (_) rfl ?_;intro g1 z0 n0 r1 k;refine p_W ?_;have b1:w.heap.size<=g1:=n0;clear n0;have sb:=k_b k;clear k;refine ZU (by rfl) 27 rfl _ Qb ?_;intro g2 z1 n0 r2 k;refine p_W ?_;have d1x2:=l_l r1.lt n0;have b2:=f_ sb.size n0;clear n0;replace r1:=k.ro r1;replace sb:=kk sb k;clear k;refine p_W ?_;iterate 3 go_step
 refine rp ?_;refine ZC (by rfl) 59 _ rfl _ 0 rfl r1.r _ (ZQ _) _ bH0 rfl XF (p_W ?_);refine p_c 75 func75 #[.agg (paC ab n c G)] (hrp _ sb) ?_;intro z1001 k;refine p_W ?_;replace r1:=k.ro r1;replace r2:=k.ro r2;replace sb:=kk sb k;clear k;refine p_c 50 hI0 #[.agg (Zb P)] (hlp _) ?_;intro z1002 k;refine p_W ?_;replace r1:=k.ro r1;replace r2:=k.ro r2;replace sb:=kk sb k;clear k;refine p_W ?_;iterate 3 go_step
 refine rp ?_;refine ZC (by rfl) 59 _ rfl _ 0 rfl r1.r _ (ZQ _) _ bH0 rfl XF (p_W ?_);refine p_c 76 func76 #[.agg (paC ab n c G)] (hrq _ sb) ?_;intro z2001 k;refine p_W ?_;replace r1:=k.ro r1;replace r2:=k.ro r2;replace sb:=kk sb k;clear k;refine p_c 50 hI0 #[.agg (Zb Q)] (hlq _) ?_;intro z2002 k;refine p_W ?_;replace r1:=k.ro r1;replace r2:=k.ro r2;replace sb:=kk sb k;clear k;refine p_W ?_;iterate 3 go_step
 refine rp ?_;refine p_V _ (Ze 59 _ 1 rfl g1 0 rfl _ bH0 _ rfl 3 aV0) ?_;refine ZC (by rfl) 57 _ rfl _ (1) rfl r1.r (Zb G) (vM _ _ _ _) _ b_ rfl Zc (p_W ?_);refine p_c 50 hI0 #[.agg (Zb G)] (hlg _) ?_;intro z3002 k;refine p_W ?_;replace r1:=k.ro r1;replace r2:=k.ro r2;replace sb:=kk sb k;clear k;refine p_W ?_;iterate 3 go_step
 refine r_p ?_;refine p_V _ (ZZ _ _ rfl [(0,.int .i64 P),(1,.int .i64 Q),(2,.int .i64 G)] rfl _ (Ec _ _ _)) ?_;refine Xo (by rfl) 27 _ _ rfl _ rfl r2 (smC P Q G) rfl (by exact Yi) (by rfl) (Md _ _ _) ?_;clear r2;intro z4004 r2 k;simp only[Act.put];replace sb:=kk sb k;clear k;refine p_W ?_;go_wp2;exact XQ rfl _ rfl r2 _ M_ (by exact Yi) rfl ⟨rfl,sb⟩
theorem Sf (A:Nat)(w:World)(h:A<9223372036854775808):
  Calls Tryz.prog 50 #[.agg (Zb A)] w (Rt (.tuple #[.int .i64 (A:Nat),.bool true]) w):=by
 have:=U3 A w (by omega);rw[show QE A=((A:Nat):Int)from i_ h,show Qp A=true from c_ h]at this;exact this
theorem Ed (x:Nat)(N:Nat->Nat)(A:Nat->Int)(G:Nat)(w:World)(r:Row w x (OF 3 N A) 106)(hlt: ∀i,i<3->N i<2^256)(hP:N (3-1)<9223372036854775808)(hQ:N (3-2)<9223372036854775808)(hG:G<9223372036854775808):
  Calls Tryz.prog 31 #[.agg (paC (some ⟨x,0,none⟩) 3 3 G)] w (Rt (.agg (smC (N (3-1):Nat) (N (3-2):Nat) (G:Nat))) w):=
 IC _ 3 3 _ _ G w (fun w' hb=>yo 3 3 (some ⟨x,0,none⟩) G _ _ x 0 _ _ w' (by decide) (by decide) (TQ (r.belowAll hb) hlt)) (fun w' hb=>yp 3 3 (some ⟨x,0,none⟩) G _ _ x 0 _ _ w' (by decide) (by decide) (TQ (r.belowAll hb) hlt))
  (fun w'=>Sf _ w' hP) (fun w'=>Sf _ w' hQ) fun w'=>Sf _ w' hG
theorem Sg (X E P:Nat)(Q G:Int)(w:World)(hE:E<2^256)(h0:0<P)(hP:P<4611686018427387904):
  Calls Tryz.prog 88 #[.agg (smC (P:Nat) Q G),.int .i64 (X:Nat),.agg (Zb E)] w fun e w'=>e= .returned (.int .i64 (X^E%P:Nat))/\Below w.heap.size w w':=by
 have hpw:=fun w'=>SY X E P w' hE h0 hP
 clear hE h0 hP;generalize X^E%P=Y at*
 go_enter func88,ntmps88
 iterate 2 go_step
 refine rp ?_;refine Zy (by rfl) 27 _ rfl (_) rfl ?_;intro g3 z0 n0 r3 k;refine p_W ?_;have b3:w.heap.size<=g3:=n0;clear n0;have sb:=k_b k;clear k;refine Zy (by rfl) 57 _ rfl (_) rfl ?_;intro g5 z1 n0 r5 k;refine p_W ?_;have d3x5:=l_l r3.lt n0;have b5:=f_ sb.size n0;clear n0;replace r3:=k.ro r3;replace sb:=kk sb k;clear k;refine p_V (.int .i64 0) (fun _=>rfl) ?_;iterate 3 go_step
 refine r_p ?_;refine p_l r5.r ?_;refine p_W ?_;refine p_V _ (Ze 27 _ 0 rfl g3 0 rfl _ M_ _ rfl 0 Q_) ?_;refine p_D 0 r3.r (.int .i64 (P:Nat)) rfl aD0 ?_;refine p_c 134 func134 #[.int .i64 (X:Nat),.agg (Zb E),.int .i64 (P:Nat)] (hpw _) ?_;intro z1004 k;refine p_W ?_;replace r3:=k.ro r3;replace r5:=k.ro r5;replace sb:=kk sb k;clear k;refine p_W ?_;go_wp2;go_ret;exact⟨rfl,sb⟩
theorem ID (X Y P:Nat)(Q G:Int)(w:World)(h0:0<P)(hP:P<4611686018427387904):
  Calls Tryz.prog 208 #[.agg (smC (P:Nat) Q G),.int .i64 (X:Nat),.int .i64 (Y:Nat)] w fun e w'=>e= .returned (.int .i64 (X*Y%P:Nat))/\Below w.heap.size w w':=by
 have hti:=fun w'=>UK X Y P w' h0 hP
 clear h0 hP;generalize X*Y%P=Z at*
 go_enter func208,ntmps208
 iterate 2 go_step
 refine rp ?_;refine Zy (by rfl) 27 _ rfl (_) rfl ?_;intro g3 z0 n0 r3 k;refine p_W ?_;have b3:w.heap.size<=g3:=n0;clear n0;have sb:=k_b k;clear k;refine p_V (.int .i64 0) (fun _=>rfl) ?_;iterate 3 go_step
 refine r_p ?_;refine p_V _ (Ze 27 _ 0 rfl g3 0 rfl _ M_ _ rfl 0 Q_) ?_;refine p_D 0 r3.r (.int .i64 (P:Nat)) rfl aD0 ?_;refine p_c 135 func135 #[.int .i64 (X:Nat),.int .i64 (Y:Nat),.int .i64 (P:Nat)] (hti _) ?_;intro z1004 k;refine p_W ?_;replace r3:=k.ro r3;replace sb:=kk sb k;clear k;refine p_W ?_;go_wp2;go_ret;exact⟨rfl,sb⟩
theorem yR (A P Q:Nat)(G:Int)(w:World)(hlo: ∀w',Calls Tryz.prog 50 #[.agg (Zb A)] w' (Rt (.tuple #[.int .i64 0,.bool false]) w')):
  Calls Tryz.prog 145 #[.agg (smC (P:Nat) (Q:Nat) G),.agg (Zb A)] w fun e w'=>e= .returned (.bool false)/\Below w.heap.size w w':=by
 go_enter func145,ntmps145
 iterate 2 go_step
 refine rp ?_;refine Zy (by rfl) 27 _ rfl (_) rfl ?_;intro g2 z0 n0 r2 k;refine p_W ?_;have b2:w.heap.size<=g2:=n0;clear n0;have sb:=k_b k;clear k;refine Zy (by rfl) 57 _ rfl (_) rfl ?_;intro g3 z1 n0 r3 k;refine p_W ?_;have d2x3:=l_l r2.lt n0;have b3:=f_ sb.size n0;clear n0;replace r2:=k.ro r2;replace sb:=kk sb k;clear k;refine p_V (.bool false) (fun _=>rfl) ?_;iterate 3 go_step
 refine rp ?_;refine p_l r3.r ?_;refine p_W ?_;refine p_c 50 hI0 #[.agg (Zb A)] (hlo _) ?_;intro z1001 k;refine p_W ?_;replace r2:=k.ro r2;replace r3:=k.ro r3;replace sb:=kk sb k;clear k;refine p_W ?_;iterate 3 go_step
 refine Zl (by kernel_rfl) (by kernel_rfl) ?_;refine q_W ?_;refine q_P false (.bool false) ?_;refine q_P false (.bool false) ?_;refine q_P false (.bool false) ?_;intro w3 hqb;replace sb:=b_o sb hqb;clear hqb;go_wp2;go_ret;exact⟨rfl,sb⟩
theorem yS (P Q:Nat)(G:Int)(w:World)(hlo: ∀w',Calls Tryz.prog 50 #[.agg (Zb 0)] w' (Rt (.tuple #[.int .i64 0,.bool true]) w')):
  Calls Tryz.prog 145 #[.agg (smC (P:Nat) (Q:Nat) G),.agg (Zb 0)] w fun e w'=>e= .returned (.bool false)/\Below w.heap.size w w':=by
 go_enter func145,ntmps145
 iterate 2 go_step
 refine rp ?_;refine Zy (by rfl) 27 _ rfl (_) rfl ?_;intro g2 z0 n0 r2 k;refine p_W ?_;have b2:w.heap.size<=g2:=n0;clear n0;have sb:=k_b k;clear k;refine Zy (by rfl) 57 _ rfl (_) rfl ?_;intro g3 z1 n0 r3 k;refine p_W ?_;have d2x3:=l_l r2.lt n0;have b3:=f_ sb.size n0;clear n0;replace r2:=k.ro r2;replace sb:=kk sb k;clear k;refine p_V (.bool false) (fun _=>rfl) ?_;iterate 3 go_step
 refine rp ?_;refine p_l r3.r ?_;refine p_W ?_;refine p_c 50 hI0 #[.agg (Zb 0)] (hlo _) ?_;intro z1001 k;refine p_W ?_;replace r2:=k.ro r2;replace r3:=k.ro r3;replace sb:=kk sb k;clear k;refine p_W ?_;iterate 3 go_step
 refine Zl (by kernel_rfl) (by kernel_rfl) ?_;refine q_W ?_;refine q_V _ (Yf _ _ _ _ rfl 0 0 rfl rfl false rfl) ?_;refine q_P true (.bool false) ?_;refine q_P false (.bool false) ?_;refine q_P false (.bool false) ?_;intro w3 hqb;replace sb:=b_o sb hqb;clear hqb;go_wp2;go_ret;exact⟨rfl,sb⟩
theorem yT (A P Q:Nat)(G:Int)(w:World)(h0:0<A)(hl: ¬A<P)(hlo: ∀w',Calls Tryz.prog 50 #[.agg (Zb A)] w' (Rt (.tuple #[.int .i64 (A:Nat),.bool true]) w')):
  Calls Tryz.prog 145 #[.agg (smC (P:Nat) (Q:Nat) G),.agg (Zb A)] w fun e w'=>e= .returned (.bool false)/\Below w.heap.size w w':=by
 go_enter func145,ntmps145
 iterate 2 go_step
 refine rp ?_;refine Zy (by rfl) 27 _ rfl (_) rfl ?_;intro g2 z0 n0 r2 k;refine p_W ?_;have b2:w.heap.size<=g2:=n0;clear n0;have sb:=k_b k;clear k;refine Zy (by rfl) 57 _ rfl (_) rfl ?_;intro g3 z1 n0 r3 k;refine p_W ?_;have d2x3:=l_l r2.lt n0;have b3:=f_ sb.size n0;clear n0;replace r2:=k.ro r2;replace sb:=kk sb k;clear k;refine p_V (.bool false) (fun _=>rfl) ?_;iterate 3 go_step
 refine rp ?_;refine p_l r3.r ?_;refine p_W ?_;refine p_c 50 hI0 #[.agg (Zb A)] (hlo _) ?_;intro z1001 k;refine p_W ?_;replace r2:=k.ro r2;replace r3:=k.ro r3;replace sb:=kk sb k;clear k;refine p_W ?_;iterate 3 go_step
 refine Zl (by kernel_rfl) (by kernel_rfl) ?_;refine q_W ?_;refine q_V _ (NL (A:Nat) 0) ?_;refine q_P true (.bool true) ?_;refine q_V _ (Ze 27 _ 0 rfl g2 0 rfl _ M_ _ rfl 0 Q_) ?_;refine ZF (by rfl) 3 _ rfl _ (0) rfl r2 (.int .i64 (P:Nat)) rfl aD0 (q_W ?_);refine q_V _ (YN (A:Nat) (P:Nat)) ?_;refine q_P true (.bool false) ?_;refine q_P false (.bool false) ?_;intro w3 hqb;replace sb:=b_o sb hqb;clear hqb;go_wp2;go_ret;exact⟨rfl,sb⟩
theorem yU (A P Q Y:Nat)(G:Int)(B:Bool)(w:World)(h0:0<A)(hl:A<P)(hB:decide ((Y:Int)=1)=B)(hlo: ∀w',Calls Tryz.prog 50 #[.agg (Zb A)] w' (Rt (.tuple #[.int .i64 (A:Nat),.bool true]) w'))
  (hin: ∀w',Calls Tryz.prog 40 #[.int .i64 (Q:Nat)] w' (Rt (.agg (Zb Q)) w'))
  (hex: ∀w',Calls Tryz.prog 88 #[.agg (smC (P:Nat) (Q:Nat) G),.int .i64 (A:Nat),.agg (Zb Q)] w' (Rt (.int .i64 (Y:Nat)) w')):
  Calls Tryz.prog 145 #[.agg (smC (P:Nat) (Q:Nat) G),.agg (Zb A)] w fun e w'=>e= .returned (.bool B)/\Below w.heap.size w w':=by
 go_enter func145,ntmps145
 iterate 2 go_step
 refine rp ?_;refine Zy (by rfl) 27 _ rfl (_) rfl ?_;intro g2 z0 n0 r2 k;refine p_W ?_;have b2:w.heap.size<=g2:=n0;clear n0;have sb:=k_b k;clear k;refine Zy (by rfl) 57 _ rfl (_) rfl ?_;intro g3 z1 n0 r3 k;refine p_W ?_;have d2x3:=l_l r2.lt n0;have b3:=f_ sb.size n0;clear n0;replace r2:=k.ro r2;replace sb:=kk sb k;clear k;refine p_V (.bool false) (fun _=>rfl) ?_;iterate 3 go_step
 refine rp ?_;refine p_l r3.r ?_;refine p_W ?_;refine p_c 50 hI0 #[.agg (Zb A)] (hlo _) ?_;intro z1001 k;refine p_W ?_;replace r2:=k.ro r2;replace r3:=k.ro r3;replace sb:=kk sb k;clear k;refine p_W ?_;iterate 3 go_step
 refine Zl (by kernel_rfl) (by kernel_rfl) ?_;refine q_W ?_;refine q_V _ (NL (A:Nat) 0) ?_;refine q_P true (.bool true) ?_;refine q_V _ (Ze 27 _ 0 rfl g2 0 rfl _ M_ _ rfl 0 Q_) ?_;refine ZF (by rfl) 3 _ rfl _ (0) rfl r2 (.int .i64 (P:Nat)) rfl aD0 (q_W ?_);refine q_V _ (YW (A:Nat) (P:Nat)) ?_;refine q_P true (.bool true) ?_;refine ZY (by rfl) 27 _ rfl _ (0) rfl r2 (smC (P:Nat) (Q:Nat) G) (ZQ _) _ M_ rfl Yi (q_W ?_);refine q_V _ (Ze 27 _ 1 rfl g2 0 rfl _ M_ _ rfl 0 Q_) ?_;refine ZF (by rfl) 3 _ rfl _ (1) rfl r2 (.int .i64 (Q:Nat)) rfl aD0 (q_W ?_);refine q_c 40 func40 #[.int .i64 (Q:Nat)] hin ?_;refine q_W ?_;refine q_c 88 func88 #[.agg (smC (P:Nat) (Q:Nat) G),.int .i64 (A:Nat),.agg (Zb Q)] hex ?_;refine q_W ?_;refine q_V _ (Zz .i64 _ _ _ _ rfl (Y:Nat) 1 rfl rfl B hB) ?_;refine q_P true (.bool B) ?_;intro w3 hqb;replace sb:=b_o sb hqb;clear hqb;go_wp2;go_ret;exact⟨rfl,sb⟩
theorem Ee (A P Q:Nat)(G:Int)(w:World)(hA:A<2^256)(h2:2<=P)(hP:P<4611686018427387904)(h0:0<Q)(hQ:Q<9223372036854775808):
  Calls Tryz.prog 145 #[.agg (smC (P:Nat) (Q:Nat) G),.agg (Zb A)] w (Rt (.bool (Kg P Q A)) w):=by
 by_cases h63:A<9223372036854775808
 ·have hlo:=fun w'=>Sf A w' h63
  rcases aO0 A with rfl|hp
  ·rw[show Kg P Q 0=false by unfold Kg;rw[Nat.zero_pow h0,eE0];simp];exact yS P Q G w hlo
  ·unfold Kg;by_cases hl:A<P
   ·rw[c_ hl,aF0];refine yU A P Q (A^Q%P) G _ w hp hl (bO0.2 (by omega)) hlo (fun w'=>?_) fun w'=>Sg A Q P _ G w' (by omega) (by omega) hP
    have:=Vo (Q:Int) w' (by omega);rw[q_]at this;exact this
   ·rw[d_ hl,N_];exact yT A P Q G w hp hl hlo
 ·have hlo:=fun w'=>U3 A w' hA
  rw[show QE A=0 from j_ h63,show Qp A=false from d_ h63]at hlo;unfold Kg;rw[d_ (by omega),N_];exact yR A P Q G w hlo
theorem wJ (f:Nat->Nat)(P:Nat)(h:2<=P):prd f 0%P=1:=g_ h
theorem yV (f:Nat->Nat)(i P a b:Nat)(h:f i=a^b):prd f i%P*((a%P)^b%P)%P=prd f (i+1)%P:=by
 rw[show prd f (i+1)=prd f i*f i from rfl,h,<-gO0,<-aN0]
theorem yW (b:Bool):lN (pk2 b otL leL) (3-1)<4611686018427387904/\pk2 b otG leG<4611686018427387904:=by
 cases b<;>decide
theorem Am {P Q G:Nat}(h2:2<=P)(h:G^Q%P=1)(a:Nat):Kg P Q (G^a%P)=true:=by
 unfold Kg;rw[c_ (n_ _ (by omega)),c_ (Je h2 h a)];rfl
def le5:Nat:=499752131551553962