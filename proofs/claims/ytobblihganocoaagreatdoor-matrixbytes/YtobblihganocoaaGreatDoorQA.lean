import Derived.Test.YtobblihganocoaaGreatDoorFA
set_option maxRecDepth 100000
set_option maxHeartbeats 2000000
namespace Go.Proofs.YtobblihganocoaaGreatDoor
open Go.Proofs.Tryz
set_option linter.unusedVariables false
theorem neg_mul (a Q:Nat)(hQ:0<Q):a*(Q-1)%Q=sbN 0 a Q:=by
 unfold sbN
 rw[Nat.zero_mod,Nat.zero_add,Nat.mul_mod,Nat.mul_mod_mod]
 have hr:=Nat.mod_lt a hQ
 generalize a%Q=r at*
 cases r with
 |zero=>rw[Nat.zero_mul,Nat.zero_mod,Nat.sub_zero,Nat.mod_self]
 |succ r=>
  have e:(r+1)*(Q-1)=(Q-(r+1))+Q*r:=by
   obtain⟨k,rfl⟩: ∃k,Q=r+1+k:=⟨Q-(r+1),by omega⟩
   rw[show r+1+k-1=r+k by omega,Nat.add_sub_cancel_left]
   simp only[Nat.add_mul,Nat.mul_add,Nat.one_mul]
   rw[Nat.mul_comm k r]
   omega
  rw[e,Nat.add_mul_mod_self_left]
open Go.RowKit
theorem UG (v r ab ae:Option Addr)(n m ca ce S:Nat)(z:Int)(w:World)(hq: ∀w',Below w.heap.size w w'->Calls Tryz.prog 187 #[.pointer v] w' (Rt (.pointer r) w'))
  (hpr: ∀w',Below w.heap.size w w'->Calls Tryz.prog 138 #[.pointer r,.slice ab n ca,.slice ae m ce] w' (Rt (.tuple #[.agg (Zc S),.int .i64 z]) w')):
  Calls Tryz.prog 194 #[.pointer v,.slice ae m ce,.slice ab n ca] w fun e w'=>e= .returned (.tuple #[.agg (Zc S),.int .i64 z])/\Below w.heap.size w w':=by
 go_enter func194,ntmps194
 iterate 2 go_step
 refine rp ?_;refine ZN (by rfl) 62 rfl _ Zm ?_;intro g6 z0 n0 r6 k;refine p_W ?_
 have b6:w.heap.size<=g6:=n0
 clear n0
 have sb:=k_b k
 clear k;refine p_V (.int .i64 0) (fun _=>rfl) ?_
 iterate 3 go_step
 refine r_p ?_;refine p_c 187 func187 #[.pointer v] (hq _ sb) ?_;intro z1001 k;refine p_W ?_;replace r6:=k.ro r6;replace sb:=kk sb k;clear k;refine p_W ?_;refine p_c 138 func138 #[.pointer r,.slice ab n ca,.slice ae m ce] (hpr _ sb) ?_;intro z1004 k;refine p_W ?_;replace r6:=k.ro r6;replace sb:=kk sb k;clear k;refine p_W ?_;refine p_p r6 S ?_;clear r6;intro z1007 r6 k;simp only[Act.put];replace sb:=kk sb k;clear k;refine p_W ?_
 go_wp2
 exact ZY rfl _ rfl r6 4 _ underlying62 (by exact Zb) rfl _ rfl ⟨rfl,sb⟩
theorem Of (v r ab ae:Option Addr)(n m ca ce S:Nat)(z:Int)(w:World)(hq: ∀w',Below w.heap.size w w'->Calls Tryz.prog 187 #[.pointer v] w' (Rt (.pointer r) w'))
  (hpr: ∀w',Below w.heap.size w w'->Calls Tryz.prog 138 #[.pointer r,.slice ab n ca,.slice ae m ce] w' (Rt (.tuple #[.agg (Zc S),.int .i64 z]) w')):
  Calls Tryz.prog 185 #[.pointer v,.slice ab n ca,.slice ae m ce] w fun e w'=>e= .returned (.tuple #[.agg (Zc S),.int .i64 z])/\Below w.heap.size w w':=by
 have hra:=fun w' (hb:Below w.heap.size w w')=>UG v r ab ae n m ca ce S z w' (fun w2 h2=>hq w2 (Zh hb (Nat.le_refl _) h2)) fun w2 h2=>hpr w2 (Zh hb (Nat.le_refl _) h2)
 clear hq hpr
 go_enter func185,ntmps185
 iterate 2 go_step
 refine rp ?_;refine ZN (by rfl) 62 rfl _ Zm ?_;intro g6 z0 n0 r6 k;refine p_W ?_
 have b6:w.heap.size<=g6:=n0
 clear n0
 have sb:=k_b k
 clear k;refine p_V (.int .i64 0) (fun _=>rfl) ?_
 iterate 3 go_step
 refine r_p ?_;refine p_c 194 func194 #[.pointer v,.slice ae m ce,.slice ab n ca] (hra _ sb) ?_;intro z1003 k;refine p_W ?_;replace r6:=k.ro r6;replace sb:=kk sb k;clear k;refine p_W ?_;refine p_p r6 S ?_;clear r6;intro z1006 r6 k;simp only[Act.put];replace sb:=kk sb k;clear k;refine p_W ?_
 go_wp2
 exact ZY rfl _ rfl r6 4 _ underlying62 (by exact Zb) rfl _ rfl ⟨rfl,sb⟩
theorem Jl (v:Option Addr)(A E S:Nat)(z:Int)(w:World)
  (hra: ∀w',Below w.heap.size w w'-> ∀x y,Row w' x (Zc A) 62->Row w' y (Zc E) 62->Calls Tryz.prog 194 #[.pointer v,.slice (some ⟨y,0,none⟩) 1 1,.slice (some ⟨x,0,none⟩) 1 1] w' (Rt (.tuple #[.agg (Zc S),.int .i64 z]) w')):
  Calls Tryz.prog 152 #[.pointer v,.agg (Zc A),.agg (Zc E)] w fun e w'=>e= .returned (.agg (Zc S))/\Below w.heap.size w w':=by
 obtain⟨ie,hie,hz,hsz,_⟩:=Ys
 have hs1: ¬1*ie.size>2^24:=by rw[hsz];decide
 have hs2: ¬1*ie.size=0:=by rw[hsz];decide
 have hlA:=VF A ie.size hsz
 have hlE:=VF E ie.size hsz
 go_enter func152,ntmps152
 iterate 2 go_step
 refine rp ?_;refine ZX (by rfl) 62 _ rfl (_) rfl ?_;intro g4 z0 n0 r4 k;refine p_W ?_
 have b4:w.heap.size<=g4:=n0
 clear n0
 have sb:=k_b k
 clear k;refine ZX (by rfl) 62 _ rfl (_) rfl ?_;intro g5 z1 n0 r5 k;refine p_W ?_
 have d4x5:=l_l r4.lt n0
 have b5:=Nat.le_trans sb.size n0
 clear n0;replace r4:=k.ro r4;replace sb:=kk sb k;clear k;refine ZN (by rfl) 62 rfl _ Zm ?_;intro g6 z2 n0 r6 k;refine p_W ?_
 have d4x6:=l_l r4.lt n0
 have d5x6:=l_l r5.lt n0
 have b6:=Nat.le_trans sb.size n0
 clear n0;replace r4:=k.ro r4;replace r5:=k.ro r5;replace sb:=kk sb k;clear k;refine p_W ?_
 iterate 3 go_step
 refine r_p ?_;refine p_l r5.r ?_;refine p_W ?_;refine XF (by rfl) 33 62 1 _ rfl (Zc E) ie _ underlying33 hie hz hs1 hs2 [(0,.agg (Zc E))] rfl hlE ?_;intro gU z1002 n0 rU k;refine p_W ?_
 have d4xU:=l_l r4.lt n0
 have d5xU:=l_l r5.lt n0
 have d6xU:=l_l r6.lt n0
 have bU:=Nat.le_trans sb.size n0
 clear n0;replace r4:=k.ro r4;replace r5:=k.ro r5;replace r6:=k.ro r6;replace sb:=kk sb k;clear k;refine p_l r4.r ?_;refine p_W ?_;refine XF (by rfl) 33 62 1 _ rfl (Zc A) ie _ underlying33 hie hz hs1 hs2 [(0,.agg (Zc A))] rfl hlA ?_;intro gV z1004 n0 rV k;refine p_W ?_
 have d4xV:=l_l r4.lt n0
 have d5xV:=l_l r5.lt n0
 have d6xV:=l_l r6.lt n0
 have dUxV:=l_l rU.lt n0
 have bV:=Nat.le_trans sb.size n0
 clear n0;replace r4:=k.ro r4;replace r5:=k.ro r5;replace r6:=k.ro r6;replace rU:=k.ro rU;replace sb:=kk sb k;clear k;refine p_c 194 func194 #[.pointer v,.slice (some ⟨gU,0,none⟩) 1 1,.slice (some ⟨gV,0,none⟩) 1 1] (hra _ sb gV gU rV rU) ?_;intro z1005 k;refine p_W ?_;replace r4:=k.ro r4;replace r5:=k.ro r5;replace r6:=k.ro r6;replace rU:=k.ro rU;replace rV:=k.ro rV;replace sb:=kk sb k;clear k;refine p_W ?_;refine ZN (by rfl) 62 rfl _ Zm ?_;intro g7 z1009 n0 r7 k;refine p_W ?_
 have d4x7:=l_l r4.lt n0
 have d5x7:=l_l r5.lt n0
 have d6x7:=l_l r6.lt n0
 have dUx7:=l_l rU.lt n0
 have dVx7:=l_l rV.lt n0
 have b7:=Nat.le_trans sb.size n0
 clear n0;replace r4:=k.ro r4;replace r5:=k.ro r5;replace r6:=k.ro r6;replace rU:=k.ro rU;replace rV:=k.ro rV;replace sb:=kk sb k;clear k;refine p_p r7 S ?_;clear r7;intro z1010 r7 k;simp only[Act.put];replace r4:=k.ro r4;replace r5:=k.ro r5;replace r6:=k.ro r6;replace rU:=k.ro rU;replace rV:=k.ro rV;replace sb:=kk sb k;clear k;refine p_W ?_
 iterate 3 go_step
 refine rp ?_;refine p_l r7.r ?_;refine p_W ?_;refine p_p r6 S ?_;clear r6;intro z2001 r6 k;simp only[Act.put];replace r7:=k.ro r7;replace sb:=kk sb k;clear k;refine p_W ?_
 go_wp2
 exact ZH rfl _ rfl r6 4 _ underlying62 (by exact Zb) rfl ⟨rfl,sb⟩
theorem GC (v:Option Addr)(E GG S:Nat)(w:World)(hg: ∀w',Below w.heap.size w w'->Calls Tryz.prog 153 #[.pointer v] w' (Rt (.agg (Zc GG)) w'))
  (hex: ∀w',Below w.heap.size w w'->Calls Tryz.prog 152 #[.pointer v,.agg (Zc GG),.agg (Zc E)] w' (Rt (.agg (Zc S)) w')):
  Calls Tryz.prog 109 #[.pointer v,.agg (Zc E)] w fun e w'=>e= .returned (.agg (Zc S))/\Below w.heap.size w w':=by
 go_enter func109,ntmps109
 iterate 2 go_step
 refine rp ?_;refine ZX (by rfl) 62 _ rfl (_) rfl ?_;intro g3 z0 n0 r3 k;refine p_W ?_
 have b3:w.heap.size<=g3:=n0
 clear n0
 have sb:=k_b k
 clear k;refine ZN (by rfl) 62 rfl _ Zm ?_;intro g4 z1 n0 r4 k;refine p_W ?_
 have d3x4:=l_l r3.lt n0
 have b4:=Nat.le_trans sb.size n0
 clear n0;replace r3:=k.ro r3;replace sb:=kk sb k;clear k;refine p_W ?_
 iterate 3 go_step
 apply Zg (by kernel_rfl) [(g4,62,Zc 0)] [_,_,_,_,_,_] ⟨r4,trivial⟩ (by simp<;>omega)
 ·intro p;refine m_W ?_
  refine m_K 153 func153 #[.pointer v] (fun w' hk=>hg w' (sb.trans (hk.below w.heap.size sb.size (by simp<;>omega)))) ?_
  refine m_L r3 ?_
  refine m_K 152 func152 #[.pointer v,.agg (Zc GG),.agg (Zc E)] (fun w' hk=>hex w' (sb.trans (hk.below w.heap.size sb.size (by simp<;>omega)))) ?_
  refine m_p 0 S ?_;simp only[Act.put];refine Zd ?_;intro w2 hkw hrw hnew hdis
  have zr4:Row w2 (g4) (Zc S) 62:=hrw 0 (62,Zc S) rfl
  replace sb:=kk sb hkw;clear hkw hrw hnew hdis r4
  have r4:=zr4
  clear zr4
  go_wp2
  exact ZH rfl _ rfl r4 4 _ underlying62 (by exact Zb) rfl ⟨rfl,sb⟩
 ·kernel_rfl
theorem CL (v r:Option Addr)(A:Nat)(w:World)(hq: ∀w',Below w.heap.size w w'->Calls Tryz.prog 187 #[.pointer v] w' (Rt (.pointer r) w'))
  (hin: ∀w',Below w.heap.size w w'->Calls Tryz.prog 149 #[.pointer r,.agg (Zc A)] w' (Rt (.bool false) w')):
  Calls Tryz.prog 142 #[.pointer v,.agg (Zc A)] w fun e w'=>e= .returned (.bool false)/\Below w.heap.size w w':=by
 go_enter func142,ntmps142
 iterate 2 go_step
 refine rp ?_;refine ZX (by rfl) 62 _ rfl (_) rfl ?_;intro g3 z0 n0 r3 k;refine p_W ?_
 have b3:w.heap.size<=g3:=n0
 clear n0
 have sb:=k_b k
 clear k;refine p_V (.bool false) (fun _=>rfl) ?_
 iterate 3 go_step
 refine Zv (by kernel_rfl) (by kernel_rfl) ?_;refine q_W ?_;refine q_k 187 func187 #[.pointer v] (fun w' hb=>hq w' (Zh sb (Nat.le_refl _) hb)) ?_;refine q_W ?_
 refine YZ (by rfl) 62 _ rfl _ rfl r3 4 _ underlying62 Zb (q_W ?_)
 refine q_k 149 func149 #[.pointer r,.agg (Zc A)] (fun w' hb=>hin w' (Zh sb (Nat.le_refl _) hb)) ?_;refine q_W ?_;refine q_P false (.bool false) ?_;intro w3 hqb;replace sb:=b_o sb hqb;clear hqb
 go_wp2
 go_ret
 exact⟨rfl,sb⟩
theorem GD (v r:Option Addr)(A QQ S:Nat)(B:Bool)(w:World)(hB:decide (S%2^256=1%2^256)=B)(hq: ∀w',Below w.heap.size w w'->Calls Tryz.prog 187 #[.pointer v] w' (Rt (.pointer r) w'))
  (hin: ∀w',Below w.heap.size w w'->Calls Tryz.prog 149 #[.pointer r,.agg (Zc A)] w' (Rt (.bool true) w'))
  (hqq: ∀w',Below w.heap.size w w'->Calls Tryz.prog 164 #[.pointer v] w' (Rt (.agg (Zc QQ)) w'))
  (hex: ∀w',Below w.heap.size w w'->Calls Tryz.prog 152 #[.pointer v,.agg (Zc A),.agg (Zc QQ)] w' (Rt (.agg (Zc S)) w')):
  Calls Tryz.prog 142 #[.pointer v,.agg (Zc A)] w fun e w'=>e= .returned (.bool B)/\Below w.heap.size w w':=by
 have h1:=fun w'=>Xk 1 w' (by decide)
 rw[show(1:Int).toNat=1 from rfl]at h1
 go_enter func142,ntmps142
 iterate 2 go_step
 refine rp ?_;refine ZX (by rfl) 62 _ rfl (_) rfl ?_;intro g3 z0 n0 r3 k;refine p_W ?_
 have b3:w.heap.size<=g3:=n0
 clear n0
 have sb:=k_b k
 clear k;refine p_V (.bool false) (fun _=>rfl) ?_
 iterate 3 go_step
 refine Zv (by kernel_rfl) (by kernel_rfl) ?_;refine q_W ?_;refine q_k 187 func187 #[.pointer v] (fun w' hb=>hq w' (Zh sb (Nat.le_refl _) hb)) ?_;refine q_W ?_
 refine YZ (by rfl) 62 _ rfl _ rfl r3 4 _ underlying62 Zb (q_W ?_)
 refine q_k 149 func149 #[.pointer r,.agg (Zc A)] (fun w' hb=>hin w' (Zh sb (Nat.le_refl _) hb)) ?_;refine q_W ?_
 refine YZ (by rfl) 62 _ rfl _ rfl r3 4 _ underlying62 Zb (q_W ?_)
 refine q_k 164 func164 #[.pointer v] (fun w' hb=>hqq w' (Zh sb (Nat.le_refl _) hb)) ?_;refine q_W ?_;refine q_k 152 func152 #[.pointer v,.agg (Zc A),.agg (Zc QQ)] (fun w' hb=>hex w' (Zh sb (Nat.le_refl _) hb)) ?_;refine q_W ?_;refine q_c 74 func74 #[.int .i64 1] h1 ?_;refine q_W ?_;refine q_V (.bool B) (fun w'=>(ZC _ _ _ rfl S 1 rfl rfl w').trans (by rw[hB])) ?_;refine q_P true (.bool B) ?_;intro w3 hqb;replace sb:=b_o sb hqb;clear hqb
 go_wp2
 go_ret
 exact⟨rfl,sb⟩
theorem Jm (g gr gf P Q G n ca ce:Nat)(ab ae:Option Addr)(a' b':Nat->Nat)(gb ob ge oe:Nat)(bcs ecs:Array Value)(tb te:TypeId)(w:World)(hn:n<=64)
  (hna:NatsAt w ab n a' gb ob bcs tb)(hnb:NatsAt w ae n b' ge oe ecs te)(q:RgQ P)(h:GrpAt w g gr gf P Q G):
  Calls Tryz.prog 185 #[.pointer (some ⟨g,0,none⟩),.slice ab n ca,.slice ae n ce] w fun e w'=>e= .returned (.tuple #[.agg (Zc (prd (fun i=>a' i^b' i) n%P)),.int .i64 0])/\Below w.heap.size w w':=
 Of _ _ ab ae n n ca ce _ 0 w (fun w' hb=>WF _ _ _ _ _ _ w' (h.below hb).kn) fun w' hb=>PS n P a' b' ab ae ca ce gb ob ge oe bcs ecs tb te gr w' ⟨hn,q.m,q.odd,q.two,hna.below hb,hnb.below hb⟩ (h.below hb).ring
theorem Jn (A E g gr gf P Q G:Nat)(w:World)(hA:A<2^256)(hE:E<2^256)(q:RgQ P)(h:GrpAt w g gr gf P Q G):
  Calls Tryz.prog 152 #[.pointer (some ⟨g,0,none⟩),.agg (Zc A),.agg (Zc E)] w fun e w'=>e= .returned (.agg (Zc (A^E%P)))/\Below w.heap.size w w':=by
 refine Jl _ A E _ 0 w fun w' hb x y ra rb=>UG _ _ _ _ 1 1 1 1 _ 0 w' (fun w2 h2=>WF _ _ _ _ _ _ w2 ((h.below hb).below h2).kn) fun w2 h2=>?_
 have:=PS 1 P (fun _=>A) (fun _=>E) (some ⟨x,0,none⟩) (some ⟨y,0,none⟩) 1 1 x 0 y 0 (Zc A) (Zc E) 62 62 gr w2 ⟨by decide,q.m,q.odd,q.two,Y9 (ra.belowAll h2) hA,Y9 (rb.belowAll h2) hE⟩ ((h.below hb).below h2).ring
 rw[show prd (fun _=>A^E) 1=A^E from Nat.one_mul _]at this
 exact this
theorem EB (E g gr gf P Q G:Nat)(w:World)(hE:E<2^256)(hG:G<2^256)(q:RgQ P)(h:GrpAt w g gr gf P Q G):
  Calls Tryz.prog 109 #[.pointer (some ⟨g,0,none⟩),.agg (Zc E)] w fun e w'=>e= .returned (.agg (Zc (G^E%P)))/\Below w.heap.size w w':=
 GC _ E G _ w (fun w' hb=>H4 _ _ _ _ _ _ w' (h.below hb).kn) fun w' hb=>Jn G E g gr gf P Q G w' hG hE q (h.below hb)
theorem AY (x P:Nat)(hP:P<2^256)(h2:2<=P):decide (x%P%2^256=1%2^256)=decide (x%P=1):=by
 rw[Nat.mod_eq_of_lt (Nat.lt_trans (Nat.mod_lt x (Nat.lt_of_lt_of_le (by decide) h2)) hP),show 1%2^256=1 from rfl]
def zY (P Q A:Nat):Bool:=decide (A<P)&&decide (A^Q%P=1)
theorem AZ (A g gr gf P Q G:Nat)(w:World)(hA:A<2^256)(hQ:Q<2^256)(q:RgQ P)(h:GrpAt w g gr gf P Q G):
  Calls Tryz.prog 142 #[.pointer (some ⟨g,0,none⟩),.agg (Zc A)] w fun e w'=>e= .returned (.bool (zY P Q A))/\Below w.heap.size w w':=by
 have hin:=fun w' (hb:Below w.heap.size w w')=>Sw A P _ _ _ gr w' hA (Nat.lt_of_lt_of_le (by decide) q.two) q.m (h.below hb).ring
 rw[PY]at hin
 unfold zY
 by_cases hl:A<P
 ·rw[decide_eq_true hl,Bool.true_and]
  rw[decide_eq_true hl]at hin
  exact GD _ _ A Q (A^Q%P) _ w (AY _ P q.m q.two) (fun w' hb=>WF _ _ _ _ _ _ w' (h.below hb).kn) hin (fun w' hb=>V4 _ _ _ _ _ _ w' (h.below hb).kn) fun w' hb=>Jn A Q g gr gf P Q G w' hA hQ q (h.below hb)
 ·rw[decide_eq_false hl,Bool.false_and]
  rw[decide_eq_false hl]at hin
  exact CL _ _ A w (fun w' hb=>WF _ _ _ _ _ _ w' (h.below hb).kn) hin
def smC (P Q G:Int):Array Value:=#[.int .i64 P,.int .i64 Q,.int .i64 G]
theorem Jo (P Q G:Int):(smC P Q G).all (·.oneCell')=true:=by simp[smC,Value.oneCell']
theorem Jp:(Tryz.prog.info? 37).map (fun i=>(i.zero,i.size))=some (some (.agg (smC 0 0 0)),3):=by kernel_rfl
theorem Og (w:World):(zeroValue 37).run Tryz.prog w= .ok (.agg (smC 0 0 0)) w:=(zero_of_info Jp).1 w
theorem TV:(Tryz.prog.info? 37).map (·.size)=some 3:=(zero_of_info Jp).2
theorem GE (P Q G:Int):Tryz.prog.built 37 [(0,.int .i64 P),(1,.int .i64 Q),(2,.int .i64 G)]=some (smC P Q G):=by
 unfold smC
 kernel_rfl
theorem Jq (ab:Option Addr)(n c P Q G:Nat)(w:World)
  (hrp: ∀w',Below w.heap.size w w'->Calls Tryz.prog 99 #[.agg (paC ab n c G)] w' (Rt (.agg (Zc P)) w'))
  (hrq: ∀w',Below w.heap.size w w'->Calls Tryz.prog 100 #[.agg (paC ab n c G)] w' (Rt (.agg (Zc Q)) w'))
  (hlp: ∀w',Calls Tryz.prog 67 #[.agg (Zc P)] w' (Rt (.tuple #[.int .i64 (P:Nat),.bool true]) w'))(hlq: ∀w',Calls Tryz.prog 67 #[.agg (Zc Q)] w' (Rt (.tuple #[.int .i64 (Q:Nat),.bool true]) w'))(hlg: ∀w',Calls Tryz.prog 67 #[.agg (Zc G)] w' (Rt (.tuple #[.int .i64 (G:Nat),.bool true]) w')):
  Calls Tryz.prog 49 #[.agg (paC ab n c G)] w fun e w'=>e= .returned (.agg (smC P Q G))/\Below w.heap.size w w':=by
 go_enter func49,ntmps49
 iterate 2 go_step
 refine rp ?_;refine ZX (by rfl) 64 _ rfl (_) rfl ?_;intro g1 z0 n0 r1 k;refine p_W ?_
 have b1:w.heap.size<=g1:=n0
 clear n0
 have sb:=k_b k
 clear k;refine ZN (by rfl) 37 rfl _ Og ?_;intro g2 z1 n0 r2 k;refine p_W ?_
 have d1x2:=l_l r1.lt n0
 have b2:=Nat.le_trans sb.size n0
 clear n0;replace r1:=k.ro r1;replace sb:=kk sb k;clear k;refine p_W ?_
 iterate 3 go_step
 refine rp ?_
 refine ZF (by rfl) 64 _ rfl _ 0 rfl r1.r _ (Yy _) _ underlying64 rfl Xw (p_W ?_)
 refine p_c 99 func99 #[.agg (paC ab n c G)] (hrp _ sb) ?_;intro z1001 k;refine p_W ?_;replace r1:=k.ro r1;replace r2:=k.ro r2;replace sb:=kk sb k;clear k;refine p_c 67 func67 #[.agg (Zc P)] (hlp _) ?_;intro z1002 k;refine p_W ?_;replace r1:=k.ro r1;replace r2:=k.ro r2;replace sb:=kk sb k;clear k;refine p_W ?_
 iterate 3 go_step
 refine rp ?_
 refine ZF (by rfl) 64 _ rfl _ 0 rfl r1.r _ (Yy _) _ underlying64 rfl Xw (p_W ?_)
 refine p_c 100 func100 #[.agg (paC ab n c G)] (hrq _ sb) ?_;intro z2001 k;refine p_W ?_;replace r1:=k.ro r1;replace r2:=k.ro r2;replace sb:=kk sb k;clear k;refine p_c 67 func67 #[.agg (Zc Q)] (hlq _) ?_;intro z2002 k;refine p_W ?_;replace r1:=k.ro r1;replace r2:=k.ro r2;replace sb:=kk sb k;clear k;refine p_W ?_
 iterate 3 go_step
 refine rp ?_;refine p_V _ (Zi 64 _ 1 rfl g1 0 rfl _ underlying64 _ rfl 3 sizeOf62) ?_
 refine ZF (by rfl) 62 _ rfl _ (1) rfl r1.r (Zc G) (xt _ _ _ _) _ underlying62 rfl Zb (p_W ?_)
 refine p_c 67 func67 #[.agg (Zc G)] (hlg _) ?_;intro z3002 k;refine p_W ?_;replace r1:=k.ro r1;replace r2:=k.ro r2;replace sb:=kk sb k;clear k;refine p_W ?_
 iterate 3 go_step
 refine r_p ?_;refine p_V _ (ZZ _ _ rfl [(0,.int .i64 P),(1,.int .i64 Q),(2,.int .i64 G)] rfl _ (GE _ _ _)) ?_;refine Xr (by rfl) 37 _ _ rfl _ rfl r2 (smC P Q G) rfl (by exact TV) (by rfl) (Jo _ _ _) ?_;clear r2;intro z4004 r2 k;simp only[Act.put];replace sb:=kk sb k;clear k;refine p_W ?_
 go_wp2
 exact XK rfl _ rfl r2 _ underlying37 (by exact TV) rfl ⟨rfl,sb⟩
theorem Oh (A:Nat)(w:World)(h:A<9223372036854775808):
  Calls Tryz.prog 67 #[.agg (Zc A)] w fun e w'=>e= .returned (.tuple #[.int .i64 (A:Nat),.bool true])/\Below w.heap.size w w':=by
 have:=IL A w (by omega)
 rw[show Lp A=((A:Nat):Int)from if_pos h,show Lq A=true from decide_eq_true h]at this
 exact this
theorem GH (x:Nat)(N:Nat->Nat)(A:Nat->Int)(G:Nat)(w:World)(r:Row w x (PX 3 N A) 126)(hlt: ∀i,i<3->N i<2^256)(hP:N (3-1)<9223372036854775808)(hQ:N (3-2)<9223372036854775808)(hG:G<9223372036854775808):
  Calls Tryz.prog 49 #[.agg (paC (some ⟨x,0,none⟩) 3 3 G)] w fun e w'=>e= .returned (.agg (smC (N (3-1):Nat) (N (3-2):Nat) (G:Nat)))/\Below w.heap.size w w':=
 Jq _ 3 3 _ _ G w (fun w' hb=>Ay 3 3 (some ⟨x,0,none⟩) G _ _ x 0 _ _ w' (by decide) (by decide) (Tw (r.belowAll hb) hlt)) (fun w' hb=>Az 3 3 (some ⟨x,0,none⟩) G _ _ x 0 _ _ w' (by decide) (by decide) (Tw (r.belowAll hb) hlt))
  (fun w'=>Oh _ w' hP) (fun w'=>Oh _ w' hQ) fun w'=>Oh _ w' hG
theorem yH (b:Bool):lN (pk2 b otL leL) (3-1)<4611686018427387904/\pk2 b otG leG<4611686018427387904:=by
 cases b<;>decide
theorem CN {P Q G:Nat}(h2:2<=P)(h:G^Q%P=1)(a:Nat):zY P Q (G^a%P)=true:=by
 unfold zY
 rw[decide_eq_true (Nat.mod_lt _ (by omega)),decide_eq_true (Kc h2 h a)]
 rfl
def le5:Nat:=499752131551553962