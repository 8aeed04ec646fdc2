import Derived.Test.YtcdahmommonnfaaGreatDoorJ15
namespace Go.Proofs.YtcdahmommonnfaaGreatDoor
set_option linter.all false
open Go.RowKit
open Go.Proofs.Tryz
def wtT (wh:Int):Nat:=1+(an (wh/2^1) 1).toNat
theorem HP (wh:Int): ∃b:Nat,b<2/\an (wh/2^1) 1=b/\wtT wh=1+b:=by
 obtain⟨b,h1,h2⟩:=VS (wh/2^1) 1 (by decide) 1 (by decide);exact⟨b,h1,h2,by unfold wtT;rw[h2];rfl⟩
theorem B0 (wh:Int):1<=wtT wh/\wtT wh<=2:=by
 obtain⟨b,h1,_,h3⟩:=HP wh;omega
def wvF:Nat->Nat:=ckF (ckL [118] true) 3
theorem B1 {P:Program}{fn:Func}{R:Ending->World->Prop}{a:Act}{w:World}{u1 u2 u3 u4 u5:Tmp}(hf:fn.results=#[.tmp u1,.tmp u2,.tmp u3,.tmp u4,.tmp u5])(v1 v2 v3 v4 v5:Value)(h1:a.tmps.getD u1 undef=v1)(h2:a.tmps.getD u2 undef=v2)(h3:a.tmps.getD u3 undef=v3)(h4:a.tmps.getD u4 undef=v4)(h5:a.tmps.getD u5 undef=v5)(hd:a.defers=[])
  (h:R (.returned (.tuple #[v1,v2,v3,v4,v5])) w):bodyPost P fn R .ret a w:=by
 refine bodyPost_ret (v:=.tuple #[v1,v2,v3,v4,v5]) ?_ hd h;rw[Array.getD_eq_getD_getElem?]at h1 h2 h3 h4 h5;simp[results,hf,h1,h2,h3,h4,h5,Sem.run_bind]
set_option maxRecDepth 100000 in
set_option maxHeartbeats 8000000 in
theorem Kd (wh op by' sd:Int)(nb GG PP QQ:Nat)(LK:Array Value)(w:World)(hop:upB op 1048576=true)(hbn:an by' 1023=(nb:Nat))(hnb:nb<=1023)
  (hpk: ∀w',Calls prog 11 #[.int .i64 wh] w' fun e w2=> ∃g,e= .returned (.agg (paC (some ⟨g,0,none⟩) 3 3 GG))/\w'.heap.size<=g/\Row w2 g LK 148/\Below w'.heap.size w' w2)
  (hnw: ∀w' x,Row w' x LK 148->Calls prog 10 #[.agg (paC (some ⟨x,0,none⟩) 3 3 GG)] w' fun e w2=> ∃g gr gf,e= .returned (.tuple #[.pointer (some ⟨g,0,none⟩),.int .i64 0])/\GrpAt w2 g gr gf PP QQ GG/\Below w'.heap.size w' w2)
  (hof: ∀w' x,Row w' x LK 148->Calls prog 25 #[.agg (paC (some ⟨x,0,none⟩) 3 3 GG)] w' (Rt (.agg (smC (PP:Nat) (QQ:Nat) (GG:Nat))) w'))
  (hsz: ∀w' g gr gf,GrpAt w' g gr gf PP QQ GG->RL w' (some ⟨g,0,none⟩) (3:Nat)):
  Calls prog 9 #[.agg (mkC wh 1 op [107] [118] true by' sd)] w fun e w'=> ∃p rz y g gr gf gN x tv av,e= .returned (.tuple #[.pointer (some ⟨p,0,none⟩),.pointer (some ⟨rz,0,none⟩),.pointer (some ⟨y,0,none⟩),.string ⟨(byL nb sd).toArray⟩,.bool true])/\We w' p y g gr gf gN PP QQ GG 1 wvF (byL nb sd)/\
   Row w' p (wtC 1 (.pointer (some ⟨g,0,none⟩)) (wtT wh:Nat) 1 op [107] (.slice (some ⟨gN,0,none⟩) 1 1) (fun _=> -1) (fun _=>false) 0 0 (.slice none 0 0) (.slice none 0 0)) 99/\
   Row w' rz (rwC (PP:Nat) (QQ:Nat) (GG:Nat) (some ⟨x,0,none⟩) (GG) (wtT wh:Nat) 1 op [107] [118] true tv av) 66/\w.heap.size<=p/\w.heap.size<=y/\rz≠p/\rz≠y/\Below w.heap.size w w':=by
 obtain⟨bA,hA,eA,hTA⟩:=HP wh;obtain⟨T,eT⟩: ∃b,wtT wh=b:=⟨_,rfl⟩
 rw[eT]at hTA ⊢;clear eT;have hT2:T<=2:=by omega
 have hbt:=fun w'=>Ev nb sd w' hnb
 go_enter func9,ntmps9
 have sb:=Z9 w;iterate 2 go_step
 refine rp ?_;refine ZD (by rfl) 23 _ rfl (mkC wh 1 op [107] [118] true by' sd) rfl ?_;intro g1 z0 n0 r1 k;simp only[pv];have b1:=Nat.le_trans sb.size n0;clear n0;replace sb:=kk sb k;clear k;refine p_v (.pointer none) (fun _=>rfl) ?_;refine p_v (.pointer none) (fun _=>rfl) ?_;refine p_v (.pointer none) (fun _=>rfl) ?_;simp only[pv];refine YI (by rfl) (.inr rfl) rfl ?_;refine p_v (.bool false) (fun _=>rfl) (Za ?_);simp only[pv];iterate 3 go_step
 refine rp ?_;refine p_v _ (Zb 23 _ 0 rfl g1 (0) rfl _ underlying23 _ rfl 0 sizeOf3) ?_;simp only[pv];refine p_d 0 r1.r (.int .i64 (wh)) rfl isAgg3 ?_;simp only[pv];refine p_f 11 func11 #[.int .i64 wh] (hpk _) ?_;rintro _ z1002 ⟨gL,rfl,nL,rL,hb⟩;refine⟨_,rfl,?_⟩;simp only[pv];have d1xL:=l_l r1.lt nL;have bL:=Nat.le_trans sb.size nL;clear nL;have k:=Kept.ofBelow hb;clear hb;replace r1:=k.ro r1;replace sb:=kk sb k;clear k;refine ZJ (by rfl) 41 rfl _ Uu ?_;intro g7 z1003 n0 r7 k;simp only[pv];have d1x7:=l_l r1.lt n0;have dLx7:=l_l rL.lt n0;have b7:=Nat.le_trans sb.size n0;clear n0;replace r1:=k.ro r1;replace rL:=k.ro rL;replace sb:=kk sb k;clear k;refine Z0 (by rfl) 41 _ _ rfl _ rfl r7 (paC (some ⟨gL,0,none⟩) 3 3 GG) rfl (by exact Y3) (by rfl) (S1 _ _ _ _) ?_;clear r7;intro z1004 r7 k;simp only[Act.put];replace r1:=k.ro r1;replace rL:=k.ro rL;replace sb:=kk sb k;clear k;refine Za ?_;iterate 3 go_step
 refine rp ?_;refine p_v _ (Zb 23 _ 0 rfl g1 (0) rfl _ underlying23 _ rfl 0 sizeOf3) ?_;simp only[pv];refine p_d 0 r1.r (.int .i64 (wh)) rfl isAgg3 ?_;simp only[pv];refine p_v _ (Et _ _ _ _ rfl wh 1 (wh/2^1) rfl rfl (by decide) rfl) ?_;simp only[pv];refine p_v _ (Ni _ _ _ _ rfl (wh/2^1) 1 (bA:Nat) rfl rfl eA) ?_;simp only[pv];refine p_v _ (Xi _ _ _ _ rfl 1 (bA:Nat) (T:Nat) rfl rfl (by omega) (by omega) (by omega)) ?_;refine p_a (Za ?_);simp only[pv];iterate 3 go_step
 refine rp ?_;refine Zf (by rfl) 41 _ rfl _ (0) rfl r7.r (paC (some ⟨gL,0,none⟩) 3 3 GG) (Zu _) _ underlying41 rfl Y3 ?_;simp only[pv];refine p_f 10 func10 #[.agg (paC (some ⟨gL,0,none⟩) 3 3 GG)] (hnw _ gL rL) ?_;rintro _ z3001 ⟨g,gr,gf,rfl,hG,hb⟩;refine⟨_,rfl,?_⟩;simp only[pv];replace r1:=r1.belowAll hb;replace r7:=r7.belowAll hb;replace rL:=rL.belowAll hb;replace sb:=sb.trans ((Kept.ofBelow hb).below w.heap.size sb.size (by simp));clear hb;refine p_m ?_;refine p_e ?_;refine p_e ?_;refine p_a ?_;refine p_a (Za ?_);simp only[pv];iterate 3 go_step
 refine rp ?_;refine p_m ?_;refine p_m ?_;simp only[pv];refine p_v _ (Zb 23 _ 1 rfl g1 (0) rfl _ underlying23 _ rfl 0 sizeOf3) ?_;simp only[pv];refine p_d 1 r1.r (.int .i64 (1)) rfl isAgg3 ?_;simp only[pv];refine p_v _ (Zb 23 _ 2 rfl g1 (0) rfl _ underlying23 _ rfl 0 sizeOf3) ?_;simp only[pv];refine p_d 2 r1.r (.int .i64 (op)) rfl isAgg3 ?_;simp only[pv];refine p_v _ (Zb 23 _ 3 rfl g1 (0) rfl _ underlying23 _ rfl 0 sizeOf9) ?_;simp only[pv];refine p_d 3 r1.r (.string ⟨([107]).toArray⟩) rfl isAgg9 ?_;simp only[pv];refine p_v _ (Zb 23 _ 4 rfl g1 (0) rfl _ underlying23 _ rfl 0 sizeOf9) ?_;simp only[pv];refine p_d 4 r1.r (.string ⟨([118]).toArray⟩) rfl isAgg9 ?_;simp only[pv];refine p_v _ (Zb 23 _ 5 rfl g1 (0) rfl _ underlying23 _ rfl 0 sizeOf4) ?_;simp only[pv];refine p_d 5 r1.r (.bool true) rfl isAgg4 ?_;simp only[pv];refine p_f 12 func12 #[.pointer (some ⟨g,0,none⟩),.int .i64 (T:Nat),.int .i64 1,.int .i64 op,.string ⟨[107].toArray⟩,.string ⟨[118].toArray⟩,.bool true] (Cn (some ⟨g,0,none⟩) T 1 op [107] [118] true 3 1 _ (by unfold upB;rw[decide_eq_true (by omega),decide_eq_true (by omega)];rfl) (by decide) hop (by decide) (by decide) (by decide) (by decide) (fun _=>by decide) (hsz _ g gr gf hG) (by decide)) ?_;rintro _ z4999 ⟨p,gN,rfl,hp,hgN,hNp,rp1,rN,hb⟩;refine⟨_,rfl,?_⟩;simp only[pv]
 have lts:g<p/\gr<p/\gf<p/\gL<p/\g1<p/\g7<p:=by have:=hG.row.lt;have:=hG.ring.lt;have:=hG.fld.lt;have:=r1.lt;have:=r7.lt;have:=rL.lt;omega
 have hpw:=Nat.le_trans sb.size hp;replace r1:=r1.belowAll hb;replace r7:=r7.belowAll hb;replace rL:=rL.belowAll hb;replace hG:=hG.below hb;replace sb:=sb.trans ((Kept.ofBelow hb).below w.heap.size sb.size (by simp));clear hb hp hgN;refine p_m ?_;refine p_e ?_;refine p_e ?_;refine p_a ?_;refine p_a (Za ?_);simp only[pv];iterate 3 go_step
 refine rp ?_;refine p_v _ (Zb 23 _ 6 rfl g1 (0) rfl _ underlying23 _ rfl 0 sizeOf3) ?_;simp only[pv];refine p_d 6 r1.r (.int .i64 (by')) rfl isAgg3 ?_;simp only[pv];refine p_v _ (Ni _ _ _ _ rfl by' 1023 (nb:Nat) rfl rfl hbn) ?_;simp only[pv];refine p_v _ (Zb 23 _ 7 rfl g1 (0) rfl _ underlying23 _ rfl 0 sizeOf3) ?_;simp only[pv];refine p_d 7 r1.r (.int .i64 (sd)) rfl isAgg3 ?_;simp only[pv];refine p_c 35 func35 #[.int .i64 (nb:Nat),.int .i64 sd] (hbt _) ?_;intro z5005 k;simp only[pv];replace r1:=k.ro r1;replace r7:=k.ro r7;replace rL:=k.ro rL;replace hG:=hG.below k.nil;replace rp1:=k.ro rp1;replace rN:=k.ro rN;replace sb:=kk sb k;clear k;refine p_a (Za ?_);simp only[pv];iterate 3 go_step
 refine rp ?_;refine p_m ?_;simp only[pv];refine p_f 33 func33 #[.string ⟨(byL nb sd).toArray⟩] (LF (byL nb sd) _ (by rw[QM];omega)) ?_;rintro _ z6998 ⟨y,rfl,hy,ry,hb⟩;refine⟨_,rfl,?_⟩;simp only[pv]
 have lty:g<y/\gr<y/\gf<y/\gN<y/\p<y:=by have:=hG.row.lt;have:=hG.ring.lt;have:=hG.fld.lt;have:=rp1.lt;have:=rN.lt;omega
 have hyw:=Nat.le_trans sb.size hy;replace r1:=r1.belowAll hb;replace r7:=r7.belowAll hb;replace rL:=rL.belowAll hb;replace hG:=hG.below hb;replace rp1:=rp1.belowAll hb;replace rN:=rN.belowAll hb;replace sb:=sb.trans ((Kept.ofBelow hb).below w.heap.size sb.size (by simp));clear hb hy;refine p_m ?_;refine p_e ?_;refine p_e ?_;refine p_a ?_;refine p_a (Za ?_);simp only[pv];iterate 4 go_step
 refine rp ?_;refine p_m ?_;simp only[pv];refine p_v _ (ZC .i64 _ _ _ _ rfl (0) (0) rfl rfl false (by decide)) ?_;refine p_m ?_;refine p_m ?_;simp only[pv];refine p_v _ (Y0 _ _ _ _ rfl (some ⟨p,0,none⟩) rfl rfl To) ?_;refine p_k false (.bool false) (Za ?_);simp only[pv];iterate 7 go_step
 refine rp ?_;refine p_m ?_;simp only[pv];refine Zf (by rfl) 41 _ rfl _ (0) rfl r7.r (paC (some ⟨gL,0,none⟩) 3 3 GG) (Zu _) _ underlying41 rfl Y3 ?_;refine p_m ?_;simp only[pv];refine p_v _ (Zb 23 _ 1 rfl g1 (0) rfl _ underlying23 _ rfl 0 sizeOf3) ?_;simp only[pv];refine p_d 1 r1.r (.int .i64 (1)) rfl isAgg3 ?_;simp only[pv];refine p_v _ (Zb 23 _ 2 rfl g1 (0) rfl _ underlying23 _ rfl 0 sizeOf3) ?_;simp only[pv];refine p_d 2 r1.r (.int .i64 (op)) rfl isAgg3 ?_;simp only[pv];refine p_v _ (Zb 23 _ 3 rfl g1 (0) rfl _ underlying23 _ rfl 0 sizeOf9) ?_;simp only[pv];refine p_d 3 r1.r (.string ⟨([107]).toArray⟩) rfl isAgg9 ?_;simp only[pv];refine p_v _ (Zb 23 _ 4 rfl g1 (0) rfl _ underlying23 _ rfl 0 sizeOf9) ?_;simp only[pv];refine p_d 4 r1.r (.string ⟨([118]).toArray⟩) rfl isAgg9 ?_;simp only[pv];refine p_v _ (Zb 23 _ 5 rfl g1 (0) rfl _ underlying23 _ rfl 0 sizeOf4) ?_;simp only[pv];refine p_d 5 r1.r (.bool true) rfl isAgg4 ?_;simp only[pv];refine p_f 36 func36 #[.agg (paC (some ⟨gL,0,none⟩) 3 3 GG),.int .i64 (T:Nat),.int .i64 1,.int .i64 op,.string ⟨[107].toArray⟩,.string ⟨[118].toArray⟩,.bool true] (Kc gL PP QQ GG T 1 op [107] [118] true _ hT2 (fun w' hb=>hof w' gL (rL.belowAll hb))) ?_;rintro _ z9998 ⟨rz,tv,av,rfl,hrp,rr,hb⟩;refine⟨_,rfl,?_⟩;simp only[pv]
 have ltr:p<rz/\y<rz:=by have:=rp1.lt;have:=ry.lt;omega
 replace hG:=hG.below hb;replace rp1:=rp1.belowAll hb;replace rN:=rN.belowAll hb;replace ry:=ry.belowAll hb;replace sb:=sb.trans ((Kept.ofBelow hb).below w.heap.size sb.size (by simp));clear hb hrp;refine p_m ?_;refine p_m ?_;refine p_a ?_;refine p_a ?_;refine p_a ?_;simp only[pv];refine p_a ?_;refine p_v (.bool true) (fun _=>rfl) (Za ?_);simp only[pv];go_wp2;have hlp:=rp1.lt;refine B1 rfl _ _ _ _ _ rfl rfl rfl rfl rfl rfl ?_;exact⟨_,_,_,g,gr,gf,gN,gL,tv,av,rfl,⟨hG,rN,ry,⟨by omega,by omega,by omega,by omega,by omega⟩,⟨by omega,by omega,by omega,by omega⟩,hlp⟩,rp1,rr,hpw,hyw,by omega,by omega,sb⟩
theorem AW (b:Bool):S3 (lN (pk2 b otL leL) (3-2))=(3:Nat):=by cases b<;>decide
theorem P6 (wh op by' sd:Int)(nb:Nat)(w:World)(hop:upB op 1048576=true)(hbn:an by' 1023=(nb:Nat))(hnb:nb<=1023):
  Calls prog 9 #[.agg (mkC wh 1 op [107] [118] true by' sd)] w fun e w'=> ∃p rz y g gr gf gN x tv av,e= .returned (.tuple #[.pointer (some ⟨p,0,none⟩),.pointer (some ⟨rz,0,none⟩),.pointer (some ⟨y,0,none⟩),.string ⟨(byL nb sd).toArray⟩,.bool true])/\We w' p y g gr gf gN (smP wh) (smQ wh) (smG wh) 1 wvF (byL nb sd)/\
   Row w' p (wtC 1 (.pointer (some ⟨g,0,none⟩)) (wtT wh:Nat) 1 op [107] (.slice (some ⟨gN,0,none⟩) 1 1) (fun _=> -1) (fun _=>false) 0 0 (.slice none 0 0) (.slice none 0 0)) 99/\
   Row w' rz (rwC ((smP wh):Nat) ((smQ wh):Nat) ((smG wh):Nat) (some ⟨x,0,none⟩) ((smG wh)) (wtT wh:Nat) 1 op [107] [118] true tv av) 66/\w.heap.size<=p/\w.heap.size<=y/\rz≠p/\rz≠y/\Below w.heap.size w w':=by
 obtain⟨his,hlt,hG,hq62⟩:=Hj (pkB wh);obtain⟨hp62,hg62⟩:=DQ (pkB wh);exact Kd wh op by' sd nb (smG wh) (smP wh) (smQ wh) (RK 3 (lN (pk2 (pkB wh) otL leL)) SY) w hop hbn hnb (MO wh) (fun w' x r=>Ps 3 3 (some ⟨x,0,none⟩) (pk2 (pkB wh) otG leG) _ _ x 0 _ _ w' (by decide) hG (Vp r hlt) his) (fun w' x r=>J3 x _ _ (pk2 (pkB wh) otG leG) w' r hlt (Nat.lt_trans hp62 (by decide)) (Nat.lt_trans hq62 (by decide)) (Nat.lt_trans hg62 (by decide))) (fun w' g gr gf h=>(AW (pkB wh))▸h.kn.sz (Nat.lt_trans hq62 (by decide)))
theorem Ke (wh:Int):GF (smP wh) (smQ wh) (smG wh)/\smP wh<2^256/\smQ wh<2^256/\ ∀i,i<1->wvF i<smQ wh:=by
 obtain⟨his,hlt,hG,hq62⟩:=Hj (pkB wh);obtain⟨hp62,hg62⟩:=DQ (pkB wh);refine⟨BF his hlt,Nat.lt_trans hp62 (by decide),Nat.lt_trans hq62 (by decide),fun i _=>Nat.lt_of_lt_of_le (Cj _ 3 i) ?_⟩;unfold smQ
 cases pkB wh<;>decide
end Go.Proofs.YtcdahmommonnfaaGreatDoor
namespace Go.Proofs.YtcdahmommonnfaaGreatDoor
open Go.RowKit Go.Proofs.Tryz
structure Wc where
 p:Nat
 y:Nat
 g:Nat
 gr:Nat
 gf:Nat
 gN:Nat
 P:Nat
 Q:Nat
 G:Nat
 N:Nat
 F:Nat->Nat
 T:Nat
 cl:Int
 op:Int
 key:List UInt8
def Wc.cs (c:Wc)(a:Int)(tl:Nat->Int)(an:Nat->Bool)(sq sc:Int)(mx ps:Value):Array Value:=wtC a (.pointer (some ⟨c.g,0,none⟩)) (c.T:Nat) c.cl c.op c.key (.slice (some ⟨c.gN,0,none⟩) c.N c.N) tl an sq sc mx ps
structure Wc.Ok (c:Wc):Prop where
 f:GF c.P c.Q c.G
 hP:c.P<2^256
 hQ:c.Q<2^256
 hF: ∀i,i<c.N->c.F i<c.Q
 n1:1<=c.N
 n2:c.N<=25
 t1:1<=c.T
 t2:c.T<=2
 hcl:clB c.cl=true
 hk:c.key.length<=16777216
def Wc.E (c:Wc)(w:World)(s:List UInt8):Prop:=We w c.p c.y c.g c.gr c.gf c.gN c.P c.Q c.G c.N c.F s
structure Wc.A (c:Wc)(w:World)(s:List UInt8)(tl:Nat->Int):Prop where
 e:c.E w s
 r:Row w c.p (c.cs 1 tl (fun _=>false) 0 0 (.slice none 0 0) (.slice none 0 0)) 99
structure Wc.B (c:Wc)(w:World)(s:List UInt8)(sq:Int)(an:Nat->Bool):Prop where
 e:c.E w s
 x: ∃tl base gM gT R Y M S,base<=w.heap.size/\c.p<base/\c.y<base/\Row w c.p (c.cs 2 tl an sq c.cl (.slice (some ⟨gM,0,none⟩) c.N c.N) (.slice (some ⟨gT,0,none⟩) (3*c.T+1) (3*c.T+1))) 99/\GvX w base c.N c.T gM gT R Y M S
structure Wc.D (c:Wc)(w:World)(s:List UInt8)(sq sc:Int):Prop where
 e:c.E w s
 x: ∃tl an mx ps,Row w c.p (c.cs 3 tl an sq sc mx ps) 99
variable {c:Wc}{w:World}{s:List UInt8}{tl:Nat->Int}
theorem Wc.A.below {w2:World}(h:c.A w s tl)(hb:Below w.heap.size w w2):c.A w2 s tl:=⟨h.e.below hb,h.r.belowAll hb⟩
theorem Wc.B.below {w2:World}{sq:Int}{an:Nat->Bool}(h:c.B w s sq an)(hb:Below w.heap.size w w2):c.B w2 s sq an:=by
 obtain⟨tl,base,gM,gT,R,Y,M,S,h1,h2,h3,h4,h5⟩:=h.x;exact⟨h.e.below hb,tl,base,gM,gT,R,Y,M,S,Nat.le_trans h1 hb.size,h2,h3,h4.belowAll hb,h5.below hb⟩
theorem Wc.D.below {w2:World}{sq sc:Int}(h:c.D w s sq sc)(hb:Below w.heap.size w w2):c.D w2 s sq sc:=by
 obtain⟨tl,an,mx,ps,h1⟩:=h.x;exact⟨h.e.below hb,tl,an,mx,ps,h1.belowAll hb⟩
def Kf (c:Wc)(kd q qc:Int)(dg:List UInt8):Value:=.agg (msC kd c.op c.key q qc dg none 0 0 none 0 0)
def Wc.step (c:Wc)(i:Nat)(m:Value)(w:World)(R:Ending->World->Prop):Prop:=
 Calls prog 18 #[.pointer (some ⟨c.p,0,none⟩),.int .i64 ((i+1:Nat):Int),m,.pointer (some ⟨c.y,0,none⟩)] w R
theorem Kg (o:c.Ok)(h:c.A w s tl)(i:Nat)(hi:i<3*c.T+1)(q qc:Int)(dg:List UInt8)(hm:Tp 3 c.op c.key q qc dg=true)(hq: -9223372036854775808<=q)(hvb:voB (c.T:Nat) (3*c.T+1) (Yk tl i q)=false):
  c.step i (Kf c 3 q qc dg) w fun e w'=>e= .returned (.tuple #[.slice none 0 0,.bool false,.int .i64 0])/\c.A w' s (Yk tl i q)/\Kept [c.p] w w':=by
 refine(Sh c.p i 1 (some ⟨c.g,0,none⟩) c.T c.cl c.op c.key (.slice (some ⟨c.gN,0,none⟩) c.N c.N) tl (fun _=>false) 0 0 (.slice none 0 0) (.slice none 0 0) 3 q qc dg (.pointer (some ⟨c.y,0,none⟩)) (fun v1 v2 v3 w2=>v1= .slice none 0 0/\v2= .bool false/\v3= .int .i64 0/\c.A w2 s (Yk tl i q)/\Kept [c.p] w w2) w h.r o.t2 hi (by decide) o.hk hm rfl rfl (fun w' hb=>?_)).mono ?_
 ·refine(BQ c.p c.y c.g c.gr c.gf c.gN c.P c.Q c.G c.N c.T c.F s c.cl c.op c.key tl (fun _=>false) i q w' (h.e.below hb) (h.r.belowAll hb) o.f o.hP o.hQ o.hF o.n1 o.n2 o.t1 o.t2 hi o.hcl hq hvb).mono ?_;rintro e w2 ⟨he,h1,h2,h3⟩;exact⟨_,_,_,he,rfl,rfl,rfl,⟨h2,h1⟩,((Kept.ofBelow hb).more (S:=[]) (T:=[c.p]) (by simp)).trans h3 (fun b hb=>.inl hb)⟩
 ·rintro e w2 ⟨v1,v2,v3,he,rfl,rfl,rfl,h1,h2⟩;exact⟨he,h1,h2⟩
theorem Cy (o:c.Ok)(h:c.A w s tl)(i:Nat)(hi:i<3*c.T+1)(q qc:Int)(dg:List UInt8)(hm:Tp 3 c.op c.key q qc dg=true)(hq: -9223372036854775808<=q)(hvb:voB (c.T:Nat) (3*c.T+1) (Yk tl i q)=true)(hv:0<=voV (c.T:Nat) (3*c.T+1) (Yk tl i q))(hv2:voV (c.T:Nat) (3*c.T+1) (Yk tl i q)<1099511627776)(hd:dst c.Q s (c.T*c.N)=none):
  c.step i (Kf c 3 q qc dg) w fun e w'=> ∃vo,e= .returned (.tuple #[vo,.bool true,.int .i64 5])/\c.D w' s 0 0/\Kept [c.p,c.y] w w':=by
 refine(Sh c.p i 1 (some ⟨c.g,0,none⟩) c.T c.cl c.op c.key (.slice (some ⟨c.gN,0,none⟩) c.N c.N) tl (fun _=>false) 0 0 (.slice none 0 0) (.slice none 0 0) 3 q qc dg (.pointer (some ⟨c.y,0,none⟩)) (fun v1 v2 v3 w2=>v2= .bool true/\v3= .int .i64 5/\c.D w2 s 0 0/\Kept [c.p,c.y] w w2) w h.r o.t2 hi (by decide) o.hk hm rfl rfl (fun w' hb=>?_)).mono ?_
 ·refine(BR c.p c.y c.g c.gr c.gf c.gN c.P c.Q c.G c.N c.T c.F s c.cl c.op c.key tl (fun _=>false) i q w' (h.e.below hb) (h.r.belowAll hb) o.f o.hP o.hQ o.hF o.n1 o.n2 o.t1 o.t2 hi o.hcl hq hvb hv hv2 hd).mono ?_;rintro e w2 ⟨vo,he,h1,h2,h3⟩;exact⟨_,_,_,he,rfl,rfl,⟨h2,_,_,_,_,h1⟩,((Kept.ofBelow hb).more (S:=[]) (T:=[c.p,c.y]) (by simp)).trans h3 (fun b hb=>.inl hb)⟩
 ·rintro e w2 ⟨v1,v2,v3,he,rfl,rfl,h1,h2⟩;exact⟨_,he,h1,h2⟩
theorem HU (o:c.Ok)(h:c.A w s tl)(i:Nat)(hi:i<3*c.T+1)(q qc:Int)(dg:List UInt8)(hm:Tp 3 c.op c.key q qc dg=true)(hq: -9223372036854775808<=q)(hvb:voB (c.T:Nat) (3*c.T+1) (Yk tl i q)=true)(hv:0<=voV (c.T:Nat) (3*c.T+1) (Yk tl i q))(hv2:voV (c.T:Nat) (3*c.T+1) (Yk tl i q)<1099511627776)(s':List UInt8)(hd:dst c.Q s (c.T*c.N)=some s'):
  c.step i (Kf c 3 q qc dg) w fun e w'=> ∃gO,e= .returned (.tuple #[.slice (some ⟨gO,0,none⟩) (3*c.T+1) (3*c.T+1),.bool false,.int .i64 0])/\Vy w' w.heap.size (3*c.T+1) 4 c.op c.key gO/\c.B w' s' (voV (c.T:Nat) (3*c.T+1) (Yk tl i q)+1) (fun _=>false)/\Kept [c.p,c.y] w w':=by
 refine(Sh c.p i 1 (some ⟨c.g,0,none⟩) c.T c.cl c.op c.key (.slice (some ⟨c.gN,0,none⟩) c.N c.N) tl (fun _=>false) 0 0 (.slice none 0 0) (.slice none 0 0) 3 q qc dg (.pointer (some ⟨c.y,0,none⟩)) (fun v1 v2 v3 w2=> ∃gO,v1= .slice (some ⟨gO,0,none⟩) (3*c.T+1) (3*c.T+1)/\v2= .bool false/\v3= .int .i64 0/\Vy w2 w.heap.size (3*c.T+1) 4 c.op c.key gO/\c.B w2 s' (voV (c.T:Nat) (3*c.T+1) (Yk tl i q)+1) (fun _=>false)/\Kept [c.p,c.y] w w2) w h.r o.t2 hi (by decide) o.hk hm rfl rfl (fun w' hb=>?_)).mono ?_
 ·have he':=h.e.below hb;refine(BS c.p c.y c.g c.gr c.gf c.gN c.P c.Q c.G c.N c.T c.F s c.cl c.op c.key tl (fun _=>false) i q s' w' he' (h.r.belowAll hb) o.f o.hP o.hQ o.hF o.n1 o.n2 o.t1 o.t2 hi o.hcl hq hvb hv hv2 hd).mono ?_;rintro e w2 ⟨gO,m,gM,gT,R,Y,M,S,he,hm2,h1,hG,h2,h3,h4⟩;have e1:m=3*c.T+1:=hm2.trans (P3 fun _ _=>rfl);subst e1;exact⟨_,_,_,he,gO,rfl,rfl,rfl,(h4 fun _ _=>rfl).down hb.size,⟨h2,Yk tl i q,w'.heap.size,gM,gT,R,Y,M,S,h3.size,he'.lp,he'.ry.lt,h1,hG⟩,((Kept.ofBelow hb).more (S:=[]) (T:=[c.p,c.y]) (by simp)).trans h3 (fun b hb=>.inl hb)⟩
 ·rintro e w2 ⟨v1,v2,v3,he,gO,rfl,rfl,rfl,h1,h2,h3⟩;exact⟨gO,he,h1,h2,h3⟩
theorem Cz (o:c.Ok){sq:Int}{an:Nat->Bool}(h:c.B w s sq an)(i:Nat)(hi:i<3*c.T+1)(hm:Tp 7 c.op c.key sq c.cl []=true)(hn:cnT (Vf an i) 7<2*c.T+1):
  c.step i (Kf c 7 sq c.cl []) w fun e w'=>e= .returned (.tuple #[.slice none 0 0,.bool false,.int .i64 0])/\c.B w' s sq (Vf an i)/\Kept [c.p] w w':=by
 obtain⟨tl,base,gM,gT,R,Y,M,S,h1,h2,h3,h4,h5⟩:=h.x;refine(L5 c.p i 2 (some ⟨c.g,0,none⟩) c.T c.cl c.op c.key (.slice (some ⟨c.gN,0,none⟩) c.N c.N) tl an sq c.cl _ _ 7 sq c.cl [] (.pointer (some ⟨c.y,0,none⟩)) (fun v1 v2 v3 w2=>v1= .slice none 0 0/\v2= .bool false/\v3= .int .i64 0/\c.B w2 s sq (Vf an i)/\Kept [c.p] w w2) w h4 o.t2 hi (by decide) o.hk hm rfl rfl rfl rfl (fun w' hb=>?_)).mono ?_
 ·refine(Cf c.p 2 (some ⟨c.g,0,none⟩) c.T c.cl c.op c.key _ tl an sq c.cl _ _ i w' (h4.belowAll hb) o.t2 hi hn).mono ?_;rintro e w2 ⟨he,r,k⟩;refine⟨_,_,_,he,rfl,rfl,rfl,⟨(h.e.below hb).on k (by simp),tl,base,gM,gT,R,Y,M,S,Nat.le_trans h1 (Nat.le_trans hb.size k.size),h2,h3,r,(h5.below hb).on k (fun b hb _=>by simp at hb;omega)⟩,((Kept.ofBelow hb).more (S:=[]) (T:=[c.p]) (by simp)).trans k (fun b hb=>.inl hb)⟩
 ·rintro e w2 ⟨v1,v2,v3,he,rfl,rfl,rfl,x1,x2⟩;exact⟨he,x1,x2⟩
theorem CA (o:c.Ok){sq:Int}{an:Nat->Bool}(h:c.B w s sq an)(i:Nat)(hi:i<3*c.T+1)(hm:Tp 7 c.op c.key sq c.cl []=true)(hn:2*c.T+1<=cnT (Vf an i) 7):
  c.step i (Kf c 7 sq c.cl []) w fun e w'=> ∃vo,e= .returned (.tuple #[vo,.bool true,.int .i64 0])/\c.D w' s sq c.cl/\Kept [c.p] w w':=by
 obtain⟨tl,base,gM,gT,R,Y,M,S,h1,h2,h3,h4,h5⟩:=h.x;refine(L5 c.p i 2 (some ⟨c.g,0,none⟩) c.T c.cl c.op c.key (.slice (some ⟨c.gN,0,none⟩) c.N c.N) tl an sq c.cl _ _ 7 sq c.cl [] (.pointer (some ⟨c.y,0,none⟩)) (fun v1 v2 v3 w2=>v2= .bool true/\v3= .int .i64 0/\c.D w2 s sq c.cl/\Kept [c.p] w w2) w h4 o.t2 hi (by decide) o.hk hm rfl rfl rfl rfl (fun w' hb=>?_)).mono ?_
 ·refine(Eg c.p 2 (some ⟨c.g,0,none⟩) c.T c.cl c.op c.key _ tl an sq c.cl _ _ i w' (h4.belowAll hb) o.t2 hi hn).mono ?_;rintro e w2 ⟨vo,he,r,k⟩;exact⟨_,_,_,he,rfl,rfl,⟨(h.e.below hb).on k (by simp),_,_,_,_,r⟩,((Kept.ofBelow hb).more (S:=[]) (T:=[c.p]) (by simp)).trans k (fun b hb=>.inl hb)⟩
 ·rintro e w2 ⟨v1,v2,v3,he,rfl,rfl,x1,x2⟩;exact⟨_,he,x1,x2⟩
def Aw (e:Ending)(w w':World):Prop:=e= .returned (.tuple #[.slice none 0 0,.bool false,.int .i64 0])/\Below w.heap.size w w'
theorem Ex (o:c.Ok){sq:Int}{an:Nat->Bool}(h:c.B w s sq an)(i:Nat)(hi:i<3*c.T+1)(q qc:Int)(dg:List UInt8)(hm:Tp 3 c.op c.key q qc dg=true):c.step i (Kf c 3 q qc dg) w fun e w'=>Aw e w w':=by
 obtain⟨tl,base,gM,gT,R,Y,M,S,h1,h2,h3,h4,h5⟩:=h.x;exact Ep c.p i 2 (some ⟨c.g,0,none⟩) c.T c.cl c.op c.key _ tl an sq c.cl _ _ 3 q qc dg _ w h4 o.t2 hi (by decide) o.hk hm rfl rfl
theorem Kh (o:c.Ok){sq sc:Int}(h:c.D w s sq sc)(i:Nat)(hi:i<3*c.T+1)(kd q qc:Int)(dg:List UInt8)(hm:Tp kd c.op c.key q qc dg=true):c.step i (Kf c kd q qc dg) w fun e w'=>Aw e w w':=by
 obtain⟨tl,an,mx,ps,h1⟩:=h.x;exact Er c.p i 3 (some ⟨c.g,0,none⟩) c.T c.cl c.op c.key _ tl an sq sc _ _ kd q qc dg _ w h1 o.t2 hi (by decide) o.hk hm rfl
theorem Ey (h:c.A w s tl):Calls prog 20 #[.pointer (some ⟨c.p,0,none⟩)] w (Rt (.tuple #[.agg (tsC 0 0),.bool false]) w):=
 QL c.p 1 (some ⟨c.g,0,none⟩) c.T c.cl c.op c.key _ tl _ 0 0 _ _ w h.r (by decide)
theorem Ki {sq:Int}{an:Nat->Bool}(h:c.B w s sq an)(hs:stB sq c.cl=true):Calls prog 20 #[.pointer (some ⟨c.p,0,none⟩)] w (Rt (.tuple #[.agg (tsC sq c.cl),.bool true]) w):=by
 obtain⟨tl,base,gM,gT,R,Y,M,S,h1,h2,h3,h4,h5⟩:=h.x;have:=QL c.p 2 (some ⟨c.g,0,none⟩) c.T c.cl c.op c.key _ tl an sq c.cl _ _ w h4 (by decide)
 rwa [hs]at this
theorem Ez (h:c.D w s 0 0):Calls prog 20 #[.pointer (some ⟨c.p,0,none⟩)] w (Rt (.tuple #[.agg (tsC 0 0),.bool false]) w):=by
 obtain⟨tl,an,mx,ps,h1⟩:=h.x;exact QL c.p 3 (some ⟨c.g,0,none⟩) c.T c.cl c.op c.key _ tl an 0 0 _ _ w h1 (by decide)
theorem HY (o:c.Ok){sq:Int}{an:Nat->Bool}(h:c.B w s sq an):Calls prog 22 #[.pointer (some ⟨c.p,0,none⟩)] w fun e w'=> ∃m,(∃g,e= .returned (.slice (some ⟨g,0,none⟩) m (3*c.T+1)))/\m=cnF an (3*c.T+1)/\Below w.heap.size w w':=by
 obtain⟨tl,base,gM,gT,R,Y,M,S,h1,h2,h3,h4,h5⟩:=h.x;exact BZ c.p 2 (some ⟨c.g,0,none⟩) c.T c.cl c.op c.key _ tl an sq c.cl gM gT c.N w h4 h5 o.t2 (by have:=o.n2;omega) rfl
theorem CB {sq sc:Int}(h:c.D w s sq sc):Calls prog 22 #[.pointer (some ⟨c.p,0,none⟩)] w (Rt (.slice none 0 0) w):=by
 obtain⟨tl,an,mx,ps,h1⟩:=h.x;exact BY c.p 3 (some ⟨c.g,0,none⟩) c.T c.cl c.op c.key _ tl an sq sc _ _ w h1 rfl
end Go.Proofs.YtcdahmommonnfaaGreatDoor
