/- MatrixRecovers: for every number, matrix and parts: of up to 5 rows of few numbers and up to 8 parts of up to 6 shares, in a small group, by any number of liars, what is recovered, or why nothing is, is as the document says; no condition. -/
import Derived.Test.YtnagnkhbamhfmaaGreatDoorME
set_option maxRecDepth 100000
set_option maxHeartbeats 8000000
namespace Go.Proofs.YtnagnkhbamhfmaaGreatDoor
set_option linter.all false
open Go.ChangeShapes Go.WideShapes Go.ChangeAt Go.RowKit
open Go.Proofs.Tryz
namespace qP
theorem Ge:prog.underlying 45=some (.slice (prog.elem 45)):=by kernel_rfl
section
variable {P:Program}{o:Oper}{ρ:Operand->Value}
theorem vG (t:TypeId)(x y:Operand)(u:TypeId)(ho:o.op= .binOp .and t x y u)(n m r:Int)(hx:ρ x= .int .i64 n)(hy:ρ y= .int .i64 m)(hr:bits .and .i64 n m=r)(w:World):
  (execOp ρ o).run P w= .ok (.value (.int .i64 r)) w:=by
 subst hr;unfold execOp;simp only[ho,hx,hy];simp[go_sem]
theorem vH (t:TypeId)(x y:Operand)(u:TypeId)(ho:o.op= .binOp .shr t x y u)(n:Int)(s:Nat)(hx:ρ x= .int .i64 n)(hy:ρ y= .int .u64 (s:Nat))(hs:s<64)(w:World):
  (execOp ρ o).run P w= .ok (.value (.int .i64 (n/2^s))) w:=by
 unfold execOp;simp only[ho,hx,hy];simp[go_sem]
end
theorem an3 (t:Int): ∃b:Nat,b<=3/\bits .and .i64 t 3=b:=by
 have h:(BitVec.ofInt 64 t&&&BitVec.ofInt 64 3).toNat<=3:=by
  rw[BitVec.toNat_and,show(BitVec.ofInt 64 3).toNat=2^2-1 by decide,cJ0];omega
 refine⟨(BitVec.ofInt 64 t&&&BitVec.ofInt 64 3).toNat,h,?_⟩;show IntKind.i64.wrap ((BitVec.ofInt 64 t&&&BitVec.ofInt 64 3).toNat:Int)=_
 exact Vu _ (by omega) (by omega)
/-- Rows of naturals; rows of ints. -/
def PF (w:World)(S:Nat->Value)(n K:Nat)(V:Nat->Nat->Nat):Prop:= ∀i,i<n->SA w (S i) K (V i)
theorem PF.below {w w2:World}{S:Nat->Value}{n K:Nat}{V:Nat->Nat->Nat}(h:PF w S n K V)(hb:Below w.heap.size w w2):PF w2 S n K V:=fun i hi=>(h i hi).below hb
def QF (w:World)(S:Nat->Value)(n K:Nat)(V:Nat->Nat->Nat):Prop:= ∀i,i<n-> ∃ai ci gi bi,S i= .slice ai K ci/\NumsAt w ai K (V i) gi 0 bi 3
theorem QF.below {w w2:World}{S:Nat->Value}{n K:Nat}{V:Nat->Nat->Nat}(h:QF w S n K V)(hb:Below w.heap.size w w2):QF w2 S n K V:=fun i hi=>by
 obtain⟨ai,ci,gi,bi,e,h1⟩:=h i hi;exact⟨ai,ci,gi,bi,e,h1.below hb⟩
theorem zw {K:Nat}{u:Nat->Nat}(hK:K<=3)(hu: ∀j,u j<4611686018427387904){v:Value}{w:World}(h: ∃ai ci gi bi,v= .slice ai K ci/\NumsAt w ai K u gi 0 bi 3):
  Calls prog 18 #[v] w fun e w'=> ∃v',e= .returned v'/\SA w' v' K u/\Below w.heap.size w w':=by
 obtain⟨ai,ci,gi,bi,rfl,hn⟩:=h;refine(IK ai K ci u gi 0 bi _ w (by omega) (fun j=>by have:=hu j;omega) hn).mono ?_;rintro e w' ⟨v',rfl,hO,hb⟩;obtain⟨ab,c,rfl⟩:=Wv hO;obtain⟨_,gb,cur,hn2⟩:=T7 hO (fun j _=>E_ (hu j) (by decide));exact⟨_,rfl,⟨ab,c,gb,0,cur,_,rfl,hn2⟩,hb⟩
theorem zx {K:Nat}{u:Nat->Nat}(hK:K<=3){v1 v2:Value}{w:World}(h1:SA w v1 K u)(h2:SA w v2 K u):
  Calls prog 17 #[v1,v2] w (Rt (.bool true) w):=by
 obtain⟨a1,c1,g1,o1,b1,t1,rfl,n1⟩:=h1;obtain⟨a2,c2,g2,o2,b2,t2,rfl,n2⟩:=h2;exact Uw K c1 c2 a1 a2 u g1 o1 g2 o2 b1 b2 t1 t2 w (by omega) n1 n2
theorem xQ (a0:Int)(ab al:Option Addr)(n c q cl:Nat)(w:World)(kT:KT w)(b:Bool)
  (hfw: ∀w',Below w.heap.size w w'->Calls prog 13 #[.slice ab n c,.int .i64 5] w' (Rt (.bool b) w'))
  (hfp:b=true-> ∀w',Below w.heap.size w w'->Calls prog 14 #[.slice al q cl,.int .i64 8,.int .i64 6] w' (Rt (.bool false) w')):
  Calls prog 4 #[.int .i64 a0,.slice ab n c,.slice al q cl] w fun e w'=>e= .returned (.bool true)/\Below w.heap.size w w':=by
 have haw:=fun w' (hb:Below w.heap.size w w')=>Sw w' (kT.below hb)
 cases b
 ·clear hfp
  go_enter func4,ntmps4
  have sb:=YF w;iterate 2 go_step
  refine rp ?_;refine p_V (.bool false) (fun _=>rfl) ?_;iterate 4 go_step
  refine r_p ?_;refine p_c 13 func13 #[.slice ab n c,.int .i64 5] (hfw _ sb) ?_;intro z1001 k;refine p_W ?_;replace sb:=kk sb k;clear k;refine p_V _ (Zs _ _ rfl false rfl) ?_;refine p_K true (.bool true) ?_;iterate 4 go_step
  refine rp ?_;refine p_c 7 func7 #[] (haw _ sb) ?_;intro z2000 k;refine p_W ?_;replace sb:=kk sb k;clear k;refine p_W ?_;go_wp2;go_ret;exact⟨rfl,sb⟩
 ·replace hfp:=hfp rfl
  go_enter func4,ntmps4
  have sb:=YF w;iterate 2 go_step
  refine rp ?_;refine p_V (.bool false) (fun _=>rfl) ?_;iterate 4 go_step
  refine r_p ?_;refine p_c 13 func13 #[.slice ab n c,.int .i64 5] (hfw _ sb) ?_;intro z1001 k;refine p_W ?_;replace sb:=kk sb k;clear k;refine p_V _ (Zs _ _ rfl true rfl) ?_;refine p_c 14 func14 #[.slice al q cl,.int .i64 8,.int .i64 6] (hfp _ sb) ?_;intro z1005 k;refine p_W ?_;replace sb:=kk sb k;clear k;refine p_V _ (Zs _ _ rfl false rfl) ?_;refine p_K false (.bool true) ?_;iterate 4 go_step
  refine rp ?_;refine p_c 7 func7 #[] (haw _ sb) ?_;intro z2000 k;refine p_W ?_;replace sb:=kk sb k;clear k;refine p_W ?_;go_wp2;go_ret;exact⟨rfl,sb⟩
theorem xR (a0:Int)(PP QQ GG t m K:Nat)(z:Int)(V:Nat->Nat->Nat)(ab al:Option Addr)(n c q cl:Nat)(w:World)(kT:KT w)(hm:m<=100)(hK:K<=3)(hV: ∀i j,i<m->V i j<4611686018427387904)(ht:bits .and .i64 (a0/2^1) 3=((t:Nat):Int))
  (hfw: ∀w',Below w.heap.size w w'->Calls prog 13 #[.slice ab n c,.int .i64 5] w' (Rt (.bool true) w'))
  (hfp: ∀w',Below w.heap.size w w'->Calls prog 14 #[.slice al q cl,.int .i64 8,.int .i64 6] w' (Rt (.bool true) w'))
  (hsm: ∀w',Calls prog 8 #[.int .i64 a0] w' fun e w2=> ∃g gr gf,e= .returned (.tuple #[.pointer (some ⟨g,0,none⟩),.agg (smC (PP:Nat) (QQ:Nat) (GG:Nat)),.bool true])/\GrpAt w2 g gr gf PP QQ GG/\Below w'.heap.size w' w2)
  (hp: ∀w' g gr gf,Below w.heap.size w w'->GrpAt w' g gr gf PP QQ GG->Calls prog 15 #[.pointer (some ⟨g,0,none⟩),.int .i64 (t:Nat),.slice ab n c,.slice al q cl] w' fun e w2=> ∃aA cA S1 ga oa csa ta,e= .returned (.tuple #[.slice aA m cA,.int .i64 z])/\VsAt w2 aA m S1 ga oa csa ta/\PF w2 S1 m K V/\Below w'.heap.size w' w2)
  (hd: ∀w',Below w.heap.size w w'->Calls prog 16 #[.agg (smC (PP:Nat) (QQ:Nat) (GG:Nat)),.int .i64 (t:Nat),.slice ab n c,.slice al q cl] w' fun e w2=> ∃aB cB S2 g2 o2 cs2 t2,e= .returned (.tuple #[.slice aB m cB,.int .i64 z])/\VsAt w2 aB m S2 g2 o2 cs2 t2/\QF w2 S2 m K V/\Below w'.heap.size w' w2):
  Calls prog 4 #[.int .i64 a0,.slice ab n c,.slice al q cl] w fun e w'=>e= .returned (.bool true)/\Below w.heap.size w w':=by
 have haw:=fun w' (hb:Below w.heap.size w w')=>Sw w' (kT.below hb)
 clear kT
 go_enter func4,ntmps4
 have sb:=YF w;iterate 2 go_step
 refine rp ?_;refine p_V (.bool false) (fun _=>rfl) ?_;iterate 4 go_step
 refine r_p ?_;refine p_c 13 func13 #[.slice ab n c,.int .i64 5] (hfw _ sb) ?_;intro z1001 k;refine p_W ?_;replace sb:=kk sb k;clear k;refine p_V _ (Zs _ _ rfl true rfl) ?_;refine p_c 14 func14 #[.slice al q cl,.int .i64 8,.int .i64 6] (hfp _ sb) ?_;intro z1005 k;refine p_W ?_;replace sb:=kk sb k;clear k;refine p_V _ (Zs _ _ rfl true rfl) ?_;refine p_K false (.bool false) ?_;iterate 7 go_step
 refine r_p ?_;refine p_f 8 func8 #[.int .i64 a0] (hsm _) ?_;rintro _ z3001 ⟨g,gr,gf,rfl,⟨rG,rR,rF⟩,hb⟩;refine⟨_,rfl,?_⟩;refine p_W ?_;have k:=Kept.ofBelow hb;clear hb;replace sb:=kk sb k;clear k;refine p_W ?_;refine ZU (by rfl) 27 rfl _ Qb ?_;intro g8 z3006 n0 r8 k;refine p_W ?_;have dGx8:=l_l rG.lt n0;have dRx8:=l_l rR.lt n0;have dFx8:=l_l rF.lt n0;have b8:=f_ sb.size n0;clear n0;replace rG:=k.ro rG;replace rR:=k.ro rR;replace rF:=k.ro rF;replace sb:=kk sb k;clear k;refine p_W ?_;refine Xo (by rfl) 27 _ _ rfl _ rfl r8 (smC (PP:Nat) (QQ:Nat) (GG:Nat)) rfl (by exact Yi) (by rfl) (Md _ _ _) ?_;clear r8;intro z3008 r8 k;simp only[Act.put];replace rG:=k.ro rG;replace rR:=k.ro rR;replace rF:=k.ro rF;replace sb:=kk sb k;clear k;refine p_W ?_;clear hsm hfw hfp;iterate 3 go_step
 refine r_p ?_;refine p_V _ (vH _ _ _ _ rfl a0 1 rfl rfl (by decide)) ?_;refine p_V _ (vG _ _ _ _ rfl (a0/2^1) 3 _ rfl rfl ht) ?_;iterate 3 go_step
 refine r_p ?_;refine p_f 15 func15 #[.pointer (some ⟨g,0,none⟩),.int .i64 (t:Nat),.slice ab n c,.slice al q cl] (hp _ g gr gf sb ⟨rG,rR,rF⟩) ?_;rintro _ z5004 ⟨aA,cA,S1,ga,oa,csa,ta,rfl,hva,hpf,hb⟩;refine⟨_,rfl,?_⟩;refine p_W ?_;have k:=Kept.ofBelow hb;clear hb;replace r8:=k.ro r8;replace sb:=kk sb k;clear k;refine p_W ?_;iterate 3 go_step
 refine rp ?_;refine ZC (by rfl) 27 _ rfl _ 0 rfl r8.r _ (ZQ _) _ M_ rfl Yi (p_W ?_);refine p_f 16 func16 #[.agg (smC (PP:Nat) (QQ:Nat) (GG:Nat)),.int .i64 (t:Nat),.slice ab n c,.slice al q cl] (hd _ sb) ?_;rintro _ z6004 ⟨aB,cB,S2,g2,o2,cs2,t2,rfl,hvb,hqf,hb⟩;refine⟨_,rfl,?_⟩;refine p_W ?_;have k:=Kept.ofBelow hb;clear hb;replace hva:=hva.below k.nil;replace hpf:=hpf.below k.nil;replace sb:=kk sb k;clear k;refine p_W ?_;clear hp hd r8 ht;iterate 4 go_step
 refine r_p ?_;refine p_V _ (Zs _ _ rfl true rfl) ?_;refine p_V _ (ZT .i64 _ _ _ _ rfl z z rfl rfl false (by rw[c_ rfl];rfl)) ?_;refine p_K false (.bool false) ?_;refine p_V _ (n_l aA m cA O5) ?_;refine p_V _ (n_l aB m cB Ge) ?_;refine p_V _ (ZT .i64 _ _ _ _ rfl (m:Nat) (m:Nat) rfl rfl false (by rw[c_ rfl];rfl)) ?_;refine p_K false (.bool false) ?_;iterate 8 go_step
 refine rp ?_;refine p_V (.int .i64 0) (fun _=>rfl) ?_
 go_wp2_with fail
 go_loopg [15] m (fun y s15 wr=> ∃i:Nat,i+y=m/\s15= .int .i64 i/\VsAt wr aA m S1 ga oa csa ta/\PF wr S1 m K V/\VsAt wr aB m S2 g2 o2 cs2 t2/\QF wr S2 m K V/\Below w.heap.size w wr)
 case atStart=>exact⟨0,by omega,rfl,hva,hpf,hvb,hqf,sb⟩
 case round=>
  clear hva hpf hvb hqf sb;obtain⟨i,hi,rfl,hva,hpf,hvb,hqf,sb⟩:=hrel
  cases gk with
  |zero=>
   obtain rfl:i=m:=by omega
   clear hi hva hpf hvb hqf hV;iterate 2 go_step
   refine r_p ?_;refine p_V _ (n_l aA i cA O5) ?_;refine p_V _ (YN i i) ?_;refine p_K false (.bool false) ?_;iterate 7 go_step
   refine rp ?_;refine p_c 7 func7 #[] (haw _ sb) ?_;intro z14000 k;refine p_W ?_;replace sb:=kk sb k;clear k;refine p_W ?_;go_wp2;go_ret;exact⟨rfl,sb⟩
  |succ y=>
   have hlt:i<m:=by omega
   have hnt:=fun w' (h:QF w' S2 m K V)=>zw hK (fun j=>hV i j hlt) (h i hlt)
   have hsn:=fun w' v2 (h:PF w' S1 m K V) (h2:SA w' v2 K (V i))=>zx hK (h i hlt) h2
   clear haw;iterate 2 go_step
   refine r_p ?_;refine p_V _ (n_l aA m cA O5) ?_;refine p_V _ (YW i m) ?_;refine p_V _ (n_l aB m cB Ge) ?_;refine p_V _ (YW i m) ?_;refine p_K true (.bool true) ?_;obtain h0|⟨hA,rA,hat⟩:=hva.at'
   ·exact absurd h0 (by omega)
   obtain h0|⟨hB,rB,hbt⟩:=hvb.at'
   ·exact absurd h0 (by omega)
   have hai:=hat i hlt;have hbi:=hbt i hlt;subst hA hB;clear hat hbt;have orA:=rA;have orB:=rB;iterate 9 go_step
   refine Yl (by kernel_rfl) [] [(0,false),(1,false),(2,false),(3,false),(4,false),(5,false),(6,false),(7,false),(8,true),(9,true),(10,false)] ?_ (by kernel_rfl);have cb:=YB sb;have osb:=sb;have ohva:=hva;have ohpf:=hpf;have ohvb:=hvb;have ohqf:=hqf;refine e_m ?_;refine e_m ?_;simp only[pv];refine e_v (.pointer (some ⟨ga,oa+i*1,none⟩)) ((Zo 30 _ _ rfl (ga) (oa) (m) (cA) rfl (i) rfl (hlt) _ cL0 1 aC0)) ?_;simp only[pv];refine YU (by rfl) 22 _ rfl _ (oa+i*1) rfl (fun _ hb=>(orA.belowAll hb)) (S1 i) hai Z_ ?_;refine e_m ?_;refine e_m ?_;simp only[pv];refine e_v (.pointer (some ⟨g2,o2+i*1,none⟩)) ((Zo 45 _ _ rfl (g2) (o2) (m) (cB) rfl (i) rfl (hlt) _ underlying45 1 sizeOf50)) ?_;simp only[pv];refine YU (by rfl) 50 _ rfl _ (o2+i*1) rfl (fun _ hb=>(orB.belowAll hb)) (S2 i) hbi eP0 ?_;simp only[pv];refine XH (by rfl) 18 _ _ rfl func18 (by kernel_rfl) #[S2 i] rfl ?_;intro wa8 hqb;replace hva:=hva.below hqb;replace hpf:=hpf.below hqb;replace hvb:=hvb.below hqb;replace hqf:=hqf.below hqb;replace sb:=b_o sb hqb;replace cb:=b_o cb hqb;clear hqb;refine(hnt _ hqf).mono ?_;rintro _ wb8 ⟨vN,rfl,hvN,hb⟩;refine⟨_,rfl,fun _=>Zi cb (e_ _) hb,?_⟩;simp only[pv];replace hva:=hva.below hb;replace hpf:=hpf.below hb;replace hvb:=hvb.below hb;replace hqf:=hqf.below hb;replace sb:=b_o sb hb;replace cb:=b_o cb hb;clear hb;refine XH (by rfl) 17 _ _ rfl func17 (by kernel_rfl) #[S1 i,vN] rfl ?_;intro wa9 hqb;replace hva:=hva.below hqb;replace hpf:=hpf.below hqb;replace hvb:=hvb.below hqb;replace hqf:=hqf.below hqb;replace hvN:=hvN.below hqb;replace sb:=b_o sb hqb;replace cb:=b_o cb hqb;clear hqb;refine(hsn _ vN hpf hvN).mono ?_;rintro _ wb9 ⟨rfl,hb⟩;refine⟨_,rfl,fun _=>Zi cb (e_ _) hb,?_⟩;simp only[pv];replace hva:=hva.below hb;replace hpf:=hpf.below hb;replace hvb:=hvb.below hb;replace hqf:=hqf.below hb;replace hvN:=hvN.below hb;replace sb:=b_o sb hb;replace cb:=b_o cb hb;clear hb;refine e_v (.bool false) ((fun w'=>Zs _ _ rfl true rfl w')) ?_;simp only[pv];refine VG ?_;intro wz hqb;replace hva:=hva.below hqb;replace hpf:=hpf.below hqb;replace hvb:=hvb.below hqb;replace hqf:=hqf.below hqb;replace hvN:=hvN.below hqb;replace sb:=b_o sb hqb;clear hqb cb osb ohva ohpf ohvb ohqf;clear rA rB orA orB hvN hnt hsn;iterate 6 go_step
   refine r_p ?_;refine p_V _ (x_a i 1) ?_;go_wp2
   go_roundg y
   ·exact⟨i+1,by omega,rfl,hva,hpf,hvb,hqf,sb⟩
   omega
theorem xS {ny:Nat->Nat}{q:Nat}:fpB ny q 8 6=true↔q<=8/\ ∀k,k<q->ny k<=6:=by
 unfold fpB;rw[p_,Y_,cF0];constructor
 ·rintro⟨h1,h2⟩;refine⟨h2,fun k hk=>?_⟩;by_cases h3:ny k<=6
  ·exact h3
  ·have:=Rj (B:=fun i=>decide (6<ny i)) (show k<min q 8 by omega) (c_ (by omega));rw[h1]at this;cases this
 ·rintro⟨h1,h2⟩;refine⟨?_,h1⟩
  cases h3:anB (fun i=>decide (6<ny i)) (min q 8)with
  |false=>rfl
  |true=>
   obtain⟨k,hk,h4⟩:=(Vk _ _).1 h3;have h5:=dP0 h4;have h6:=h2 k (by omega);omega
theorem ur (a0:Int)(ab:Option Addr)(n c:Nat)(S:Nat->Value)(N:Nat->Nat)(M:Nat->Nat->Nat)(gb ob:Nat)(bcs:Array Value)(tb:TypeId)(al:Option Addr)(q cl:Nat)(X:Nat->PtX)(gl ol:Nat)(lcs:Array Value)(tl:TypeId)(w:World)(_: -9223372036854775808<=a0/\a0<=9223372036854775807)(hna:VsAt w ab n S gb ob bcs tb)(hS: ∀i,i<n->SA w (S i) (N i) (M i)/\N i<=maxLen)(hqm:q<=maxLen)(hla:ElsAt 2 w al q (fun k=>ptC (X k).z (.slice (X k).ay (X k).ny (X k).cy)) gl ol lcs tl)(hxy: ∀k,k<q->NatsAt w (X k).ay (X k).ny (X k).Y (X k).gy (X k).oy (X k).ycs (X k).ty/\(X k).ny<=maxLen)(kT:KT w):
  Calls prog 4 #[.int .i64 a0,.slice ab n c,.slice al q cl] w (Rt (.bool true) w):=by
 have hfw:=fun w' (hb:Below w.heap.size w w')=>EM 5 ab n c S gb ob bcs tb N w' (by decide) (hna.below hb) (fun i hi=>by
  obtain⟨⟨ai,ci,_,_,_,_,e,_⟩,_⟩:=hS i hi
  exact⟨ai,ci,e⟩)
 have hfp:=fun w' (hb:Below w.heap.size w w')=>Hz al q cl 8 6 (fun k=>(X k).z) (fun k=>(X k).ay) (fun k=>(X k).ny) (fun k=>(X k).cy) gl ol lcs tl w' (by decide) (hla.below hb)
 by_cases hP:n<=5/\ ∀i,i<n->N i<=8
 ·have hf2: ∀w',Below w.heap.size w w'->Calls prog 13 #[.slice ab n c,.int .i64 5] w' (Rt (.bool true) w'):=fun w' hb=>(hfw w' hb).mono fun e w2 ⟨B,he,hB,hb2⟩=>⟨by rw[he,hB.2 hP],hb2⟩
  cases hfb:fpB (fun k=>(X k).ny) q 8 6 with
  |false=>
   rw[hfb]at hfp;exact xQ a0 ab al n c q cl w kT true hf2 fun _=>hfp
  |true=>
   rw[hfb]at hfp;obtain⟨hq,hny⟩:=xS.1 hfb;obtain⟨f,hp,hqq⟩:=smF a0
   haveI:NeZero (smQ a0):=⟨by have:=f.big;omega⟩
   obtain⟨t,ht3,ht⟩:=an3 (a0/2^1);rcases Dm f hp hqq ab n c t S gb ob bcs tb N M al q cl X gl ol lcs tl w ht3 hP.1 hq hP.2 hny hna (fun i hi=>(hS i hi).1) hla (fun k hk=>(hxy k hk).1)with ⟨z,h1,h2⟩|⟨K,V,n1,hK,hV,h1,h2⟩
   ·exact xR a0 (smP a0) (smQ a0) (smG a0) t 0 0 z (fun _ _=>0) ab al n c q cl w kT (by decide) (by decide) (fun i j hi=>absurd hi (cW0 _)) ht hf2 hfp (Sv a0)
     (fun w' g gr gf hb hg=>(h1 w' g gr gf hb hg).mono fun e w2 ⟨e1,hb2⟩=>⟨none,0,fun _=>.slice none 0 0,0,0,#[],0,e1,⟨.inl rfl⟩,fun i hi=>absurd hi (cW0 _),hb2⟩)
     (fun w' hb=>(h2 w' hb).mono fun e w2 ⟨e1,hb2⟩=>⟨none,0,fun _=>.slice none 0 0,0,0,#[],0,e1,⟨.inl rfl⟩,fun i hi=>absurd hi (cW0 _),hb2⟩)
   ·exact xR a0 (smP a0) (smQ a0) (smG a0) t n K 0 V ab al n c q cl w kT (by omega) hK hV ht hf2 hfp (Sv a0)
     (fun w' g gr gf hb hg=>(h1 w' g gr gf hb hg).mono fun e w2 ⟨gP,PR,e1,_,rP,hF,hb2⟩=>⟨_,_,_,gP,0,_,_,e1,⟨.inr ⟨rfl,rP.r,fun i hi=>by rw[show 0+i*1=i by omega];exact XJ _ hi⟩⟩,fun i hi=>⟨_,_,_,_,_,_,rfl,YV (hF.row i hi) (fun j hj=>E_ (hV i j hi) (by decide))⟩,hb2⟩)
     (fun w' hb=>(h2 w' hb).mono fun e w2 ⟨go,co,cur,S2,e1,rO,hcu,hnu,hb2⟩=>⟨_,co,S2,go,0,cur,_,e1,⟨.inr ⟨rfl,rO.r,hcu⟩⟩,hnu,hb2⟩)
 ·exact xQ a0 ab al n c q cl w kT false (fun w' hb=>(hfw w' hb).mono fun e w2 ⟨B,he,hB,hb2⟩=>⟨by rw[he,dN0.2 (fun h=>hP (hB.1 h))],hb2⟩) nofun
theorem xT (os:Os)(started:os.Started)(H:Type)(enc:TypeId×Value->H):
  ReturnsInHanded {} Tryz.checked os 4 .any (fun w args=>(Rows.matrixRecoversSpec.pre enc prog Tryz.f4 [] false w args/\laidMetH prog lk w)/\sizedMet enc prog Tryz.f4 (OpenSpec.ofChange Rows.matrixRecoversSpec) false w args)
   (Rows.matrixRecoversSpec.post enc prog Tryz.f4 false true false false):=by
 refine returnsInHanded_of_change_and (C:=Tryz.checked) (X:=fun w _=>laidMetH prog lk w) (fun _ _ _ hh h=>h.of_heap hh) own started (by kernel_rfl) func4
  (ChangeSpec.witness_shaped (enc:=enc) (C:=Tryz.checked) (os:=os) (X:=fun w _=>laidMetH prog lk w) false (World.doorLaid prog 14 os) #[.int .i64 0,.slice none 0 0,.slice none 0 0] 8 rfl (World.shaped_of_RefB (by kernel_rfl) (by kernel_rfl)) (by kernel_rfl) (by kernel_rfl) (by kernel_rfl) (Da os _)) ?_
 intro W base args ds gs before hval0 hW _ _ hL _;have hval: ∀(j:Nat) t v,Tryz.f4.params[j]?=some t->args[j]?=some v->Value.okWide prog W .any base t v:=hval0
 have hW':=hW;obtain⟨p,q,hA0,hV,rfl,hfz,hnd⟩:=hW;have hA:DataW.TrodAll enc prog W 0 (fun _=>true) true Tryz.f4.params.toList args.toList ds p:=hA0;rw[Tryz.params4]at hA hval;obtain⟨v0,vs0,d0,ds0,p0,q0,hargs,rfl,rfl,h0,r0⟩:=trodAll_cons hA;obtain⟨v1,vs1,d1,ds1,p1,q1,rfl,rfl,rfl,h1,r1⟩:=trodAll_cons r0;obtain⟨v2,vs2,d2,ds2,p2,q2,rfl,rfl,rfl,h2,r2⟩:=trodAll_cons r1;obtain⟨rfl,rfl,rfl⟩:=trodAll_nil r2
 obtain rfl:args=#[v0,v1,v2]:=by cases args;simp_all
 obtain⟨rfl,rfl⟩:=trodVars_none hV;have k0:=h0;have lt0:=UR h0;obtain⟨a0,rfl,rfl,rfl,w0⟩:=open_int bR0 (hval 0 3 v0 rfl rfl) h0;have k1:=h1;have lt1:=UR h1;obtain⟨ab1,m1,c1,S1,N1,A1,gb1,ob1,bcs1,tb1,rfl,hvs1,hrs1⟩:=AI (hval 1 31 v1 rfl rfl) h1;have k2:=h2;have lt2:=UR h2;obtain⟨al2,q2,cl2,X2,gl2,ol2,lcs2,tl2,rfl,hqm2,hla2,hxy2⟩:=Dk (hval 2 32 v2 rfl rfl) h2;clear hA0 hval0;refine(ur a0 ab1 m1 c1 S1 N1 A1 gb1 ob1 bcs1 tb1 al2 q2 cl2 X2 gl2 ol2 lcs2 tl2 W (bounds_i64 w0) hvs1 hrs1 hqm2 hla2 hxy2 (L4 hL)).mono fun e W' ⟨he,bel⟩=>?_
 subst he;exact⟨_,rfl,_,_,_,[],_,[],hW',trodAll_mk1 (shut_bool underlying4 _),(trodAll_cons_mk (Below.trod Nc (by kernel_rfl) (dP0 (by kernel_rfl)) k0 bel lt0) (trodAll_cons_mk (Below.trod Nc (by kernel_rfl) (dP0 (by kernel_rfl)) k1 bel lt1) (trodAll_cons_mk (Below.trod Nc (by kernel_rfl) (dP0 (by kernel_rfl)) k2 bel lt2) trodAll_mk0))),rfl,bel.frame _,fun h=>by cases h⟩
theorem us:Rows.matrixRecoversRow.holds Tryz.pinned (OpenSpec.ofChange Rows.matrixRecoversSpec):=
 OpenClaim.holds_of_wide 4 Tryz.f4 rfl rfl rfl rfl rfl rfl rfl ⟨rfl,rfl,rfl,rfl,rfl⟩ rfl rfl rfl rfl rfl (by kernel_rfl) func4 (by kernel_rfl)
  (dP0 (by kernel_rfl)) (by unfold Func.isWrapper;first|(rw[i_ (by decide+kernel)];kernel_rfl)|(rw[j_ (by decide+kernel)];exact⟨rfl,rfl⟩))
  (fun os started H enc _=>xT os started H enc)
theorem card:Claim7.holds Tryz.pinned (.plain (OpenSpec.ofChange Rows.matrixRecoversSpec)) Rows.matrixRecoversCard:=
 Claim7.holds_tied_plain_at .later [] [.data] true (true, "eb1696153f8cb3232e8b2f438456bf9c55f134f4348278d0aa98d579a3c22149") false
  us (fun _ h=>by cases h) (by kernel_rfl) (fun _ h=>by cases h) matrixRecovers_row_tie rfl ⟨rfl,rfl⟩ (by kernel_rfl) rfl
  (fun f fn hf hfn=>by
   obtain rfl:f=4:=cN0 ((show prog.funcNamed "sacristy/sacristylaw16.MatrixRecovers" =some 4 by kernel_rfl).symm.trans hf) |>.symm;obtain rfl:fn=Tryz.f4:=(cN0 (func4.symm.trans hfn)).symm
   exact⟨by kernel_rfl,fun j t ht=>by
    rw[Tryz.params4]at ht;have hm:t∈[3,31,32]:=by simpa using Array.mem_of_getElem? ht
    have hall:([3,31,32].all fun u=> !prog.wantsStandIn u)=true:=by kernel_rfl
    exact(show prog.wantsStandIn t=false by simpa using aX0.1 hall t hm)⟩)
  (by kernel_rfl)
end qP
theorem matrixRecovers_holds:Rows.MatrixRecoversCardSaid:=qP.card
