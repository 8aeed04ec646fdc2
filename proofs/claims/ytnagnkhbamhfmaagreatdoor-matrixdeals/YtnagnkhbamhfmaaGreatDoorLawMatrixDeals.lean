/- MatrixDeals: for every number, two lists of naturals and a number: up to 6 numbers and up to 12 random ones, in a small group, by any number of liars, what is dealt, or that nothing is, is as the document says; no condition. -/
import Derived.Test.YtnagnkhbamhfmaaGreatDoorMxRefW
set_option maxRecDepth 100000
set_option maxHeartbeats 8000000
namespace Go.Proofs.YtnagnkhbamhfmaaGreatDoor
set_option linter.all false
open Go.ChangeShapes Go.WideShapes Go.ChangeAt Go.RowKit
open Go.Proofs.Tryz
namespace matrixDealsP
theorem IR {H:Type}{enc:TypeId×Value->H}{W:World}{base:Nat}{v0:Value}{d0:DataW H}{p0:List MemPlace}
  (hv:Value.okWide prog W .any base 23 v0)(h0:DataW.Trod enc prog W 0 (fun _=>true) true 23 v0 d0 p0):
  ∃ab n c e gb ob bcs tb ae m ce f ge oe ecs te,v0= .agg #[.slice ab n c,.slice ae m ce]/\n<=c/\m<=ce/\NatsAt W ab n e gb ob bcs tb/\NatsAt W ae m f ge oe ecs te:=by
 obtain⟨cs,rfl,hsz,_⟩: ∃cs,v0= .agg cs/\cs.size=prog.cellsOf 23/\Row.okWide prog W .any base 23 cs:=by
  simpa[Value.okWide,dH0]using hv
 rw[Ij]at hsz;obtain⟨l⟩:=cs;obtain⟨c0,c1,rfl⟩:=xQ l hsz;obtain⟨fuel,hf⟩:=h0;obtain⟨y0,y1,m,hy0,hy1⟩:=OO dH0 Ik hf;obtain⟨ab,n,c,e,gb,ob,bcs,tb,rfl,x1,_,q1⟩:=Il hy0;obtain⟨ae,k,ce,f,ge,oe,ecs,te,rfl,x2,_,q2⟩:=Il hy1;exact⟨ab,n,c,e,gb,ob,bcs,tb,ae,k,ce,f,ge,oe,ecs,te,rfl,x1,x2,q1,q2⟩
/-- What is dealt: a matrix's rows, and parts. -/
def DM (w:World)(vM vP:Value)(n K N:Nat)(V F:Nat->Nat->Nat):Prop:= ∃(a:Option Addr) (c:Nat) (S:Nat->Value) (g o:Nat) (b:Array Value) (ty:TypeId) (a2:Option Addr) (c2:Nat) (Y:Nat->Value) (g2 o2:Nat) (b2:Array Value) (t2:TypeId),vM= .slice a n c/\VsAt w a n S g o b ty/\(∀i,i<n->M4 w (S i) K (V i))/\vP= .slice a2 N c2/\ElsAt 2 w a2 N (fun k=>ptC ((k+1:Nat):Int) (Y k)) g2 o2 b2 t2/\(∀i,i<N->M4 w (Y i) n (F i))
theorem DM.below {w w2:World}{vM vP:Value}{n K N:Nat}{V F:Nat->Nat->Nat}(h:DM w vM vP n K N V F)(hb:Below w.heap.size w w2):DM w2 vM vP n K N V F:=by
 obtain⟨a,c,S,g,o,b,ty,a2,c2,Y,g2,o2,b2,t2,e1,h1,h2,e2,h3,h4⟩:=h;exact⟨a,c,S,g,o,b,ty,a2,c2,Y,g2,o2,b2,t2,e1,h1.below hb,fun i hi=>(h2 i hi).below hb,e2,h3.below hb,fun i hi=>(h4 i hi).below hb⟩
theorem AH (w:World)(V F:Nat->Nat->Nat):DM w (.slice none 0 0) (.slice none 0 0) 0 0 0 V F:=
 ⟨none,0,fun _=>.slice none 0 0,0,0,#[],0,none,0,fun _=>.slice none 0 0,0,0,#[],0,rfl,⟨.inl rfl⟩,fun i hi=>absurd hi (gC0 _),rfl,⟨.inl rfl⟩,fun i hi=>absurd hi (gC0 _)⟩
theorem AI {w:World}{vM vP vN vQ:Value}{n K N:Nat}{V F:Nat->Nat->Nat}(hn:n<=100)(hK:K<=100)(h1:DM w vM vP n K N V F)(h2:DM w vN vQ n K N V F):
  Calls prog 11 #[vM,vN] w (Rt (.bool true) w):=by
 obtain⟨a,c,S,g,o,b,ty,_,_,_,_,_,_,_,rfl,p1,p2,_⟩:=h1;obtain⟨a',c',S',g',o',b',ty',_,_,_,_,_,_,_,rfl,q1,q2,_⟩:=h2;exact Rb a a' n c c' S S' g o g' o' b b' ty ty' (fun _=>K) V w (by omega) (fun _ _=>by omega) p1 q1 p2 q2
theorem Ex {w:World}{vM vP vN vQ:Value}{n K N:Nat}{V F:Nat->Nat->Nat}(hn:n<=100)(hN:N<=100)(h1:DM w vM vP n K N V F)(h2:DM w vN vQ n K N V F):
  Calls prog 12 #[vP,vQ] w (Rt (.bool true) w):=by
 obtain⟨_,_,_,_,_,_,_,a,c,Y,g,o,b,ty,_,_,_,rfl,p1,p2⟩:=h1;obtain⟨_,_,_,_,_,_,_,a',c',Y',g',o',b',ty',_,_,_,rfl,q1,q2⟩:=h2;exact AF a a' N c c' (fun k=>((k+1:Nat):Int)) Y Y' g o g' o' b b' ty ty' (fun _=>n) F w (by omega) (fun _ _=>by omega) p1 q1 p2 q2
theorem U0 {f:FuncId}{vs:Array Value}{w:World}{V F:Nat->Nat->Nat}(h:Calls prog f vs w (Rt (.tuple #[.slice none 0 0,.slice none 0 0,.int .i64 1]) w)):
  Calls prog f vs w fun e w'=> ∃vM vP,e= .returned (.tuple #[vM,vP,.int .i64 1])/\DM w' vM vP 0 0 0 V F/\Below w.heap.size w w':=
 h.mono fun e w2 ⟨e1,hb⟩=>⟨_,_,e1,AH _ _ _,hb⟩
theorem in_no {N:Nat->Nat}{Q n:Nat}:(!anB (fun k=> !decide (N k<Q)) n)=OU N Q n:=by
 cases h:OU N Q n with
 |true=>
  have h1:=(Sw N Q n).1 h
  cases e:anB (fun k=> !decide (N k<Q)) n with
  |false=>rfl
  |true=>
   obtain⟨k,hk,h2⟩:=(Vm _ _).1 e;rw[d_ (h1 k hk)]at h2;cases h2
 |false=>
  cases e:anB (fun k=> !decide (N k<Q)) n with
  |true=>rfl
  |false=>
   have:OU N Q n=true:=(Sw N Q n).2 fun i hi=>Decidable.byContradiction fun hc=>by
    have:=(Vm (fun k=> !decide (N k<Q)) n).2 ⟨i,hi,by rw[e_ hc];rfl⟩;rw[e]at this;cases this
   rw[h]at this;cases this
theorem Dt {P Q G:Nat}(f:GF P Q G){g gr gf:Nat}{w:World}(h:GrpAt w g gr gf P Q G){ab:Option Addr}{n c gb ob:Nat}{N:Nat->Nat}{cs:Array Value}{tb:TypeId}(hn:NatsAt w ab n N gb ob cs tb)(hl:n<1000):
  Calls prog 34 #[.pointer (some ⟨g,0,none⟩),.slice ab n c] w (Rt (.bool (OU N Q n)) w):=by
 have:=Ir (some ⟨g,0,none⟩) ab n c N gb ob cs tb (fun k=>decide (N k<Q)) w (by omega) hn (fun k hk w' hb=>Jp (N k) g gr gf P Q G w' (hn.lt k hk) f.rQ (h.below hb));rw[in_no]at this;exact this
theorem vo {P Q G:Nat}[NeZero Q](f:GF P Q G)(hp:P<4611686018427387904)(hqq:Q<4611686018427387904)(a2:Int)(ab:Option Addr)(n c:Nat)(F1:Nat->Nat)(gb ob:Nat)(bcs:Array Value)(tb:TypeId)(ae:Option Addr)(m ce:Nat)(F2:Nat->Nat)(ge oe:Nat)(ecs:Array Value)(te:TypeId)(w:World)(hn:n<=6)(hm:m<=12)(hc:n<=c)(hd:m<=ce)(hna:NatsAt w ab n F1 gb ob bcs tb)(hnb:NatsAt w ae m F2 ge oe ecs te):
  ∃(z:Int) (n' K N:Nat) (V U:Nat->Nat->Nat),n'<=100/\K<=100/\N<=100/\
  (∀w' g gr gf,Below w.heap.size w w'->GrpAt w' g gr gf P Q G->Calls prog 9 #[.pointer (some ⟨g,0,none⟩),.int .i64 a2,.slice ab n c,.slice ae m ce] w' fun e w2=> ∃vM vP,e= .returned (.tuple #[vM,vP,.int .i64 z])/\DM w2 vM vP n' K N V U/\Below w'.heap.size w' w2)/\
  (∀w',Below w.heap.size w w'->Calls prog 10 #[.agg (smC (P:Nat) (Q:Nat) (G:Nat)),.int .i64 a2,.slice ab n c,.slice ae m ce] w' fun e w2=> ∃vM vP,e= .returned (.tuple #[vM,vP,.int .i64 z])/\DM w2 vM vP n' K N V U/\Below w'.heap.size w' w2):=by
 by_cases h1:a2<1
 ·exact⟨1,0,0,0,fun _ _=>0,fun _ _=>0,by decide,by decide,by decide,fun w' g gr gf _ _=>U0 (Dq _ ab ae n c m ce a2 w' (by unfold lrB;rw[e_ (by omega)];rfl)),fun w' _=>U0 (wk ab ae n c m ce a2 P Q G w' h1)⟩
 by_cases h2:2<a2
 ·exact⟨1,0,0,0,fun _ _=>0,fun _ _=>0,by decide,by decide,by decide,fun w' g gr gf _ _=>U0 (Dq _ ab ae n c m ce a2 w' (by unfold lrB;rw[d_ (show(1:Int)<=a2 by omega),e_ (by omega)];rfl)),fun w' _=>U0 (wm ab ae n c m ce a2 P Q G w' h2)⟩
 obtain⟨t,rfl⟩: ∃t:Nat,a2=(t:Nat):=⟨a2.toNat,by omega⟩
 have t1:1<=t:=by omega
 have t2:t<=2:=by omega
 by_cases h3:n<1
 ·exact⟨1,0,0,0,fun _ _=>0,fun _ _=>0,by decide,by decide,by decide,fun w' g gr gf _ _=>U0 (yD _ ab ae n c m ce t w' t1 t2 (by unfold ccB;rw[e_ (by omega)];rfl)),fun w' _=>U0 (wn ab ae n c m ce t P Q G w' t1 t2 h3)⟩
 have n1:1<=n:=by omega
 have n2:n<=25:=by omega
 have hcc:ccB n ((t+1:Nat):Int)=true:=by
  unfold ccB;rw[d_ (by omega),d_ (by omega),d_ (by omega),d_ (by omega)];rfl
 by_cases h4:m=t*n
 ·have hi1: ∀w' g gr gf,Below w.heap.size w w'->GrpAt w' g gr gf P Q G->_:=fun w' g gr gf hb hg=>Dt f hg (c:=c) (hna.below hb) (by omega)
  have hi2: ∀w' g gr gf,Below w.heap.size w w'->GrpAt w' g gr gf P Q G->_:=fun w' g gr gf hb hg=>Dt f hg (c:=ce) (hnb.below hb) (by omega)
  have hr1:=fun w' hb=>IP ab n c F1 gb ob bcs tb Q w' (by omega) hqq (hna.below hb)
  have hr2:=fun w' hb=>IP ae m ce F2 ge oe ecs te Q w' (by omega) hqq (hnb.below hb)
  cases hx:OU F1 Q n with
  |false=>
   rw[hx]at hr1;simp only[hx]at hi1;exact⟨1,0,0,0,fun _ _=>0,fun _ _=>0,by decide,by decide,by decide,fun w' g gr gf hb hg=>U0 (Dr _ ab ae n c m ce false t w' t1 t2 hcc h4 (fun w2 hb2=>hi1 w2 g gr gf (Zk hb (c_ _) hb2) (hg.below hb2)) nofun),fun w' hb=>U0 (ws ab ae n c m ce t P Q G w' t1 t2 n1 n2 h4 (fun w2 hb2=>hr1 w2 (Zk hb (c_ _) hb2)))⟩
  |true=>
   rw[hx]at hr1;simp only[hx]at hi1
   cases hy:OU F2 Q m with
   |false=>
    rw[hy]at hr2;simp only[hy]at hi2;exact⟨1,0,0,0,fun _ _=>0,fun _ _=>0,by decide,by decide,by decide,fun w' g gr gf hb hg=>U0 (Dr _ ab ae n c m ce true t w' t1 t2 hcc h4 (fun w2 hb2=>hi1 w2 g gr gf (Zk hb (c_ _) hb2) (hg.below hb2)) (fun _ w2 hb2=>hi2 w2 g gr gf (Zk hb (c_ _) hb2) (hg.below hb2))),fun w' hb=>U0 (wt ab ae n c m ce t P Q G w' t1 t2 n1 n2 h4 (fun w2 hb2=>hr1 w2 (Zk hb (c_ _) hb2)) (fun w2 hb2=>hr2 w2 (Zk hb (c_ _) hb2)))⟩
   |true=>
    rw[hy]at hr2;simp only[hy]at hi2
    have hm1:1<=m:=by rw[h4];exact Nat.mul_pos t1 n1
    obtain h0|⟨rfl,_,_⟩:=hna.at'
    ·exact absurd h0 (by omega)
    obtain h0|⟨rfl,_,_⟩:=hnb.at'
    ·exact absurd h0 (by omega)
    have hV: ∀i j,G^(pco (dlL Q t F1 F2 i) j).val%P<2^256:=fun i j=>E_ (m_ _ (by have:=f.rP.two;omega)) f.rP.m
    have hU: ∀i j,(pev (fi (i+1)) (dlL Q t F1 F2 j)).val<2^256:=fun i j=>E_ (pev (fi (i+1)) (dlL Q t F1 F2 j)).isLt f.rQ.m
    refine⟨0,n,t+1,3*t+1,(fun a b=>G^(pco (dlL Q t F1 F2 a) b).val%P),(fun a b=>(pev (fi (a+1)) (dlL Q t F1 F2 b)).val),by omega,by omega,by omega,fun w' g gr gf hb hg=>?_,fun w' hb=>?_⟩
    ·refine(IJ n c m ce t F1 F2 gb ob ge oe bcs ecs tb te t1 t2 hcc h4 hc hd f hg (hna.below hb) (hnb.below hb) (fun w2 hb2=>hi1 w2 g gr gf (Zk hb (c_ _) hb2) (hg.below hb2)) (fun w2 hb2=>hi2 w2 g gr gf (Zk hb (c_ _) hb2) (hg.below hb2))).mono ?_;rintro e w2 ⟨gM,R,gT,Y,rfl,_,_,rM,hM,rT,hY,hb2⟩;exact⟨_,_,rfl,⟨_,_,_,gM,0,_,_,_,_,_,gT,0,_,_,rfl,⟨.inr ⟨rfl,rM.r,fun i hi=>by rw[show 0+i*1=i by omega];exact XA _ hi⟩⟩,fun i hi=>⟨_,_,_,_,_,_,rfl,YA (hM.row i hi) (fun j _=>hV i j)⟩,rfl,JQ (fun _=>rfl) rT,fun i hi=>⟨_,_,_,_,_,_,rfl,YA (hY.row i hi) (fun j _=>hU i j)⟩⟩,hb2⟩
    ·refine(yQ _ _ n c m ce t P G F1 F2 gb ob ge oe bcs ecs tb te w' t1 t2 n1 n2 h4 hc hd f.rQ f.rP.two hp hqq (hna.below hb) (hnb.below hb) (fun w2 hb2=>hr1 w2 (Zk hb (c_ _) hb2)) (fun w2 hb2=>hr2 w2 (Zk hb (c_ _) hb2))).mono ?_;rintro e w2 ⟨vM,Y,S,gT,bs,rfl,hD,rT,hb2⟩;obtain⟨aM,cM,rfl⟩:=We hD.o;obtain⟨gM,cur,rfl,_,rM,_,hcu⟩:=Ma (C:=fun j=>#[S j]) (fun _=>rfl) hD.o (by omega)
     have nr: ∀(v:Value) (k:Nat) (u:Nat->Nat),(∀j,u j<2^256)->Wt w2 bs v k u->M4 w2 v k u:=fun v k u hu h=>by
      obtain⟨a,c',rfl⟩:=We h;obtain⟨_,gx,cx,hx⟩:=Uq h (fun j _=>hu j);exact⟨_,_,_,_,_,_,rfl,hx⟩
     exact⟨_,_,rfl,⟨_,_,S,gM,0,cur,_,_,_,Y,gT,0,_,_,rfl,⟨.inr ⟨rfl,rM.r,fun i hi=>hcu i hi 0 _ rfl⟩⟩,fun i hi=>nr _ _ _ (hV i) (hD.s i hi),rfl,JQ (fun _=>rfl) rT,fun i hi=>nr _ _ _ (hU i) (hD.y i hi)⟩,hb2⟩
 ·exact⟨1,0,0,0,fun _ _=>0,fun _ _=>0,by decide,by decide,by decide,fun w' g gr gf _ _=>U0 (yE _ ab ae n c m ce t w' t1 t2 hcc h4),fun w' _=>U0 (wo ab ae n c m ce t P Q G w' t1 t2 n1 n2 h4)⟩
theorem wu (a0 a2:Int)(ab ae:Option Addr)(n c m ce:Nat)(w:World)(kT:KT w)(h:6<n∨12<m):
  Calls prog 3 #[.int .i64 a0,.agg #[.slice ab n c,.slice ae m ce],.int .i64 a2] w fun e w'=>e= .returned (.bool true)/\Below w.heap.size w w':=by
 have haw:=fun w' (hb:Below w.heap.size w w')=>Sv w' (kT.below hb)
 clear kT;by_cases h6:6<n
 ·clear h
  go_enter func3,ntmps3
  have sb:=YG w;iterate 2 go_step
  refine rp ?_;refine ZO (by rfl) 23 _ rfl (#[.slice ab n c,.slice ae m ce]) rfl ?_;intro g4 z0 n0 r4 k;simp only[pv];have b4:=f_ sb.size n0;clear n0;replace sb:=kk sb k;clear k;refine p_v (.bool false) (fun _=>rfl) (Zb ?_);simp only[pv];iterate 4 go_step
  refine rp ?_;refine p_v _ (Zt 23 _ _ rfl g4 rfl 0 2 rfl (by decide) _ dH0 aO0) ?_;simp only[pv];refine p_d 0 r4.r (.slice ab n c) rfl aD0 ?_;simp only[pv];refine p_v _ (n_l ab n c Zm) ?_;simp only[pv];refine p_v _ (Gh ((n:Nat)) (6)) ?_;refine p_m ?_;refine p_s ?_;refine p_s ?_;refine p_s ?_;simp only[pv];refine p_s ?_;refine p_k true (.bool true) (Zb ?_);simp only[pv];iterate 4 go_step
  refine rp ?_;refine p_c 7 func7 #[] (haw _ sb) ?_;intro z2000 k;simp only[pv];replace sb:=kk sb k;clear k;refine p_a (Zb ?_);simp only[pv];go_wp2;go_ret;exact⟨rfl,sb⟩
 ·have h12:12<m:=by omega
  clear h
  go_enter func3,ntmps3
  have sb:=YG w;iterate 2 go_step
  refine rp ?_;refine ZO (by rfl) 23 _ rfl (#[.slice ab n c,.slice ae m ce]) rfl ?_;intro g4 z0 n0 r4 k;simp only[pv];have b4:=f_ sb.size n0;clear n0;replace sb:=kk sb k;clear k;refine p_v (.bool false) (fun _=>rfl) (Zb ?_);simp only[pv];iterate 4 go_step
  refine rp ?_;refine p_v _ (Zt 23 _ _ rfl g4 rfl 0 2 rfl (by decide) _ dH0 aO0) ?_;simp only[pv];refine p_d 0 r4.r (.slice ab n c) rfl aD0 ?_;simp only[pv];refine p_v _ (n_l ab n c Zm) ?_;simp only[pv];refine p_v _ (UY ((n:Nat)) (6)) ?_;refine p_m ?_;simp only[pv];refine p_v _ (Zt 23 _ _ rfl g4 rfl 1 2 rfl (by decide) _ dH0 aO0) ?_;simp only[pv];refine p_d 1 r4.r (.slice ae m ce) rfl aD0 ?_;simp only[pv];refine p_v _ (n_l ae m ce Zm) ?_;simp only[pv];refine p_v _ (Gh ((m:Nat)) (12)) ?_;refine p_k false (.bool true) (Zb ?_);simp only[pv];iterate 4 go_step
  refine rp ?_;refine p_c 7 func7 #[] (haw _ sb) ?_;intro z2000 k;simp only[pv];replace sb:=kk sb k;clear k;refine p_a (Zb ?_);simp only[pv];go_wp2;go_ret;exact⟨rfl,sb⟩
theorem wv (a0 a2:Int)(PP QQ GG n' K N:Nat)(z:Int)(V U:Nat->Nat->Nat)(ab ae:Option Addr)(n c m ce:Nat)(w:World)(kT:KT w)(hn':n'<=100)(hK:K<=100)(hN:N<=100)(h6:n<=6)(h12:m<=12)
  (hsm: ∀w',Calls prog 8 #[.int .i64 a0] w' fun e w2=> ∃g gr gf,e= .returned (.tuple #[.pointer (some ⟨g,0,none⟩),.agg (smC (PP:Nat) (QQ:Nat) (GG:Nat)),.bool true])/\GrpAt w2 g gr gf PP QQ GG/\Below w'.heap.size w' w2)
  (hp: ∀w' g gr gf,Below w.heap.size w w'->GrpAt w' g gr gf PP QQ GG->Calls prog 9 #[.pointer (some ⟨g,0,none⟩),.int .i64 a2,.slice ab n c,.slice ae m ce] w' fun e w2=> ∃vM vP,e= .returned (.tuple #[vM,vP,.int .i64 z])/\DM w2 vM vP n' K N V U/\Below w'.heap.size w' w2)
  (hd: ∀w',Below w.heap.size w w'->Calls prog 10 #[.agg (smC (PP:Nat) (QQ:Nat) (GG:Nat)),.int .i64 a2,.slice ab n c,.slice ae m ce] w' fun e w2=> ∃vM vP,e= .returned (.tuple #[vM,vP,.int .i64 z])/\DM w2 vM vP n' K N V U/\Below w'.heap.size w' w2):
  Calls prog 3 #[.int .i64 a0,.agg #[.slice ab n c,.slice ae m ce],.int .i64 a2] w fun e w'=>e= .returned (.bool true)/\Below w.heap.size w w':=by
 have haw:=fun w' (hb:Below w.heap.size w w')=>Sv w' (kT.below hb)
 have hs1: ∀(w':World) (vM vP vN vQ:Value),DM w' vM vP n' K N V U->DM w' vN vQ n' K N V U->_:=fun w' vM vP vN vQ h1 h2=>AI hn' hK h1 h2
 have hs2: ∀(w':World) (vM vP vN vQ:Value),DM w' vM vP n' K N V U->DM w' vN vQ n' K N V U->_:=fun w' vM vP vN vQ h1 h2=>Ex hn' hN h1 h2
 clear kT
 go_enter func3,ntmps3
 have sb:=YG w;iterate 2 go_step
 refine rp ?_;refine ZO (by rfl) 23 _ rfl (#[.slice ab n c,.slice ae m ce]) rfl ?_;intro g4 z0 n0 r4 k;simp only[pv];have b4:=f_ sb.size n0;clear n0;replace sb:=kk sb k;clear k;refine p_v (.bool false) (fun _=>rfl) (Zb ?_);simp only[pv];iterate 4 go_step
 refine rp ?_;refine p_v _ (Zt 23 _ _ rfl g4 rfl 0 2 rfl (by decide) _ dH0 aO0) ?_;simp only[pv];refine p_d 0 r4.r (.slice ab n c) rfl aD0 ?_;simp only[pv];refine p_v _ (n_l ab n c Zm) ?_;simp only[pv];refine p_v _ (UY ((n:Nat)) (6)) ?_;refine p_m ?_;simp only[pv];refine p_v _ (Zt 23 _ _ rfl g4 rfl 1 2 rfl (by decide) _ dH0 aO0) ?_;simp only[pv];refine p_d 1 r4.r (.slice ae m ce) rfl aD0 ?_;simp only[pv];refine p_v _ (n_l ae m ce Zm) ?_;simp only[pv];refine p_v _ (UY ((m:Nat)) (12)) ?_;refine p_k false (.bool false) (Zb ?_);simp only[pv];iterate 7 go_step
 refine rp ?_;refine p_m ?_;simp only[pv];refine p_f 8 func8 #[.int .i64 a0] (hsm _) ?_;rintro _ z3001 ⟨g,gr,gf,rfl,⟨rG,rR,rF⟩,hb⟩;refine⟨_,rfl,?_⟩;simp only[pv];have k:=Kept.ofBelow hb;clear hb;replace r4:=k.ro r4;replace sb:=kk sb k;clear k;refine p_m ?_;refine p_e ?_;refine p_e ?_;refine p_e ?_;simp only[pv];refine ZT (by rfl) 27 rfl _ R1 ?_;intro g8 z3006 n0 r8 k;simp only[pv];have d4x8:=l_l r4.lt n0;have dGx8:=l_l rG.lt n0;have dRx8:=l_l rR.lt n0;have dFx8:=l_l rF.lt n0;have b8:=f_ sb.size n0;clear n0;replace r4:=k.ro r4;replace rG:=k.ro rG;replace rR:=k.ro rR;replace rF:=k.ro rF;replace sb:=kk sb k;clear k;refine p_a ?_;simp only[pv];refine Xg (by rfl) 27 _ _ rfl _ rfl r8 (smC (PP:Nat) (QQ:Nat) (GG:Nat)) rfl (by exact Ws) (by rfl) (NL _ _ _) ?_;clear r8;intro z3008 r8 k;simp only[Act.put];replace r4:=k.ro r4;replace rG:=k.ro rG;replace rR:=k.ro rR;replace rF:=k.ro rF;replace sb:=kk sb k;clear k;refine p_a (Zb ?_);simp only[pv];clear hsm;iterate 3 go_step
 refine rp ?_;refine p_m ?_;refine p_m ?_;simp only[pv];refine p_v _ (Zt 23 _ _ rfl g4 rfl 0 2 rfl (by decide) _ dH0 aO0) ?_;simp only[pv];refine p_d 0 r4.r (.slice ab n c) rfl aD0 ?_;simp only[pv];refine p_v _ (Zt 23 _ _ rfl g4 rfl 1 2 rfl (by decide) _ dH0 aO0) ?_;simp only[pv];refine p_d 1 r4.r (.slice ae m ce) rfl aD0 ?_;simp only[pv];refine p_f 9 func9 #[.pointer (some ⟨g,0,none⟩),.int .i64 a2,.slice ab n c,.slice ae m ce] (hp _ g gr gf sb ⟨rG,rR,rF⟩) ?_;rintro _ z4006 ⟨vM,vP,rfl,hMd,hb⟩;refine⟨_,rfl,?_⟩;simp only[pv];have k:=Kept.ofBelow hb;clear hb;replace r4:=k.ro r4;replace r8:=k.ro r8;replace rG:=k.ro rG;replace rR:=k.ro rR;replace rF:=k.ro rF;replace sb:=kk sb k;clear k;refine p_m ?_;refine p_e ?_;refine p_e ?_;refine p_e ?_;refine p_a ?_;simp only[pv];refine p_a ?_;refine p_a (Zb ?_);simp only[pv];iterate 3 go_step
 refine rp ?_;refine ZJ (by rfl) 27 _ rfl _ 0 rfl r8.r _ (Yi _) _ cE0 rfl Ws ?_;refine p_m ?_;simp only[pv];refine p_v _ (Zt 23 _ _ rfl g4 rfl 0 2 rfl (by decide) _ dH0 aO0) ?_;simp only[pv];refine p_d 0 r4.r (.slice ab n c) rfl aD0 ?_;simp only[pv];refine p_v _ (Zt 23 _ _ rfl g4 rfl 1 2 rfl (by decide) _ dH0 aO0) ?_;simp only[pv];refine p_d 1 r4.r (.slice ae m ce) rfl aD0 ?_;simp only[pv];refine p_f 10 func10 #[.agg (smC (PP:Nat) (QQ:Nat) (GG:Nat)),.int .i64 a2,.slice ab n c,.slice ae m ce] (hd _ sb) ?_;rintro _ z5006 ⟨vN,vQ,rfl,hNd,hb⟩;refine⟨_,rfl,?_⟩;simp only[pv];have k:=Kept.ofBelow hb;clear hb;replace r4:=k.ro r4;replace r8:=k.ro r8;replace hMd:=hMd.below k.nil;replace sb:=kk sb k;clear k;refine p_m ?_;refine p_e ?_;refine p_e ?_;refine p_e ?_;refine p_a ?_;simp only[pv];refine p_a ?_;refine p_a (Zb ?_);simp only[pv];clear hp hd r8;iterate 3 go_step
 refine rp ?_;refine p_m ?_;refine p_m ?_;refine p_m ?_;refine p_m ?_;simp only[pv];refine p_c 11 func11 #[vM,vN] (hs1 _ vM vP vN vQ hMd hNd) ?_;intro z6004 k;simp only[pv];replace hMd:=hMd.below k.nil;replace hNd:=hNd.below k.nil;replace sb:=kk sb k;clear k;refine p_k true (.bool true) ?_;refine p_m ?_;refine p_m ?_;refine p_m ?_;simp only[pv];refine p_c 12 func12 #[vP,vQ] (hs2 _ vM vP vN vQ hMd hNd) ?_;intro z6009 k;simp only[pv];replace hMd:=hMd.below k.nil;replace hNd:=hNd.below k.nil;replace sb:=kk sb k;clear k;refine p_k true (.bool true) ?_;refine p_m ?_;refine p_m ?_;refine p_m ?_;simp only[pv];refine p_v _ (ZK .i64 _ _ _ _ rfl z z rfl rfl true (d_ rfl)) ?_;refine p_k true (.bool true) ?_;refine p_m ?_;simp only[pv];refine p_c 7 func7 #[] (haw _ sb) ?_;intro z6017 k;simp only[pv];replace hMd:=hMd.below k.nil;replace hNd:=hNd.below k.nil;replace sb:=kk sb k;clear k;refine p_k true (.bool true) ?_;refine p_a (Zb ?_);simp only[pv];go_wp2;go_ret;exact⟨rfl,sb⟩
theorem vr (a0:Int)(ab:Option Addr)(n c:Nat)(F:Nat->Nat)(gb ob:Nat)(bcs:Array Value)(tb:TypeId)(ae:Option Addr)(m ce:Nat)(E:Nat->Nat)(ge oe:Nat)(ecs:Array Value)(te:TypeId)(a2:Int)(w:World)(_: -9223372036854775808<=a0/\a0<=9223372036854775807)(hc:n<=c)(hd:m<=ce)(hna:NatsAt w ab n F gb ob bcs tb)(hnb:NatsAt w ae m E ge oe ecs te)(_: -9223372036854775808<=a2/\a2<=9223372036854775807)(kT:KT w):
  Calls prog 3 #[.int .i64 a0,.agg #[.slice ab n c,.slice ae m ce],.int .i64 a2] w (Rt (.bool true) w):=by
 by_cases h:6<n∨12<m
 ·exact wu a0 a2 ab ae n c m ce w kT h
 ·obtain⟨f,hp,hqq⟩:=smF a0
  haveI:NeZero (smQ a0):=⟨by have:=f.big;omega⟩
  obtain⟨z,n',K,N,V,U,h1,h2,h3,h4,h5⟩:=vo f hp hqq a2 ab n c F gb ob bcs tb ae m ce E ge oe ecs te w (by omega) (by omega) hc hd hna hnb;exact wv a0 a2 (smP a0) (smQ a0) (smG a0) n' K N z V U ab ae n c m ce w kT h1 h2 h3 (by omega) (by omega) (Pv a0) h4 h5
theorem yR (os:Os)(started:os.Started)(H:Type)(enc:TypeId×Value->H):
  ReturnsInHanded {} Tryz.checked os 3 .any (fun w args=>(Rows.matrixDealsSpec.pre enc prog Tryz.f3 [] false w args/\laidMetH prog lk w)/\sizedMet enc prog Tryz.f3 (OpenSpec.ofChange Rows.matrixDealsSpec) false w args)
   (Rows.matrixDealsSpec.post enc prog Tryz.f3 false true false false):=by
 refine returnsInHanded_of_change_and (C:=Tryz.checked) (X:=fun w _=>laidMetH prog lk w) (fun _ _ _ hh h=>h.of_heap hh) own started (by kernel_rfl) func3
  (ChangeSpec.witness_shaped (enc:=enc) (C:=Tryz.checked) (os:=os) (X:=fun w _=>laidMetH prog lk w) false (World.doorLaid prog 14 os) #[.int .i64 0,.agg #[.slice none 0 0,.slice none 0 0],.int .i64 0] 8 rfl (World.shaped_of_RefB (by kernel_rfl) (by kernel_rfl)) (by kernel_rfl) (by kernel_rfl) (by kernel_rfl) (Ek os _)) ?_
 intro W base args ds gs before hval0 hW _ _ hL _;have hval: ∀(j:Nat) t v,Tryz.f3.params[j]?=some t->args[j]?=some v->Value.okWide prog W .any base t v:=hval0
 have hW':=hW;obtain⟨p,q,hA0,hV,rfl,hfz,hnd⟩:=hW;have hA:DataW.TrodAll enc prog W 0 (fun _=>true) true Tryz.f3.params.toList args.toList ds p:=hA0;rw[Tryz.params3]at hA hval;obtain⟨v0,vs0,d0,ds0,p0,q0,hargs,rfl,rfl,h0,r0⟩:=trodAll_cons hA;obtain⟨v1,vs1,d1,ds1,p1,q1,rfl,rfl,rfl,h1,r1⟩:=trodAll_cons r0;obtain⟨v2,vs2,d2,ds2,p2,q2,rfl,rfl,rfl,h2,r2⟩:=trodAll_cons r1;obtain⟨rfl,rfl,rfl⟩:=trodAll_nil r2
 obtain rfl:args=#[v0,v1,v2]:=by cases args;simp_all
 obtain⟨rfl,rfl⟩:=trodVars_none hV;have k0:=h0;have lt0:=UO h0;obtain⟨a0,rfl,rfl,rfl,w0⟩:=open_int bS0 (hval 0 3 v0 rfl rfl) h0;have k1:=h1;have lt1:=UO h1;obtain⟨ab1,n1,c1,F1,gb1,ob1,bcs1,tb1,ae1,m1,ce1,E1,ge1,oe1,ecs1,te1,rfl,hc1,hd1,hn1,hm1⟩:=IR (hval 1 23 v1 rfl rfl) h1;have k2:=h2;have lt2:=UO h2;obtain⟨a2,rfl,rfl,rfl,w2⟩:=open_int bS0 (hval 2 3 v2 rfl rfl) h2;clear hA0 hval0;refine(vr a0 ab1 n1 c1 F1 gb1 ob1 bcs1 tb1 ae1 m1 ce1 E1 ge1 oe1 ecs1 te1 a2 W (bounds_i64 w0) hc1 hd1 hn1 hm1 (bounds_i64 w2) (Lv hL)).mono fun e W' ⟨he,bel⟩=>?_
 subst he;exact⟨_,rfl,_,_,_,[],_,[],hW',trodAll_mk1 (shut_bool underlying4 _),(trodAll_cons_mk (Below.trod OM (by kernel_rfl) (fJ0 (by kernel_rfl)) k0 bel lt0) (trodAll_cons_mk (Below.trod OM (by kernel_rfl) (fJ0 (by kernel_rfl)) k1 bel lt1) (trodAll_cons_mk (Below.trod OM (by kernel_rfl) (fJ0 (by kernel_rfl)) k2 bel lt2) trodAll_mk0))),rfl,bel.frame _,fun h=>by cases h⟩
theorem vt:Rows.matrixDealsRow.holds Tryz.pinned (OpenSpec.ofChange Rows.matrixDealsSpec):=
 OpenClaim.holds_of_wide 3 Tryz.f3 rfl rfl rfl rfl rfl rfl rfl ⟨rfl,rfl,rfl,rfl,rfl⟩ rfl rfl rfl rfl rfl (by kernel_rfl) func3 (by kernel_rfl)
  (fJ0 (by kernel_rfl)) (by unfold Func.isWrapper;first|(rw[j_ (by decide+kernel)];kernel_rfl)|(rw[i_ (by decide+kernel)];exact⟨rfl,rfl⟩))
  (fun os started H enc _=>yR os started H enc)
theorem card:Claim7.holds Tryz.pinned (.plain (OpenSpec.ofChange Rows.matrixDealsSpec)) Rows.matrixDealsCard:=
 Claim7.holds_tied_plain_at .later [] [.data] true (true, "eb1696153f8cb3232e8b2f438456bf9c55f134f4348278d0aa98d579a3c22149") false
  vt (fun _ h=>by cases h) (by kernel_rfl) (fun _ h=>by cases h) matrixDeals_row_tie rfl ⟨rfl,rfl⟩ (by kernel_rfl) rfl
  (fun f fn hf hfn=>by
   obtain rfl:f=3:=aI0 ((show prog.funcNamed "sacristy/sacristylaw16.MatrixDeals" =some 3 by kernel_rfl).symm.trans hf) |>.symm;obtain rfl:fn=Tryz.f3:=(aI0 (func3.symm.trans hfn)).symm
   exact⟨by kernel_rfl,fun j t ht=>by
    rw[Tryz.params3]at ht;have hm:t∈[3,23,3]:=by simpa using Array.mem_of_getElem? ht
    have hall:([3,23,3].all fun u=> !prog.wantsStandIn u)=true:=by kernel_rfl
    exact(show prog.wantsStandIn t=false by simpa using aQ0.1 hall t hm)⟩)
  (by kernel_rfl)
end matrixDealsP
/-- for every number, two lists of naturals and a number: up to 6 numbers and up to 12 random ones, in a small group, by any number of liars, what is dealt, or that nothing is, is as the document says; no condition. -/
theorem matrixDeals_holds:Rows.MatrixDealsCardSaid:=matrixDealsP.card
end Go.Proofs.YtnagnkhbamhfmaaGreatDoor
