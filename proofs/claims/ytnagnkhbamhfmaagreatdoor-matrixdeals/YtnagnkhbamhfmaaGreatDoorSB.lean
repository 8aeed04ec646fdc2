import Derived.Test.YtnagnkhbamhfmaaGreatDoorPY
set_option maxRecDepth 100000
set_option maxHeartbeats 8000000
namespace Go.Proofs.YtnagnkhbamhfmaaGreatDoor
set_option linter.all false
open Go.RowKit
open Go.Proofs.Tryz
section
variable {Q:Nat}[NeZero Q]
def PlN (w:World)(base:Nat)(v:Value)(L:List (Fin Q)):Prop:= ∃gT N,v= .slice (some ⟨gT,0,none⟩) L.length N/\base<=gT/\L.length<=N/\Row w gT (nsC N (fun i=>(pco L i).val)) 57
theorem PlN.below {w w':World}{base:Nat}{v:Value}{L:List (Fin Q)}(h:PlN w base v L)(hb:Below w.heap.size w w'):PlN w' base v L:=by
 obtain⟨gT,N,h1,h2,h3,h4⟩:=h;exact⟨gT,N,h1,h2,h3,h4.belowAll hb⟩
theorem PlN.low {w:World}{base base':Nat}{v:Value}{L:List (Fin Q)}(h:PlN w base v L)(hb:base'<=base):PlN w base' v L:=by
 obtain⟨gT,N,h1,h2,h3,h4⟩:=h;exact⟨gT,N,h1,f_ hb h2,h3,h4⟩
theorem PlN.at' {w:World}{base:Nat}{v:Value}{L:List (Fin Q)}(h:PlN w base v L)(hQ:Q<2^256):NH w v L:=by
 obtain⟨gT,N,h1,h2,h3,h4⟩:=h;exact⟨_,_,gT,0,_,_,h1,(YA h4 fun i _=>E_ (pco L i).isLt hQ).take h3⟩
theorem E5 {w:World}{g n base:Nat}{F:Nat->Nat}{L:List (Fin Q)}(r:Row w g (nsC n F) 57)(hg:base<=g)(hF: ∀i,i<n->F i<Q)(hL: ∀i,pco (fl n F:List (Fin Q)) i=pco L i):PlN w base (.slice (some ⟨g,0,none⟩) (yTn F n) n) (Yk L):=by
 obtain⟨h1,h2⟩:=GW n F L hF hL;have h3:=T0 F n
 rw[Yw n F (fun i=>(pco (Yk L) i).val) (fun i hi=>by
  show F i=(pco (Yk L) i).val
  by_cases e:i<yTn F n
  ·exact h2 i e
  ·rw[Oq F n i (by omega) hi,Wp _ i (by omega)];rfl)]at r
 rw[h1];exact⟨g,n,rfl,hg,by omega,r⟩
theorem xz {g gr gf P G:Nat}{w:World}(va vb:Value)(La Lb:List (Fin Q))(q:FdQ Q)(h:GrpAt w g gr gf P Q G)(ha:PlA w va La)(hb:PlA w vb Lb):
  Calls prog 138 #[.pointer (some ⟨g,0,none⟩),va,vb] w fun e w'=> ∃v,e= .returned v/\PlN w' w.heap.size v (Q3 La Lb)/\Below w.heap.size w w':=by
 obtain⟨ab,n,c,F,gb,ob,bcs,tb,rfl,hn,hna,rfl⟩:=ha;obtain⟨ae,m,ce,E,ge,oe,ecs,te,rfl,hm,hnb,rfl⟩:=hb;refine(G9 _ ab ae n c m ce F E (fO Q) gb ob ge oe bcs ecs tb te w (by omega) (by omega) hna hnb (h.fa q)).mono ?_;rintro e w' ⟨gx,rfl,hgx,r,hb⟩;exact⟨_,rfl,E5 r hgx (fun i _=>m_ _ q.pos) fun i=>zE n F m E i,hb⟩
end
theorem By (g gr gf P Q G n ca ce:Nat)[NeZero Q](ab ae:Option Addr)(X Y:Nat->Nat)(gb ob ge oe:Nat)(bcs ecs:Array Value)(tb te:TypeId)(w:World)(q:FdQ Q)(hn:n<=32)(hn0:0<n)(hdd: ∀i j,i<n->j<n->i≠j->(fi (X i):Fin Q)≠fi (X j))(hna:NatsAt w ab n X gb ob bcs tb)(hnb:NatsAt w ae n Y ge oe ecs te)(h:GrpAt w g gr gf P Q G):
  Calls prog 97 #[.pointer (some ⟨g,0,none⟩),.slice ab n ca,.slice ae n ce] w fun e w'=> ∃vf,e= .returned (.tuple #[vf,.int .i64 0])/\PlN w' w.heap.size vf (tTh ivF (fun i=>(fi (X i):Fin Q)) (fun i=>(fi (Y i):Fin Q)) n)/\Below w.heap.size w w':=by
 have HB:Hid (NatsAt w ab n X gb ob bcs tb):=hna;have HE:Hid (NatsAt w ae n Y ge oe ecs te):=hnb;have HXl:Hid (∀k,k<n->X k<2^256):=hna.lt;have HYl:Hid (∀k,k<n->Y k<2^256):=hnb.lt;have HQm:Hid (Q<2^256):=q.m;have HQ:Hid (∀x:Fin Q,x.val<2^256):=fun x=>E_ x.isLt q.m
 have HD:Hid (∀k,k<n->pev (fi (X k)) (tGo (fun i=>(fi (X i):Fin Q)) k)≠0):=fun k hk=>JE q.pr _ _ k fun j hj=>hdd j k (by omega) hk (by omega)
 have HN0:Hid (0<n):=hn0;clear hna hnb hdd hn0;obtain⟨ie,hie,hz,hsz,_⟩:=Yn
 have hs1: ¬1*ie.size>2^24:=by rw[hsz];decide
 have hs2: ¬1*ie.size=0:=by rw[hsz];decide
 have hs3: ¬2*ie.size>2^24:=by rw[hsz];decide
 have hs4: ¬2*ie.size=0:=by rw[hsz];decide
 have hl1:=fun A=>Vf A ie.size hsz
 have hl2:=fun A B=>KP A B ie.size hsz
 have hg:=fun w' (hb:Below w.heap.size w w')=>Fc (some ⟨g,0,none⟩) (some ⟨gf,0,none⟩) P Q G (some ⟨gr,0,none⟩) w' (h.below hb).kn
 go_enter func97,ntmps97
 have sb:=YG w;iterate 2 go_step
 refine rp ?_;refine p_v (.slice none 0 0) ((fun _=>rfl)) ?_;refine p_v (.int .i64 0) (fun _=>rfl) (Zb ?_);simp only[pv];iterate 4 go_step
 refine rp ?_;refine p_m ?_;simp only[pv];refine p_c 137 func137 #[.pointer (some ⟨g,0,none⟩)] (hg _ sb) ?_;intro z1001 k;simp only[pv];replace sb:=kk sb k;clear k;refine p_v _ (Zz _ _ rfl true rfl) ?_;refine p_m ?_;refine p_m ?_;simp only[pv];refine p_v _ (n_l ab n ca Zm) ?_;refine p_m ?_;simp only[pv];refine p_v _ (n_l ae n ce Zm) ?_;simp only[pv];refine p_v _ (ZX .i64 _ _ _ _ rfl n n rfl rfl false (by rw[d_ rfl];rfl)) ?_;refine p_k false (.bool false) ?_;refine p_m ?_;refine p_m ?_;simp only[pv];refine p_v _ (n_l ab n ca Zm) ?_;refine p_v _ (UY n 32) ?_;refine p_k false (.bool false) (Zb ?_);simp only[pv];iterate 7 go_step
 refine rp ?_;refine p_v (.slice none 0 0) ((fun _=>rfl)) (Zb ?_);simp only[pv];iterate 3 go_step
 refine rp ?_;refine p_v _ (Z3 _ [(0,.const (.int .u64 1))] rfl [(0,.int .u64 1)] rfl (Zc 1) Sa) ?_;simp only[pv];refine Wb (by rfl) 22 57 1 _ rfl (Zc 1) ie _ r_ hie hz hs1 hs2 [(0,.agg (Zc 1))] rfl (hl1 1) ?_;intro gL z4001 n0 rL k;simp only[pv];clear n0;replace sb:=kk sb k;clear k;refine p_a (Zb ?_);simp only[pv];have hgo:PlA z4001 (.slice (some ⟨gL,0,none⟩) 1 1) (tGo (fun i=>(fi (X i):Fin Q)) 0):=JP rL (by decide);clear rL;iterate 4 go_step
 refine rp ?_;refine p_m ?_;simp only[pv];refine p_v _ (n_l ab n ca Zm) ?_;refine p_v (.int .i64 0) (fun _=>rfl) (Zb ?_);simp only[pv]
 go_wp2_with fail
 go_loopg [8,9,10,11,12,32] n (fun x s8 s9 s10 s11 s12 s32 wr=> ∃k:Nat,∃vf vg:Value,k+x=n/\vf=s8/\vg=s9/\s32= .int .i64 k/\NH wr vf (tTh ivF (fun i=>(fi (X i):Fin Q)) (fun i=>(fi (Y i):Fin Q)) k)/\PlA wr vg (tGo (fun i=>(fi (X i):Fin Q)) k)/\(k=0∨PlN wr w.heap.size vf (tTh ivF (fun i=>(fi (X i):Fin Q)) (fun i=>(fi (Y i):Fin Q)) k))/\Below w.heap.size w wr)
 case atStart=>exact⟨0,_,_,by omega,rfl,rfl,rfl,Fb _,hgo,.inl rfl,sb⟩
 case round=>
  clear hgo sb;obtain⟨k,vf,vg,hk,rfl,rfl,rfl,hf,hgo,hpn,sb⟩:=hrel
  cases gk with
  |zero=>
   obtain rfl:k=n:=by omega
   clear hk hf;have hf:PlN _ w.heap.size vf (tTh ivF (fun i=>(fi (X i):Fin Q)) (fun i=>(fi (Y i):Fin Q)) k):=hpn.resolve_left (by have:=HN0.out;omega);clear hpn
   go_step
   refine rp ?_;refine p_v _ (Xe k k) (Zb ?_);simp only[pv];iterate 8 go_step
   refine rp ?_;refine p_m ?_;refine p_a ?_;refine p_v (.int .i64 0) (fun _=>rfl) (Zb ?_);simp only[pv];go_wp2;go_ret2;exact⟨_,rfl,hf,sb⟩
  |succ x=>
   have hlt:k<n:=by omega
   clear hpn;obtain⟨T,hT⟩: ∃T,pev (fi (X k)) (tGo (fun i=>(fi (X i):Fin Q)) k)=T:=⟨_,rfl⟩
   have hfl:=Vv ivF (fun i=>(fi (X i):Fin Q)) (fun i=>(fi (Y i):Fin Q)) k;have hev:=fun w' (hb:Below w.heap.size w w') (hg:PlA w' vg (tGo (fun i=>(fi (X i):Fin Q)) k))=>Bs vg _ (X k) (HXl.out k hlt) q (h.below hb) hg
   rw[hT]at hev;have het:=(HQ.out T)
   go_step
   refine rp ?_;refine p_v _ (X4 k n) (Zb ?_);simp only[pv];iterate 10 go_step
   refine rp ?_;refine p_m ?_;refine p_a (Zb ?_);simp only[pv];obtain h1|⟨rfl,rB,hbt⟩:=(HB.out.below sb).at'
   ·exact absurd h1 (by omega)
   have hbt':=hbt k hlt;clear hbt;iterate 3 go_step
   have cb:=Y8 sb;refine rp ?_;refine p_m ?_;refine p_m ?_;refine p_m ?_;refine p_m ?_;simp only[pv];refine p_x k hlt r_ ZC ?_;simp only[pv];refine ZJ (by rfl) 57 _ rfl _ (ob+k*4) rfl rB (Zc (X k)) hbt' _ b_ rfl Zd ?_;simp only[pv];refine p_c 65 func65 #[.pointer (some ⟨g,0,none⟩),vg,.agg (Zc (X k))] (hev _ sb (hgo.below cb)) ?_;intro z8006 k;simp only[pv];replace cb:=cb.trans (k.below _ cb.size (by simp<;>omega));replace sb:=kk sb k;clear k;refine ZT (by rfl) 57 rfl _ Zp ?_;intro g11 z8007 n0 r11 k;simp only[pv];have bcbx11:=f_ cb.size n0;have b11:=f_ sb.size n0;clear n0;replace cb:=cb.trans (k.below _ cb.size (by simp<;>omega));replace sb:=kk sb k;clear k;refine p_p r11 (T.val) ?_;clear r11;intro z8008 r11 k;simp only[Act.put];replace cb:=cb.trans (k.below _ cb.size (by simp<;>omega));replace sb:=kk sb k;clear k;refine Zb ?_;replace hf:=hf.below cb;replace hgo:=hgo.below cb;clear cb;have hz0:T≠0:=hT▸HD.out k hlt
   ·have hd:decide (T.val%2^256=0%2^256)=false:=by
     rw[g_ het];exact e_ fun e=>hz0 ((zB T).1 e)
    clear hz0;obtain⟨U,hU⟩: ∃U,pev (fi (X k)) (tTh ivF (fun i=>(fi (X i):Fin Q)) (fun i=>(fi (Y i):Fin Q)) k)=U:=⟨_,rfl⟩
    have hev2:=fun w' (hb:Below w.heap.size w w') (hf:NH w' vf (tTh ivF (fun i=>(fi (X i):Fin Q)) (fun i=>(fi (Y i):Fin Q)) k))=>Bs vf _ (X k) (HXl.out k hlt) q (h.below hb) (hf.arg (by omega))
    rw[hU]at hev2;obtain⟨MI,hMI⟩: ∃MI,sbN (Y k) U.val Q=MI:=⟨_,rfl⟩
    have hMl:MI<2^256:=by rw[<-hMI];exact E_ (m_ _ q.pos) q.m
    have hsu:=fun w' (hb:Below w.heap.size w w')=>Jr (Y k) U.val g gr gf P Q G w' (HYl.out k hlt) (HQ.out U) q (h.below hb)
    rw[hMI]at hsu;obtain⟨IV,hIV⟩: ∃IV,Ru T.val Q=IV:=⟨_,rfl⟩
    have hIl:IV<2^256:=by rw[<-hIV];exact E_ (zy _ _ q.pr) q.m
    have hiv:=fun w' (hb:Below w.heap.size w w')=>Bc T.val g gr gf P Q G w' het q (h.below hb)
    rw[hIV]at hiv;obtain⟨CC,hCC⟩: ∃CC,MI*IV%Q=CC:=⟨_,rfl⟩
    have hCl:CC<2^256:=by rw[<-hCC];exact E_ (m_ _ q.pos) q.m
    have hmu:=fun w' (hb:Below w.heap.size w w')=>Oj MI IV g gr gf P Q G w' hMl hIl q (h.below hb)
    rw[hCC]at hmu
    have hcf:(fi CC:Fin Q)=((fi (Y k)-pev (fi (X k)) (tTh ivF (fun i=>(fi (X i):Fin Q)) (fun i=>(fi (Y i):Fin Q)) k))*ivF (pev (fi (X k)) (tGo (fun i=>(fi (X i):Fin Q)) k))):=by
     rw[hU,hT];unfold ivF;rw[hIV,<-hCC,WU,Un,<-hMI];unfold sbN;rw[EQ,On]
    obtain⟨SX,hSX⟩: ∃SX,sbN 0 (X k) Q=SX:=⟨_,rfl⟩
    have hSl:SX<2^256:=by rw[<-hSX];exact E_ (m_ _ q.pos) q.m
    have hs0:=fun w' (hb:Below w.heap.size w w')=>Jr 0 (X k) g gr gf P Q G w' (by decide) (HXl.out k hlt) q (h.below hb)
    rw[hSX]at hs0
    have hsf:(fi SX:Fin Q)=0-fi (X k):=by
     rw[<-hSX];unfold sbN;rw[EQ];rfl
    have hgl:=Vu (fun i=>(fi (X i):Fin Q)) k;have hpm:=fun w' g2 (hb:Below w.heap.size w w') (hg:PlA w' vg (tGo (fun i=>(fi (X i):Fin Q)) k)) (r:Row w' g2 (Zc CC) 57)=>wE vg (.slice (some ⟨g2,0,none⟩) 1 1) _ [fi CC] q (h.below hb) hg (JP r hCl)
    have hpa:=fun w' (v2:Value) (hb:Below w.heap.size w w') (hf:NH w' vf (tTh ivF (fun i=>(fi (X i):Fin Q)) (fun i=>(fi (Y i):Fin Q)) k)) (h2:NH w' v2 (Um (tGo (fun i=>(fi (X i):Fin Q)) k) [fi CC]))=>(xz vf v2 _ _ q (h.below hb) (hf.arg (by omega)) (h2.arg (by have:=WP (tGo (fun i=>(fi (X i):Fin Q)) k) [(fi CC:Fin Q)];simp only[bB0,eJ0]at this;omega))).mono (R':=fun e w2=> ∃v,e=Ending.returned v/\PlN w2 w.heap.size v (Q3 (tTh ivF (fun i=>(fi (X i):Fin Q)) (fun i=>(fi (Y i):Fin Q)) k) (Um (tGo (fun i=>(fi (X i):Fin Q)) k) [fi CC]))/\Below w'.heap.size w' w2) (fun e w2 ⟨v,h1,h2,h3⟩=>⟨v,h1,h2.low hb.size,h3⟩)
    have hpg:=fun w' g2 (hb:Below w.heap.size w w') (hg:PlA w' vg (tGo (fun i=>(fi (X i):Fin Q)) k)) (r:Row w' g2 (Zc SX++Zc 1) 57)=>wE vg (.slice (some ⟨g2,0,none⟩) 2 2) _ [fi SX,fi 1] q (h.below hb) hg (Bt r hSl (by decide))
    have hthr:Q3 (tTh ivF (fun i=>(fi (X i):Fin Q)) (fun i=>(fi (Y i):Fin Q)) k) (Um (tGo (fun i=>(fi (X i):Fin Q)) k) [fi CC])=tTh ivF (fun i=>(fi (X i):Fin Q)) (fun i=>(fi (Y i):Fin Q)) (k+1):=by rw[hcf];rfl
    have hgor:Um (tGo (fun i=>(fi (X i):Fin Q)) k) [fi SX,fi 1]=tGo (fun i=>(fi (X i):Fin Q)) (k+1):=by rw[hsf];rfl
    rw[hthr]at hpa;rw[hgor]at hpg;have hgl2:=Vu (fun i=>(fi (X i):Fin Q)) (k+1);clear hthr hgor hcf hsf hMI hIV hCC hSX hT hU hev;obtain h1|⟨rfl,rE,het2⟩:=(HE.out.below sb).at'
    ·exact absurd h1 (by omega)
    clear rE rB;have het2':=het2 k hlt;clear het2;iterate 4 go_step
    refine rp ?_;refine p_l r11.r ?_;simp only[pv];refine p_v _ (ZE _ rfl _ ZA) ?_;simp only[pv];refine p_v (.bool false) (fun w'=>(ZG _ _ _ rfl T.val 0 rfl rfl w').trans (by rw[hd])) (Zb ?_);simp only[pv];obtain h1|⟨_,rB,_⟩:=(HB.out.below sb).at'
    ·exact absurd h1 (by omega)
    obtain h1|⟨_,rE,_⟩:=(HE.out.below sb).at'
    ·exact absurd h1 (by omega)
    iterate 7 go_step
    apply Zi (by kernel_rfl) [] [_,_,_,_,_,_,_,_,_,_,_,_,_,_,_] trivial a_
    ·intro p;refine m_m ?_;refine m_m ?_;refine m_m ?_;simp only[pv];refine m_x k hlt r_ ZC ?_;simp only[pv];refine Yj 57 _ rfl _ (oe+k*4) rfl rE (by simp<;>omega) (Zc (Y k)) het2' _ b_ rfl Zd ?_;refine m_m ?_;refine m_m ?_;refine m_m ?_;refine m_m ?_;simp only[pv];refine m_x k hlt r_ ZC ?_;simp only[pv];refine Yj 57 _ rfl _ (ob+k*4) rfl rB (by simp<;>omega) (Zc (X k)) hbt' _ b_ rfl Zd ?_;simp only[pv];refine m_k 65 func65 #[.pointer (some ⟨g,0,none⟩),vf,.agg (Zc (X k))] (fun w' hk=>hev2 w' (sb.trans (hk.below w.heap.size sb.size (by simp<;>omega))) (hf.below hk.nil)) ?_;simp only[pv];refine m_k 118 func118 #[.pointer (some ⟨g,0,none⟩),.agg (Zc (Y k)),.agg (Zc U.val)] (fun w' hk=>hsu w' (sb.trans (hk.below w.heap.size sb.size (by simp<;>omega)))) ?_;simp only[pv];refine m_n ?_;simp only[pv];refine m_p 27 MI ?_;simp only[Act.put];refine Zf ?_;intro w2 hkw hrw hnew hdis;have r12:Row w2 (p 13) (Zc MI) 57:=hrw 27 (57,Zc MI) rfl;replace r11:=hkw.row r11 (by simp);replace hf:=hf.below hkw.nil;replace hgo:=hgo.below hkw.nil;replace sb:=sb.trans (hkw.below w.heap.size sb.size (by simp));clear hkw hrw hnew hdis rB rE;generalize p 13=g12 at*;iterate 3 go_step
     refine YL (by kernel_rfl) [] [(0,false),(1,false),(2,false),(3,false),(4,false),(5,false),(6,false),(7,false),(8,false),(9,false),(10,true),(11,true),(12,true),(13,false)] ?_ (by kernel_rfl);have or11:=r11;have or12:=r12;have cb:=Y8 sb;have osb:=sb;refine e_m ?_;refine e_m ?_;refine e_m ?_;refine e_m ?_;refine e_m ?_;simp only[pv];refine Wm (by rfl) 57 _ rfl _ 0 rfl (fun _ hb=>(or12.belowAll hb).r) _ (Yi _) _ b_ rfl Zd ?_;refine e_m ?_;simp only[pv];refine Wm (by rfl) 57 _ rfl _ 0 rfl (fun _ hb=>(or11.belowAll hb).r) _ (Yi _) _ b_ rfl Zd ?_;simp only[pv];refine YS (by rfl) 140 _ _ rfl func140 (by kernel_rfl) #[.pointer (some ⟨g,0,none⟩),.agg (Zc T.val)] rfl _ (fun w' hb=>hiv w' (Zk osb (c_ _) hb)) ?_;simp only[pv];refine YS (by rfl) 100 _ _ rfl func100 (by kernel_rfl) #[.pointer (some ⟨g,0,none⟩),.agg (Zc MI),.agg (Zc IV)] rfl _ (fun w' hb=>hmu w' (Zk osb (c_ _) hb)) ?_;simp only[pv];refine Wq (by rfl) 22 57 1 _ rfl (Zc CC) ie _ r_ hie hz hs1 hs2 [(0,.agg (Zc CC))] rfl (hl1 CC) ?_;intro wa10 hqb gC wb10 n0 rC hb;refine⟨fun _=>Zk (Zk cb (c_ _) hqb) (c_ _) hb,?_⟩;simp only[pv];replace hf:=hf.below hqb;replace hgo:=hgo.below hqb;replace r11:=r11.belowAll hqb;replace r12:=r12.belowAll hqb;replace sb:=b_o sb hqb;replace cb:=b_o cb hqb;replace hf:=hf.below hb;replace hgo:=hgo.below hb;replace r11:=r11.belowAll hb;replace r12:=r12.belowAll hb;replace sb:=b_o sb hb;replace cb:=b_o cb hb;clear hqb hb n0;refine XM (by rfl) 139 _ _ rfl func139 (by kernel_rfl) #[.pointer (some ⟨g,0,none⟩),vg,.slice (some ⟨gC,0,none⟩) 1 1] rfl ?_;intro wa11 hqb;replace hf:=hf.below hqb;replace hgo:=hgo.below hqb;replace r11:=r11.belowAll hqb;replace r12:=r12.belowAll hqb;replace rC:=rC.belowAll hqb;replace sb:=b_o sb hqb;replace cb:=b_o cb hqb;clear hqb;refine(hpm _ gC sb hgo rC).mono ?_;rintro _ wb11 ⟨vm,rfl,hm,hb⟩;refine⟨_,rfl,fun _=>Zk cb (c_ _) hb,?_⟩;simp only[pv];replace hf:=hf.below hb;replace hgo:=hgo.below hb;replace r11:=r11.belowAll hb;replace r12:=r12.belowAll hb;replace rC:=rC.belowAll hb;replace sb:=b_o sb hb;replace cb:=b_o cb hb;clear hb;refine XM (by rfl) 138 _ _ rfl func138 (by kernel_rfl) #[.pointer (some ⟨g,0,none⟩),vf,vm] rfl ?_;intro wa12 hqb;replace hf:=hf.below hqb;replace hgo:=hgo.below hqb;replace r11:=r11.belowAll hqb;replace r12:=r12.belowAll hqb;replace rC:=rC.belowAll hqb;replace hm:=hm.below hqb;replace sb:=b_o sb hqb;replace cb:=b_o cb hqb;clear hqb;refine(hpa _ vm sb hf hm).mono ?_;rintro _ wb12 ⟨vn,rfl,hn2,hb⟩;refine⟨_,rfl,fun _=>Zk cb (c_ _) hb,?_⟩;simp only[pv];replace hf:=hf.below hb;replace hgo:=hgo.below hb;replace r11:=r11.belowAll hb;replace r12:=r12.belowAll hb;replace rC:=rC.belowAll hb;replace hm:=hm.below hb;replace sb:=b_o sb hb;replace cb:=b_o cb hb;clear hb;refine Ot (by rfl) rfl rfl ?_;simp only[pv];refine Vk ?_;intro wz hqb;replace hf:=hf.below hqb;replace hgo:=hgo.below hqb;replace r11:=r11.belowAll hqb;replace r12:=r12.belowAll hqb;replace rC:=rC.belowAll hqb;replace hm:=hm.below hqb;replace hn2:=hn2.below hqb;replace sb:=b_o sb hqb;clear hqb cb osb or11 or12;obtain h1|⟨_,rB,_⟩:=(HB.out.below sb).at'
     ·exact absurd h1 (by omega)
     iterate 2 go_step
     refine rp ?_;refine p_m ?_;refine p_m ?_;refine p_m ?_;simp only[pv];refine p_v _ (ZE _ rfl _ ZA) ?_;refine p_m ?_;refine p_m ?_;simp only[pv];refine p_x k hlt r_ ZC ?_;simp only[pv];refine ZJ (by rfl) 57 _ rfl _ (ob+k*4) rfl rB (Zc (X k)) hbt' _ b_ rfl Zd ?_;simp only[pv];refine p_c 118 func118 #[.pointer (some ⟨g,0,none⟩),.agg (Zc 0),.agg (Zc (X k))] (hs0 _ sb) ?_;intro z13008 k;simp only[pv];replace hgo:=hgo.below k.nil;replace hn2:=hn2.below k.nil;replace sb:=kk sb k;clear k;refine p_v _ (Z3 _ [(0,.const (.int .u64 1))] rfl [(0,.int .u64 1)] rfl (Zc 1) Sa) ?_;simp only[pv];refine Wb (by rfl) 22 57 2 _ rfl (Zc SX++Zc 1) ie _ r_ hie hz hs3 hs4 [(0,.agg (Zc SX)),(1,.agg (Zc 1))] rfl (hl2 SX 1) ?_;intro gL z13010 n0 rL k;simp only[pv];clear n0;replace hgo:=hgo.below k.nil;replace hn2:=hn2.below k.nil;replace sb:=kk sb k;clear k;refine p_f 139 func139 #[.pointer (some ⟨g,0,none⟩),vg,.slice (some ⟨gL,0,none⟩) 2 2] (hpg _ gL sb hgo rL) ?_;rintro _ z13011 ⟨vh,rfl,hh,hb⟩;refine⟨_,rfl,?_⟩;simp only[pv];have k:=Kept.ofBelow hb;clear hb;replace hgo:=hgo.below k.nil;replace hn2:=hn2.below k.nil;replace rL:=k.ro rL;replace sb:=kk sb k;clear k;refine p_a (Zb ?_);simp only[pv];iterate 2 go_step
     refine rp ?_;refine p_v _ (x_a k 1) ?_;refine p_m (Zb ?_);simp only[pv];go_wp2
     go_roundg x
     case measure=>omega
     case rel=>exact⟨k+1,_,_,by omega,rfl,rfl,rfl,hn2.at' HQm.out,hh.arg (by omega),.inr hn2,sb⟩
    ·kernel_rfl
theorem Ff (v f:Option Addr)(P Q G:Nat)(r:Option Addr)(w:World)(h:Oi w v P Q G r f):
  Calls prog 94 #[.pointer v] w fun e w'=>e= .returned (.bool (!f.isNone))/\Below w.heap.size w w':=by
 have hf:=fun w' (hb:Below w.heap.size w w')=>YF v P Q G r f w' (h.below hb)
 go_enter func94,ntmps94
 have sb:=YG w;iterate 2 go_step
 refine rp ?_;refine p_v (.bool false) (fun _=>rfl) (Zb ?_);simp only[pv];iterate 3 go_step
 refine rp ?_;refine p_m ?_;simp only[pv];refine p_c 98 func98 #[.pointer v] (hf _ sb) ?_;intro z1001 k;simp only[pv];replace sb:=kk sb k;clear k;refine p_v _ (YK _ _ _ _ rfl f rfl rfl Vh) ?_;refine p_a (Zb ?_);simp only[pv];go_wp2;go_ret;exact⟨rfl,sb⟩
theorem JV {fn:Func}(n:Nat)(least:Int)(f:FuncId)(caps:Array Value)(Z:Nat->Int)(w:World)(hf:prog.funcs[f]?=some fn)(hb0:(fn.name== "runtime.NumGoroutine" ||fn.body.isNone)=false)(hn:n<9223372036854775808)(hl:0<=least)
  (hc: ∀k:Nat,k<n-> ∀w',Below w.heap.size w w'->Calls prog f (#[.int .i64 k]++caps) w' (Rt (.int .i64 (Z k)) w')):
  Calls prog 95 #[.int .i64 n,.int .i64 least,.func (.func f) #[] caps] w fun e w'=>e= .returned (.bool (apB least Z n))/\Below w.heap.size w w':=by
 go_enter func95,ntmps95
 have sb:=YG w;iterate 2 go_step
 refine rp ?_;refine p_v (.bool false) (fun _=>rfl) (Zb ?_);simp only[pv];iterate 3 go_step
 refine rp ?_;refine ZT (by rfl) 173 rfl _ Bx ?_;intro g7 z1000 n0 r7 k;simp only[pv];have b7:=f_ sb.size n0;clear n0;replace sb:=kk sb k;clear k;refine Zb ?_;iterate 4 go_step
 refine rp ?_;refine p_m ?_;refine p_v (.int .i64 0) (fun _=>rfl) (Zb ?_);simp only[pv]
 go_wp2_with fail
 go_loopg [8,9,11] n (fun x s8 s9 s11 wr=> ∃k:Nat,k+x=n/\s11= .int .i64 k/\apB least Z k=true/\Row wr g7 (vsC 8 (fun v=>.bool (snB Z (k) v))) 173/\Below w.heap.size w wr)
 case atStart=>exact⟨0,by omega,rfl,rfl,r7,sb⟩
 case round=>
  clear r7 sb;obtain⟨k,hk,rfl,hap,r7,sb⟩:=hrel
  cases gk with
  |zero=>
   obtain rfl:k=n:=by omega
   have HF:Hid (apB least Z k=true):=hap;clear hk hc hap
   go_step
   refine rp ?_;refine p_v _ (Xe k k) (Zb ?_);simp only[pv];iterate 8 go_step
   refine rp ?_;refine p_v (.bool true) (fun _=>rfl) (Zb ?_);simp only[pv];go_wp2;go_ret;exact⟨by rw[HF.out];rfl,sb⟩
  |succ x=>
   have hlt:k<n:=by omega
   have hck:=hc k hlt;have hst:=NJ least Z k;clear hc;by_cases h1:Z k<least
   ·have HF:Hid (apB least Z n=false):=NK (k:=k+1) (eK0.2 fun h=>absurd (hst.1 h).2.1 (by omega)) n (by omega);clear hst hap
    go_step
    refine rp ?_;refine p_v _ (X4 k n) (Zb ?_);simp only[pv];iterate 10 go_step
    refine rp ?_;refine p_m ?_;refine p_a (Zb ?_);simp only[pv];iterate 3 go_step
    refine rp ?_;refine p_m ?_;refine p_m ?_;simp only[pv];refine Xa (by rfl) (f) _ _ _ rfl (caps) rfl (hf) (hb0) #[.int .i64 (k:Nat)] rfl _ (hck _ sb) ?_;intro z5002 k;simp only[pv];replace r7:=k.ro r7;replace sb:=kk sb k;clear k;refine p_a (Zb ?_);simp only[pv];iterate 4 go_step
    refine rp ?_;refine p_m ?_;refine p_m ?_;simp only[pv];refine p_v _ (YB _ _ _ _ rfl (Z k) least rfl rfl true (d_ h1)) ?_;refine p_m ?_;refine p_s ?_;refine p_s ?_;refine p_k true (.bool true) ?_;simp only[pv];refine p_m ?_;refine p_s ?_;refine p_s ?_;refine p_s ?_;refine p_k true (.bool true) (Zb ?_);simp only[pv];iterate 4 go_step
    refine rp ?_;refine p_v (.bool false) (fun _=>rfl) (Zb ?_);simp only[pv];go_wp2;go_ret;exact⟨by rw[HF.out];rfl,sb⟩
   ·by_cases h2:7<Z k
    ·have HF:Hid (apB least Z n=false):=NK (k:=k+1) (eK0.2 fun h=>absurd (hst.1 h).2.2.1 (by omega)) n (by omega);clear hst hap
     go_step
     refine rp ?_;refine p_v _ (X4 k n) (Zb ?_);simp only[pv];iterate 10 go_step
     refine rp ?_;refine p_m ?_;refine p_a (Zb ?_);simp only[pv];iterate 3 go_step
     refine rp ?_;refine p_m ?_;refine p_m ?_;simp only[pv];refine Xa (by rfl) (f) _ _ _ rfl (caps) rfl (hf) (hb0) #[.int .i64 (k:Nat)] rfl _ (hck _ sb) ?_;intro z5002 k;simp only[pv];replace r7:=k.ro r7;replace sb:=kk sb k;clear k;refine p_a (Zb ?_);simp only[pv];iterate 4 go_step
     refine rp ?_;refine p_m ?_;refine p_m ?_;simp only[pv];refine p_v _ (YB _ _ _ _ rfl (Z k) least rfl rfl false (e_ h1)) ?_;refine p_m ?_;refine p_m ?_;simp only[pv];refine p_v _ (Yg _ _ _ _ rfl (Z k) 7 rfl rfl true (d_ h2)) ?_;refine p_k false (.bool true) ?_;refine p_m ?_;refine p_s ?_;refine p_s ?_;simp only[pv];refine p_s ?_;refine p_k true (.bool true) (Zb ?_);simp only[pv];iterate 4 go_step
     refine rp ?_;refine p_v (.bool false) (fun _=>rfl) (Zb ?_);simp only[pv];go_wp2;go_ret;exact⟨by rw[HF.out];rfl,sb⟩
    ·obtain⟨v,hv⟩: ∃v:Nat,Z k=v:=⟨(Z k).toNat,by omega⟩
     have hv8:v<8:=by omega
     rw[hv]at hck h1 h2 hst
     cases hs:snB Z k v with
     |true=>
      have HF:Hid (apB least Z n=false):=NK (k:=k+1) (eK0.2 fun h=>absurd (hst.1 h).2.2.2 (by rw[hs];decide)) n (by omega);clear hst hap
      go_step
      refine rp ?_;refine p_v _ (X4 k n) (Zb ?_);simp only[pv];iterate 10 go_step
      refine rp ?_;refine p_m ?_;refine p_a (Zb ?_);simp only[pv];iterate 3 go_step
      refine rp ?_;refine p_m ?_;refine p_m ?_;simp only[pv];refine Xa (by rfl) (f) _ _ _ rfl (caps) rfl (hf) (hb0) #[.int .i64 (k:Nat)] rfl _ (hck _ sb) ?_;intro z5002 k;simp only[pv];replace r7:=k.ro r7;replace sb:=kk sb k;clear k;refine p_a (Zb ?_);simp only[pv];iterate 4 go_step
      refine rp ?_;refine p_m ?_;refine p_m ?_;simp only[pv];refine p_v _ (YB _ _ _ _ rfl (v:Nat) least rfl rfl false (e_ h1)) ?_;refine p_m ?_;refine p_m ?_;simp only[pv];refine p_v _ (Yg _ _ _ _ rfl (v:Nat) 7 rfl rfl false (e_ h2)) ?_;refine p_k false (.bool false) ?_;refine p_m ?_;refine p_m ?_;simp only[pv];refine p_v _ (Zt 173 _ _ rfl g7 rfl v 8 rfl hv8 _ underlying173 sizeOf4) ?_;simp only[pv];refine p_d v r7.r (.bool true) ((XA _ hv8).trans (by rw[hs])) isAgg4 ?_;refine p_k false (.bool true) (Zb ?_);simp only[pv];iterate 4 go_step
      refine rp ?_;refine p_v (.bool false) (fun _=>rfl) (Zb ?_);simp only[pv];go_wp2;go_ret;exact⟨by rw[HF.out];rfl,sb⟩
     |false=>
      have hap2:apB least Z (k+1)=true:=hst.2 ⟨hap,by omega,by omega,hs⟩;have hput:(vsC 8 (fun v=>.bool (snB Z (k) v))).setIfInBounds v (.bool true)=vsC 8 (fun v=>.bool (snB Z (k+1) v)):=VZ hv8 (by show Value.bool (snB Z k _||decide (Z k=_))=_;rw[hv,d_ rfl,fQ0]) (fun j hj hne=>by show Value.bool (snB Z k _||decide (Z k=_))=_;rw[hv,e_ (by omega),Bool.or_false]);clear hst hap
      go_step
      refine rp ?_;refine p_v _ (X4 k n) (Zb ?_);simp only[pv];iterate 10 go_step
      refine rp ?_;refine p_m ?_;refine p_a (Zb ?_);simp only[pv];iterate 3 go_step
      refine rp ?_;refine p_m ?_;refine p_m ?_;simp only[pv];refine Xa (by rfl) (f) _ _ _ rfl (caps) rfl (hf) (hb0) #[.int .i64 (k:Nat)] rfl _ (hck _ sb) ?_;intro z5002 k;simp only[pv];replace r7:=k.ro r7;replace sb:=kk sb k;clear k;refine p_a (Zb ?_);simp only[pv];iterate 4 go_step
      refine rp ?_;refine p_m ?_;refine p_m ?_;simp only[pv];refine p_v _ (YB _ _ _ _ rfl (v:Nat) least rfl rfl false (e_ h1)) ?_;refine p_m ?_;refine p_m ?_;simp only[pv];refine p_v _ (Yg _ _ _ _ rfl (v:Nat) 7 rfl rfl false (e_ h2)) ?_;refine p_k false (.bool false) ?_;refine p_m ?_;refine p_m ?_;simp only[pv];refine p_v _ (Zt 173 _ _ rfl g7 rfl v 8 rfl hv8 _ underlying173 sizeOf4) ?_;simp only[pv];refine p_d v r7.r (.bool false) ((XA _ hv8).trans (by rw[hs])) isAgg4 ?_;refine p_k false (.bool false) (Zb ?_);simp only[pv];iterate 6 go_step
      refine rp ?_;refine p_m ?_;simp only[pv];refine p_v _ (Zt 173 _ _ rfl g7 rfl v 8 rfl hv8 _ underlying173 sizeOf4) ?_;simp only[pv];refine Xx (by rfl) 4 _ _ rfl _ (v) rfl r7 (.bool true) rfl rfl rfl M2 (by rw[Xb];omega) (vsC 8 (fun v=>.bool (snB Z (k+1) v))) hput ?_;clear r7;intro z8002 r7 k;simp only[Act.put];replace sb:=kk sb k;clear k;refine Zb ?_;clear hput;iterate 2 go_step
      refine rp ?_;refine p_v _ (x_a k 1) ?_;refine p_m (Zb ?_);simp only[pv];go_wp2
      go_roundg x
      case measure=>omega
      case rel=>exact⟨k+1,by omega,rfl,hap2,r7,sb⟩
section
variable {Q:Nat}[NeZero Q]{g gr gf P G:Nat}{w:World}
end
def anB (B:Nat->Bool):Nat->Bool
 |0=>false
 |n+1=>anB B n||B n
theorem Vm (B:Nat->Bool): ∀n,anB B n=true↔ ∃k,k<n/\B k=true
 |0=>⟨fun h=>(by cases h),fun⟨k,hk,_⟩=>absurd hk (by omega)⟩
 |n+1=>by
  show(anB B n||B n)=true↔_
  rw[bQ0,Vm B n];constructor
  ·rintro(⟨k,hk,e⟩|e)
   ·exact⟨k,by omega,e⟩
   ·exact⟨n,by omega,e⟩
  ·rintro⟨k,hk,e⟩;by_cases h:k=n
   ·exact .inr (h▸e)
   ·exact .inl ⟨k,by omega,e⟩
section
variable {Q:Nat}[NeZero Q]{g gr gf P G:Nat}{w:World}
end
section
variable {Q:Nat}[NeZero Q]{g gr gf P G:Nat}{w:World}
def e4 (b:Bool):Int:=if b then 4 else 0
def RcP (b:Bool)(w:World)(v:Value)(L:List (Fin Q)):Prop:=(b=false->NH w v L)/\(b=true->v= .slice none 0 0)
end
theorem Oz:prog.underlying 50=some (.slice (prog.elem 50)):=by kernel_rfl
structure ZsAt (w:World)(ab:Option Addr)(n:Nat)(Z:Nat->Int)(gb ob:Nat)(bcs:Array Value)(tb:TypeId):Prop where
 at':n=0∨(ab=some ⟨gb,ob,none⟩/\WV w gb bcs tb/\ ∀i,i<n->bcs[ob+i*1]?=some (.int .i64 (Z i)))
theorem ZsAt.below {w w2:World}{ab:Option Addr}{n:Nat}{Z:Nat->Int}{gb ob:Nat}{bcs:Array Value}{tb:TypeId}(h:ZsAt w ab n Z gb ob bcs tb)(hb:Below w.heap.size w w2):ZsAt w2 ab n Z gb ob bcs tb:=
 ⟨h.at'.imp id fun⟨h1,h2,h3⟩=>⟨h1,h2.belowAll hb,h3⟩⟩
theorem ZsAt.congr {w:World}{ab:Option Addr}{n:Nat}{Z Z':Nat->Int}{gb ob:Nat}{bcs:Array Value}{tb:TypeId}(h:ZsAt w ab n Z gb ob bcs tb)(he: ∀i,i<n->Z i=Z' i):ZsAt w ab n Z' gb ob bcs tb:=
 ⟨h.at'.imp id fun⟨h1,h2,h3⟩=>⟨h1,h2,fun i hi=>by rw[<-he i hi];exact h3 i hi⟩⟩
theorem NumsAt.zs {w:World}{ab:Option Addr}{n:Nat}{u:Nat->Nat}{gb ob:Nat}{bcs:Array Value}{tb:TypeId}(h:NumsAt w ab n u gb ob bcs tb):ZsAt w ab n (fun i=>((u i:Nat):Int)) gb ob bcs tb:=⟨h.at'⟩
theorem Fg:(prog.info? 22).map (fun i=>(i.zero,i.size,i.bytes))=some (some (.slice none 0 0),1,24):=by kernel_rfl
theorem Tf: ∃i,prog.info? 22=some i/\i.zero=some (.slice none 0 0)/\i.size=1/\i.bytes=24:=by
 have h:=Fg
 cases hi:prog.info? 22 with
 |none=>rw[hi]at h;cases h
 |some i=>
  rw[hi]at h;simp only[aS0,aL0,dE0]at h;exact⟨i,rfl,h.1,h.2.1,h.2.2⟩
theorem Bz (ab:Option Addr)(n c k:Nat)(Z:Nat->Int)(g1 gb ob:Nat)(bcs:Array Value)(tb:TypeId)(w:World)(hk:k<n)(r1:Row w g1 #[.slice ab n c] 50)(hna:ZsAt w ab n Z gb ob bcs tb):
  Calls prog 96 #[.int .i64 k,.pointer (some ⟨g1,0,none⟩)] w fun e w'=>e= .returned (.int .i64 (Z k))/\Below w.heap.size w w':=by
 go_enter func96,ntmps96
 have sb:=YG w;iterate 2 go_step
 refine rp ?_;refine p_v (.int .i64 0) (fun _=>rfl) (Zb ?_);simp only[pv];obtain h0|⟨rfl,rB,hbt⟩:=hna.at'
 ·exact absurd h0 (by omega)
 have hbt':=hbt k hk;clear hbt hna;iterate 3 go_step
 refine rp ?_;refine p_d 0 r1.r (.slice (some ⟨gb,ob,none⟩) n c) rfl eT0 ?_;refine p_m ?_;simp only[pv];refine p_x k hk bF0 aJ0 ?_;simp only[pv];refine p_d (ob+k*1) rB (.int .i64 (Z k)) hbt' bG0 ?_;refine p_a (Zb ?_);simp only[pv];go_wp2;go_ret;exact⟨rfl,sb⟩
section
variable {Q:Nat}[NeZero Q]{g gr gf P G:Nat}{w:World}
def onK (k i:Nat):Nat:=if i=k then 1 else 0
def wtP (I:Nat->Nat)(n k:Nat):List (Fin Q):=tTh ivF (fun i=>(fi (I i):Fin Q)) (fun i=>(fi (onK k i):Fin Q)) n
def wtV (I:Nat->Nat)(n k j:Nat):Nat->Nat->Nat:=fun a b=>if b<k∨(b=k/\a<j)then(pco (wtP I n b:List (Fin Q)) a).val else 0
theorem BA {I:Nat->Nat}{n k m:Nat}(hm:(wtP I n k:List (Fin Q)).length=m)(a b:Nat):wtV (Q:=Q) I n k m a b=wtV (Q:=Q) I n (k+1) 0 a b:=by
 show(if b<k∨(b=k/\a<m)then _ else _)=(if b<k+1∨(b=k+1/\a<0)then _ else _)
 by_cases e:b<k+1
 ·rw[j_ (show b<k+1∨(b=k+1/\a<0)from .inl e)];by_cases e2:b=k/\m<=a
  ·obtain⟨rfl,e3⟩:=e2;rw[i_ (show ¬(b<b∨(b=b/\a<m)) by omega),Wp _ a (by omega)];rfl
  ·rw[j_ (show b<k∨(b=k/\a<m) by omega)]
 ·rw[i_ (show ¬(b<k+1∨(b=k+1/\a<0)) by omega),i_ (show ¬(b<k∨(b=k/\a<m)) by omega)]
theorem BB {I:Nat->Nat}{n k j:Nat}(b:Nat):wtV (Q:=Q) I n k (j+1) j b=if b=k then(pco (wtP I n k:List (Fin Q)) j).val else wtV (Q:=Q) I n k j j b:=by
 show(if b<k∨(b=k/\j<j+1)then _ else _)=if b=k then _ else(if b<k∨(b=k/\j<j)then _ else _)
 by_cases e:b=k
 ·subst e;rw[j_ (show b<b∨(b=b/\j<j+1) by omega),j_ rfl]
 ·rw[i_ e];by_cases e2:b<k
  ·rw[j_ (show b<k∨(b=k/\j<j+1)from .inl e2),j_ (show b<k∨(b=k/\j<j)from .inl e2)]
  ·rw[i_ (show ¬(b<k∨(b=k/\j<j+1)) by omega),i_ (show ¬(b<k∨(b=k/\j<j)) by omega)]
theorem Fh {I:Nat->Nat}{n k j a:Nat}(h:a≠j):wtV (Q:=Q) I n k (j+1) a=wtV (Q:=Q) I n k j a:=funext fun b=>by
 show(if b<k∨(b=k/\a<j+1)then _ else _)=(if b<k∨(b=k/\a<j)then _ else _)
 by_cases e:b<k∨(b=k/\a<j)
 ·rw[j_ e,j_ (show b<k∨(b=k/\a<j+1) by omega)]
 ·rw[i_ e,i_ (show ¬(b<k∨(b=k/\a<j+1)) by omega)]
theorem BC (n c:Nat)(ab:Option Addr)(I:Nat->Nat)(gb ob:Nat)(bcs:Array Value)(tb:TypeId)(q:FdQ Q)(hn:n<=8)(hI: ∀k,k<n->I k<1000)(hdd: ∀i j,i<n->j<n->i≠j->(fi (I i):Fin Q)≠fi (I j))(hna:ZsAt w ab n (fun k=>((I k:Nat):Int)) gb ob bcs tb)(h:GrpAt w g gr gf P Q G)(hA:apB 0 (fun k=>((I k:Nat):Int)) n=true):
  Calls prog 43 #[.pointer (some ⟨g,0,none⟩),.slice ab n c] w fun e w'=> ∃gW R,e= .returned (.tuple #[.slice (some ⟨gW,0,none⟩) n n,.int .i64 0])/\Row w' gW (vsC n (fun j=>.slice (some ⟨R j,0,none⟩) n n)) 22/\FamAt w' w.heap.size n R (wtV (Q:=Q) I n (n) (0)) n/\Below w.heap.size w w':=by
 obtain⟨ie,hie,hze,hsz,hby⟩:=Yn;obtain⟨is',his,hzs,hszs,hbys⟩:=Tf;have hth:=fun w' (hb:Below w.heap.size w w') k g1 g2 (hk:k<n) (r1:Row w' g1 (nsC n I) 57) (r2:Row w' g2 (nsC n (onK k)) 57)=>By g gr gf P Q G n n n (some ⟨g1,0,none⟩) (some ⟨g2,0,none⟩) I (onK k) g1 0 g2 0 _ _ _ _ w' q (by omega) (by omega) hdd (YA r1 (fun i hi=>by have:=hI i hi;omega)) (YA r2 (fun i _=>by unfold onK;split<;>decide)) (h.below hb)
 have HW:Hid (∀k,tTh ivF (fun i=>(fi (I i):Fin Q)) (fun i=>(fi (onK k i):Fin Q)) n=wtP I n k):=fun k=>rfl
 have HL:Hid (∀k,(wtP I n k:List (Fin Q)).length<=n):=fun k=>Vv ivF (fun i=>(fi (I i):Fin Q)) _ n
 have HI:Hid (∀k,k<n->I k<1000):=hI;have HB:Hid (ZsAt w ab n (fun k=>((I k:Nat):Int)) gb ob bcs tb):=hna;have HA:Hid (apB 0 (fun k=>((I k:Nat):Int)) n=true):=hA;clear hna hA hI hdd;have hg:=fun w' (hb:Below w.heap.size w w')=>Ff (some ⟨g,0,none⟩) (some ⟨gf,0,none⟩) P Q G (some ⟨gr,0,none⟩) w' (h.below hb).kn
 go_enter func43,ntmps43
 have sb:=YG w;iterate 2 go_step
 refine rp ?_;refine Ye (by rfl) 50 _ rfl (.slice ab n c) rfl rfl ?_;intro g3 z0 n0 r3 k;simp only[pv];clear n0;replace sb:=kk sb k;clear k;refine p_v (.slice none 0 0) ((fun _=>rfl)) ?_;refine p_v (.int .i64 0) (fun _=>rfl) (Zb ?_);simp only[pv];have hap:=fun w' (hb:Below w.heap.size w w') (r3:Row w' g3 #[.slice ab n c] 50)=>JV n 0 96 #[.pointer (some ⟨g3,0,none⟩)] (fun k=>((I k:Nat):Int)) w' func96 (by kernel_rfl) (by omega) (by decide) (fun k hk w2 h2=>Bz ab n c k (fun k=>((I k:Nat):Int)) g3 gb ob bcs tb w2 hk (r3.belowAll h2) ((HB.out.below hb).below h2))
 rw[HA.out]at hap;iterate 4 go_step
 refine rp ?_;refine p_m ?_;simp only[pv];refine p_c 94 func94 #[.pointer (some ⟨g,0,none⟩)] (hg _ sb) ?_;intro z1001 k;simp only[pv];replace r3:=k.ro r3;replace sb:=kk sb k;clear k;refine p_v _ (Zz _ _ rfl true rfl) ?_;refine p_m ?_;simp only[pv];refine p_d 0 r3.r (.slice ab n c) rfl eT0 ?_;simp only[pv];refine p_v _ (n_l ab n c Oz) ?_;simp only[pv];refine p_v (.func (.func 96) #[] #[.pointer (some ⟨g3,0,none⟩)]) (Yr _ _ rfl _ rfl) ?_;simp only[pv];refine p_c 95 func95 #[.int .i64 n,.int .i64 0,.func (.func 96) #[] #[.pointer (some ⟨g3,0,none⟩)]] (hap _ sb r3) ?_;intro z1007 k;simp only[pv];replace r3:=k.ro r3;replace sb:=kk sb k;clear k;refine p_v _ (Zz _ _ rfl true rfl) ?_;refine p_k false (.bool false) (Zb ?_);simp only[pv];clear hap hg;iterate 7 go_step
 refine rp ?_;refine p_d 0 r3.r (.slice ab n c) rfl eT0 ?_;simp only[pv];refine p_v _ (n_l ab n c Oz) ?_;simp only[pv];refine XT (by rfl) 22 57 _ _ rfl ie _ r_ hie hze n rfl rfl (by rw[hsz];omega) (by rw[hby];omega) (by omega) ?_;intro gP z3002 n0 rP k;simp only[pv];have d3xP:=l_l r3.lt n0;have bP:=f_ sb.size n0;clear n0;replace r3:=k.ro r3;replace sb:=kk sb k;clear k;refine p_a (Zb ?_);simp only[pv];rw[hsz,Xz]at rP;iterate 3 go_step
 refine rp ?_;refine p_d 0 r3.r (.slice ab n c) rfl eT0 ?_;simp only[pv];refine p_v _ (n_l ab n c Oz) ?_;simp only[pv];refine XT (by rfl) 30 22 _ _ rfl is' _ cR0 his hzs n rfl rfl (by rw[hszs];omega) (by rw[hbys];omega) (by omega) ?_;intro gW z4002 n0 rW k;simp only[pv];have d3xW:=l_l r3.lt n0;have dPxW:=l_l rP.lt n0;have bW:=f_ sb.size n0;clear n0;replace r3:=k.ro r3;replace rP:=k.ro rP;replace sb:=kk sb k;clear k;refine p_a (Zb ?_);simp only[pv];rw[hszs,Sc n _ rfl]at rW;iterate 4 go_step
 refine rp ?_;refine p_d 0 r3.r (.slice ab n c) rfl eT0 ?_;simp only[pv];refine p_v _ (n_l ab n c Oz) ?_;refine p_v (.int .i64 0) (fun _=>rfl) (Zb ?_);simp only[pv];have hP3:g3≠gP:=by omega
 have hW3:g3≠gW:=by omega
 have hWP:gP≠gW:=by omega
 go_wp2_with fail
 go_loopg [8,32] n (fun x s8 s32 wr=> ∃k:Nat,∃R:Nat->Nat,k+x=n/\s32= .int .i64 k/\Row wr g3 #[.slice ab n c] 50/\Row wr gP (nsC n (fun j=>if j<k then I j else 0)) 57/\Row wr gW (vsC n (fun j=>if j<k then .slice (some ⟨R j,0,none⟩) n n else .slice none 0 0)) 22/\FamAt wr w.heap.size n R (fun _ _=>0) k/\(∀j,j<k->R j≠g3)/\(∀j,j<k->R j≠gP)/\(∀j,j<k->R j≠gW)/\Below w.heap.size w wr)
 case atStart=>exact⟨0,fun _=>0,by omega,rfl,r3,by rw[show(fun j=>if j<0 then I j else 0)=fun _=>0 from funext fun j=>i_ (by omega)];exact rP,by rw[YN (T:=fun _=>.slice none 0 0) (fun j _=>i_ (by omega))];exact rW,Sd _ _ _ _ _,fun j hj=>absurd hj (by omega),fun j hj=>absurd hj (by omega),fun j hj=>absurd hj (by omega),sb⟩
 case round=>
  clear r3 rP rW sb;obtain⟨k,R,hk,rfl,r3,rP,rW,hW,hWx3,hWxP,hWxW,sb⟩:=hrel
  cases gk with
  |succ x=>
   have hlt:k<n:=by omega
   have hIk:=HI.out k hlt;have hof:=fun w'=>Xl ((I k:Nat):Int) w' (by omega)
   rw[q_]at hof
   have hpI:=Wa n (fun j=>if j<k then I j else 0) (fun j=>if j<k+1 then I j else 0) k hlt (0+k*4) (by omega) (I k) (fun j hj=>by
    by_cases hjk:j=k
    ·subst hjk;rw[j_ (by omega),j_ rfl]
    ·rw[i_ hjk];by_cases h2:j<k
     ·rw[j_ h2,j_ (by omega)]
     ·rw[i_ h2,i_ (by omega)])
   have hpW: ∀gN,(vsC n (fun j=>if j<k then .slice (some ⟨R j,0,none⟩) n n else .slice none 0 0)).setIfInBounds (0+k*1) (.slice (some ⟨gN,0,none⟩) n n)=vsC n (fun j=>if j<k+1 then .slice (some ⟨upR R k gN j,0,none⟩) n n else .slice none 0 0):=fun gN=>by
    rw[show 0+k*1=k by omega];refine VZ hlt ?_ (fun j hj hne=>?_)
    ·show(ite _ _ _:Value)=_
     rw[j_ (by omega),Xd]
    ·show(ite _ _ _:Value)=ite _ _ _
     by_cases h2:j<k
     ·rw[j_ h2,j_ (by omega),Y4 R h2]
     ·rw[i_ h2,i_ (by omega)]
   clear hth;obtain h0|⟨rfl,rB,hbt⟩:=(HB.out.below sb).at'
   ·exact absurd h0 (by omega)
   have hbt':=hbt k hlt;clear hbt
   go_step
   refine rp ?_;refine p_v _ (X4 k n) (Zb ?_);simp only[pv];iterate 10 go_step
   refine rp ?_;refine p_m ?_;refine p_a (Zb ?_);simp only[pv];iterate 3 go_step
   refine rp ?_;refine p_m ?_;refine p_m ?_;simp only[pv];refine p_d 0 r3.r (.slice (some ⟨gb,ob,none⟩) n c) rfl eT0 ?_;refine p_m ?_;simp only[pv];refine p_x k hlt bF0 aJ0 ?_;simp only[pv];refine p_d (ob+k*1) rB (.int .i64 ((I k:Nat):Int)) hbt' bG0 ?_;simp only[pv];refine p_c 57 gZ0 #[.int .i64 ((I k:Nat):Int)] (hof _) ?_;intro z8006 k;simp only[pv];replace r3:=k.ro r3;replace rP:=k.ro rP;replace rW:=k.ro rW;replace hW:=hW.below k.nil;replace sb:=kk sb k;clear k;refine p_x k hlt r_ ZC ?_;simp only[pv];refine VQ (by rfl) 57 _ _ rfl _ (0+k*4) rfl rP (Zc (I k)) rfl (by exact Zd) (by rw[ZZ,Zo];omega) (Zu _) (nsC n (fun j=>if j<k+1 then I j else 0)) hpI ?_;clear rP;intro z8008 rP k;simp only[Act.put];replace r3:=k.ro r3;replace rW:=k.ro rW;replace hW:=hW.on k (fun j hj=>by simpa using hWxP j hj);replace sb:=kk sb k;clear k;refine Zb ?_;clear rB hpI hbt';iterate 2 go_step
   refine rp ?_;refine p_m ?_;refine p_m ?_;simp only[pv];refine p_d 0 r3.r (.slice (some ⟨gb,ob,none⟩) n c) rfl eT0 ?_;simp only[pv];refine p_v _ (n_l (some ⟨gb,ob,none⟩) n c Oz) ?_;simp only[pv];refine XT (by rfl) 22 57 _ _ rfl ie _ r_ hie hze n rfl rfl (by rw[hsz];omega) (by rw[hby];omega) (by omega) ?_;intro gN z9004 n0 rN k;simp only[pv];have d3xN:=l_l r3.lt n0;have dPxN:=l_l rP.lt n0;have dWxN:=l_l rW.lt n0;have hWxN:=fun j hj=>bV0 (l_ (hW.lt (j:=j) hj) n0)
   have bN:=f_ sb.size n0;clear n0;replace r3:=k.ro r3;replace rP:=k.ro rP;replace rW:=k.ro rW;replace hW:=hW.below k.nil;replace sb:=kk sb k;clear k;refine p_x k hlt cR0 aO0 ?_;simp only[pv];refine Xx (by rfl) 22 _ _ rfl _ (0+k*1) rfl rW (.slice (some ⟨gN,0,none⟩) n n) rfl rfl rfl Yy (by rw[Xb];omega) ((vsC n (fun j=>if j<k+1 then .slice (some ⟨upR R k gN j,0,none⟩) n n else .slice none 0 0))) (hpW gN) ?_;clear rW;intro z9006 rW k;simp only[Act.put];replace r3:=k.ro r3;replace rP:=k.ro rP;replace hW:=hW.on k (fun j hj=>by simpa using hWxW j hj);replace rN:=k.ro rN;replace sb:=kk sb k;clear k;refine Zb ?_;rw[hsz,Xz]at rN;have hW2:=hW.add hWxN bN rN
   have h3N: ∀j,j<k+1->upR R k gN j≠g3:=fun j hj=>by
    by_cases e:j=k
    ·subst e;rw[Xd];omega
    ·rw[Y4 R (show j<k by omega)];exact hWx3 j (by omega)
   have hPN: ∀j,j<k+1->upR R k gN j≠gP:=fun j hj=>by
    by_cases e:j=k
    ·subst e;rw[Xd];omega
    ·rw[Y4 R (show j<k by omega)];exact hWxP j (by omega)
   have hWN: ∀j,j<k+1->upR R k gN j≠gW:=fun j hj=>by
    by_cases e:j=k
    ·subst e;rw[Xd];omega
    ·rw[Y4 R (show j<k by omega)];exact hWxW j (by omega)
   clear hW hWx3 hWxP hWxW hWxN rN hpW;generalize upR R k gN=R2 at*;iterate 2 go_step
   refine rp ?_;refine p_v _ (x_a k 1) ?_;refine p_m (Zb ?_);simp only[pv];go_wp2
   go_roundg x
   case measure=>omega
   case rel=>exact⟨k+1,R2,by omega,rfl,r3,rP,rW,hW2,h3N,hPN,hWN,sb⟩
  |zero=>
   have hkn:n=k:=by omega
   clear hk;subst hkn;rw[Yw n _ I (fun j hj=>j_ hj)]at rP;rw[YN (T:=fun j=>.slice (some ⟨R j,0,none⟩) n n) (fun j hj=>j_ hj)]at rW
   go_step
   refine rp ?_;refine p_v _ (Xe n n) (Zb ?_);simp only[pv];iterate 9 go_step
   refine rp ?_;refine p_d 0 r3.r (.slice ab n c) rfl eT0 ?_;simp only[pv];refine p_v _ (n_l ab n c Oz) ?_;refine p_v (.int .i64 0) (fun _=>rfl) (Zb ?_);simp only[pv];have hW0:FamAt _ w.heap.size n R (wtV (Q:=Q) I n (0) (0)) n:=hW.congr fun j hj i hi=>(i_ (by omega)).symm
   clear hW
   go_wp2_with fail
   go_loopg [9,52] n (fun x s9 s52 wr=> ∃k:Nat,k+x=n/\s52= .int .i64 k/\Row wr g3 #[.slice ab n c] 50/\Row wr gP (nsC n I) 57/\Row wr gW (vsC n (fun j=>.slice (some ⟨R j,0,none⟩) n n)) 22/\FamAt wr w.heap.size n R (wtV (Q:=Q) I n (k) (0)) n/\Below w.heap.size w wr)
   case atStart=>exact⟨0,by omega,rfl,r3,rP,rW,hW0,sb⟩
   case round=>
    clear r3 rP rW hW0 sb;obtain⟨k,hk,rfl,r3,rP,rW,hW,sb⟩:=hrel
    cases gk with
    |zero=>
     obtain rfl:k=n:=by omega
     clear hk
     go_step
     refine rp ?_;refine p_v _ (Xe k k) (Zb ?_);simp only[pv];iterate 8 go_step
     refine rp ?_;refine p_m ?_;refine p_a ?_;refine p_v (.int .i64 0) (fun _=>rfl) (Zb ?_);simp only[pv];go_wp2;go_ret2;exact⟨gW,R,rfl,rW,hW,sb⟩
    |succ x=>
     have hlt:k<n:=by omega
     have hth2:=fun w' hb g2 r1 r2=>hth w' hb k gP g2 hlt r1 r2
     rw[HW.out k]at hth2;have hLk:=HL.out k;have hpO:=Wa n (fun _=>0) (onK k) k hlt (0+k*4) (by omega) 1 (fun j hj=>rfl);clear hth
     go_step
     refine rp ?_;refine p_v _ (X4 k n) (Zb ?_);simp only[pv];iterate 10 go_step
     refine rp ?_;refine p_m ?_;refine p_a (Zb ?_);simp only[pv];iterate 3 go_step
     refine rp ?_;refine p_d 0 r3.r (.slice ab n c) rfl eT0 ?_;simp only[pv];refine p_v _ (n_l ab n c Oz) ?_;simp only[pv];refine XT (by rfl) 22 57 _ _ rfl ie _ r_ hie hze n rfl rfl (by rw[hsz];omega) (by rw[hby];omega) (by omega) ?_;intro gO z14002 n0 rO k;simp only[pv];have d3xO:=l_l r3.lt n0;have dPxO:=l_l rP.lt n0;have dWxO:=l_l rW.lt n0;have hWxO:=fun j hj=>bV0 (l_ (hW.lt (j:=j) hj) n0)
     have bO:=f_ sb.size n0;clear n0;replace r3:=k.ro r3;replace rP:=k.ro rP;replace rW:=k.ro rW;replace hW:=hW.below k.nil;replace sb:=kk sb k;clear k;refine p_a (Zb ?_);simp only[pv];rw[hsz,Xz]at rO;iterate 3 go_step
     refine rp ?_;refine p_m ?_;refine p_m ?_;simp only[pv];refine p_v _ (Z3 _ [(0,.const (.int .u64 1))] rfl [(0,.int .u64 1)] rfl (Zc 1) Sa) ?_;simp only[pv];refine p_x k hlt r_ ZC ?_;simp only[pv];refine VQ (by rfl) 57 _ _ rfl _ (0+k*4) rfl rO (Zc 1) rfl (by exact Zd) (by rw[ZZ,Zo];omega) (Zu _) (nsC n (onK k)) hpO ?_;clear rO;intro z15004 rO k;simp only[Act.put];replace r3:=k.ro r3;replace rP:=k.ro rP;replace rW:=k.ro rW;replace hW:=hW.on k (fun j hj=>by simpa using hWxO j hj);replace sb:=kk sb k;clear k;refine Zb ?_;clear hpO;iterate 3 go_step
     refine rp ?_;refine p_m ?_;refine p_m ?_;refine p_m ?_;simp only[pv];refine p_f 97 func97 #[.pointer (some ⟨g,0,none⟩),.slice (some ⟨gP,0,none⟩) n n,.slice (some ⟨gO,0,none⟩) n n] (hth2 _ sb gO rP rO) ?_;rintro _ z16003 ⟨vf,rfl,⟨gT,N,rfl,nT,hN,rT⟩,hb⟩;refine⟨_,rfl,?_⟩;simp only[pv];have d3xT:=l_l r3.lt nT;have dPxT:=l_l rP.lt nT;have dWxT:=l_l rW.lt nT;have hWxT:=fun j hj=>bV0 (l_ (hW.lt (j:=j) hj) nT)
     clear nT;have k:=Kept.ofBelow hb;clear hb;replace r3:=k.ro r3;replace rP:=k.ro rP;replace rW:=k.ro rW;replace hW:=hW.below k.nil;replace rO:=k.ro rO;replace sb:=kk sb k;clear k;refine p_m ?_;refine p_e ?_;refine p_e ?_;refine p_a ?_;refine p_a (Zb ?_);simp only[pv];clear hth2 rO;obtain⟨TT,hTT⟩: ∃TT,(wtP I n k:List (Fin Q))=TT:=⟨_,rfl⟩
     have HT:Hid ((wtP I n k:List (Fin Q))=TT):=hTT;rw[hTT]at rT hLk hN;obtain⟨m,hm⟩: ∃m,TT.length=m:=⟨_,rfl⟩
     have HM:Hid (TT.length=m):=hm;rw[hTT,hm];rw[hm]at hLk hN;clear hm hTT;iterate 3 go_step
     refine rp ?_;refine p_m ?_;simp only[pv];refine p_v _ (n_l (some ⟨gT,0,none⟩) m N Zm) ?_;refine p_v (.int .i64 0) (fun _=>rfl) (Zb ?_);simp only[pv]
     go_wp2_with fail
     go_loopg [13,71] m (fun y s13 s71 wr=> ∃j:Nat,j+y=m/\s71= .int .i64 j/\Row wr g3 #[.slice ab n c] 50/\Row wr gP (nsC n I) 57/\Row wr gW (vsC n (fun j=>.slice (some ⟨R j,0,none⟩) n n)) 22/\Row wr gT (nsC N (fun i=>(pco TT i).val)) 57/\FamAt wr w.heap.size n R (wtV (Q:=Q) I n (k) (j)) n/\Below w.heap.size w wr)
     case atStart=>exact⟨0,by omega,rfl,r3,rP,rW,rT,hW,sb⟩
     case round=>
      clear r3 rP rW rT hW sb;obtain⟨j,hj,rfl,r3,rP,rW,rT,hW,sb⟩:=hrel
      cases gk with
      |zero=>
       obtain rfl:j=m:=by omega
       have hW1:FamAt _ w.heap.size n R (wtV (Q:=Q) I n (k+1) (0)) n:=hW.congr fun a ha b hb=>BA (by rw[HT.out];exact HM.out) a b
       clear hW hj
       go_step
       refine rp ?_;refine p_v _ (Xe j j) (Zb ?_);simp only[pv];iterate 7 go_step
       refine rp ?_;refine p_v _ (x_a k 1) ?_;refine p_m (Zb ?_);simp only[pv];go_wp2
       go_roundg x
       case measure=>omega
       case rel=>exact⟨k+1,by omega,rfl,r3,rP,rW,hW1,sb⟩
      |succ y=>
       have hltm:j<m:=by omega
       have hjn:j<n:=by omega
       have hjN:j<N:=by omega
       have rj:=hW.row j hjn;have hlo:=hW.low j hjn;have e3:=hWx3 j hjn;have eP:=hWxP j hjn;have eW:=hWxW j hjn;have eT:=hWxT j hjn;have hput:=Wa n ((wtV (Q:=Q) I n (k) (j)) j) ((wtV (Q:=Q) I n (k) (j+1)) j) k hlt (0+k*4) (by omega) (pco TT j).val (fun b hb=>by rw[<-HT.out];exact BB b);have hrest: ∀a,a<n->a≠j->(wtV (Q:=Q) I n (k) (j+1)) a=(wtV (Q:=Q) I n (k) (j)) a:=fun a ha hne=>Fh hne
       go_step
       refine rp ?_;refine p_v _ (X4 j m) (Zb ?_);simp only[pv];iterate 10 go_step
       refine rp ?_;refine p_m ?_;refine p_a (Zb ?_);simp only[pv];iterate 2 go_step
       apply Zi (by kernel_rfl) [(R j,57,nsC n ((wtV (Q:=Q) I n (k) (j)) j))] [_,_,_,_,_,_,_,_,_,_,_] ⟨rj,trivial⟩ (by simp<;>omega)
       ·intro p;refine m_m ?_;refine m_m ?_;simp only[pv];refine m_x j hjn cR0 aO0 ?_;simp only[pv];refine Zs 22 _ rfl _ (0+j*1) rfl rW (by simp<;>omega) (.slice (some ⟨R j,0,none⟩) n n) (by rw[show 0+j*1=j by omega];exact XA _ hjn) aD0 ?_;refine m_m ?_;refine m_m ?_;refine m_m ?_;simp only[pv];refine m_x j hltm r_ ZC ?_;simp only[pv];refine Xw 57 _ rfl _ (0+j*4) rfl rT (by simp<;>omega) (Zc (pco TT j).val) (XY N (fun i=>(pco TT i).val) j hjN (0+j*4) (by omega)) _ b_ rfl Zd ?_;simp only[pv];refine m_x k hlt r_ ZC ?_;simp only[pv];refine VK 0 57 _ _ rfl (0+k*4) rfl rfl (Zc (pco TT j).val) rfl (by exact Zd) (by rw[ZZ,Zo];omega) (Zu _) (nsC n ((wtV (Q:=Q) I n (k) (j+1)) j)) hput ?_;simp only[Act.put];refine Zf ?_;intro w2 hkw hrw hnew hdis;have rj2:Row w2 (R j) (nsC n ((wtV (Q:=Q) I n (k) (j+1)) j)) 57:=hrw 0 (57,nsC n ((wtV (Q:=Q) I n (k) (j+1)) j)) rfl;replace r3:=hkw.ro r3;replace rP:=hkw.ro rP;replace rW:=hkw.ro rW;replace rT:=hkw.ro rT;have hW1:FamAt w2 w.heap.size n R (wtV (Q:=Q) I n (k) (j+1)) n:=hW.put hjn hkw rj2 hrest;replace sb:=kk sb hkw;clear hkw hrw hnew hdis rj rj2 hput hrest hW;iterate 2 go_step
        refine rp ?_;refine p_v _ (x_a j 1) ?_;refine p_m (Zb ?_);simp only[pv];go_wp2
        go_roundg y
        case measure=>omega
        case rel=>exact⟨j+1,by omega,rfl,r3,rP,rW,rT,hW1,sb⟩
       ·kernel_rfl
end
end Go.Proofs.YtnagnkhbamhfmaaGreatDoor
