import Derived.Test.YtnagnkhbamhfmaaGreatDoorMD
set_option maxRecDepth 100000
set_option maxHeartbeats 8000000
namespace Go.Proofs.YtnagnkhbamhfmaaGreatDoor
set_option linter.all false
open Go.RowKit
open Go.Proofs.Tryz
theorem H7 (n:Nat)(u:Nat->Nat){m:Nat}(hm:m<=n):(isC n u).toList.take m=(isC m u).toList:=by
 apply gR0;intro j;rw[List.getElem?_take];by_cases hj:j<m
 ·rw[i_ hj,k_,k_,Xc _ _ _ hj,Xc _ _ _ (by omega)]
 ·rw[j_ hj,fN0 (by rw[D_,YS];omega)]
theorem Ga {w:World}{base:Nat}{ab:Option Addr}{n m c:Nat}{u:Nat->Nat}(h:WU w base (.slice ab n c) n u)(hm:m<=n):WU w base (.slice ab m c) m u:=by
 obtain⟨hl,⟨e1,e2⟩|⟨g,cap,cur,e1,hb,hg,hc,hmx,hs,ht⟩⟩:=h
 ·subst e2;obtain rfl:m=0:=by omega
  rw[e1];exact Us _ _ _
 ·simp only[eR0,iV0]at e1;obtain⟨rfl,rfl⟩:=e1;refine⟨by rw[D_,YS,I_],.inr ⟨g,c,cur,rfl,hb,hg,by omega,hmx,hs,?_⟩⟩;rw[I_]at ht ⊢;rw[<-H7 n u hm,<-ht,List.take_take,Nat.min_eq_left hm]
theorem Qo {w:World}{base b2:Nat}{e:TypeId}{k:Nat}{v:Value}{n:Nat}{xs:List Value}(h:w.ownsRow base e k v n xs)(hb:b2<=base):w.ownsRow b2 e k v n xs:=by
 obtain⟨hl,h1|⟨g,cap,cur,e1,h2,h3⟩⟩:=h
 ·exact⟨hl,.inl h1⟩
 ·exact⟨hl,.inr ⟨g,cap,cur,e1,f_ hb h2,h3⟩⟩
theorem zm {w:World}{base:Nat}{v:Value}{n:Nat}{u u2:Nat->Nat}(h:WU w base v n u)(he: ∀i,i<n->u i=u2 i):WU w base v n u2:=by
 have e:isC n u=isC n u2:=by
  apply B_;intro j;by_cases hj:j<n
  ·rw[Xc _ _ _ hj,Xc _ _ _ hj,he j hj]
  ·rw[h_ (by rw[YS];omega),h_ (by rw[YS];omega)]
 unfold WU at h ⊢;rw[<-e];exact h
def Kb {Q:Nat}[NeZero Q](w:World)(base:Nat)(v:Value)(L:List (Fin Q)):Prop:=WU w base v L.length (fun i=>(pco L i).val)
theorem Kb.below {Q:Nat}[NeZero Q]{w w':World}{base:Nat}{v:Value}{L:List (Fin Q)}(h:Kb w base v L)(hb:Below w.heap.size w w'):Kb w' base v L:=own_below h hb
theorem Kb.il {Q:Nat}[NeZero Q]{w:World}{base:Nat}{v:Value}{L:List (Fin Q)}(h:Kb w base v L):SF w v L:=Qd h rfl fun _ _=>rfl
theorem Dh {Q:Nat}[NeZero Q](w:World)(base:Nat):Kb w base (.slice none 0 0) ([]:List (Fin Q)):=Us _ _ _
theorem Kc (ab ae:Option Addr)(n c m ce q X:Nat)(u v2:Nat->Nat)(gb ob ge oe:Nat)(bcs ecs:Array Value)(tb te:TypeId)(w:World)(hX:max n m=X)(hn:n<=1000)(hm:m<=1000)(h0:0<q)(hq:q<4611686018427387904)(hu: ∀i,yCf n u i<q)(hv: ∀i,yCf m v2 i<q)(hna:NumsAt w ab n u gb ob bcs tb)(hnb:NumsAt w ae m v2 ge oe ecs te):
  Calls prog 108 #[.slice ab n c,.slice ae m ce,.int .i64 (q:Nat)] w fun e w'=> ∃ax cx,e= .returned (.slice ax (yTn (fun k=>(yCf n u k+yCf m v2 k)%q) X) cx)/\WU w' w.heap.size (.slice ax X cx) X (fun k=>(yCf n u k+yCf m v2 k)%q)/\Below w.heap.size w w':=by
 obtain⟨ie,hie,hz,hsz,_⟩:=Wx
 have hs1: ¬1*ie.size>2^24:=by rw[hsz];decide
 have hs2: ¬1*ie.size=0:=by rw[hsz];decide
 have hl1:=fun a=>IG a ie.size hsz
 have hX2:(if(m:Int)>(n:Int)then(m:Int)else(n:Int))=((X:Nat):Int):=by split<;>omega
 have hca:=fun(k:Nat) w' (hb:Below w.heap.size w w')=>IJ ab n c k u gb ob bcs tb w' (hna.below hb)
 have hcb:=fun(k:Nat) w' (hb:Below w.heap.size w w')=>IJ ae m ce k v2 ge oe ecs te w' (hnb.below hb)
 have had:=fun(k:Nat) w'=>Ph (yCf n u k) (yCf m v2 k) q w' h0 (by have:=hu k;omega) (by have:=hv k;omega)
 clear hna hnb hu hv hsz;have HXb:X<=1000:=by omega
 go_enter func108,ntmps108
 have sb:=YF w;iterate 2 go_step
 refine rp ?_;refine p_V (.slice none 0 0) ((fun _=>rfl)) ?_;iterate 3 go_step
 refine rp ?_;refine p_V (.slice none 0 0) ((fun _=>rfl)) ?_;iterate 4 go_step
 refine rp ?_;refine p_V (.int .i64 0) (fun _=>rfl) ?_
 go_wp2_with fail
 go_loopg [7,8] X (fun g s7 s8 wr=> ∃i:Nat,i+g=X/\s8= .int .i64 i/\WU wr w.heap.size s7 i (fun k=>(yCf n u k+yCf m v2 k)%q)/\Below w.heap.size w wr)
 case atStart=>exact⟨0,by omega,rfl,Us _ _ _,sb⟩
 case round=>
  clear sb;obtain⟨i,hi,rfl,hL,sb⟩:=hrel
  cases gk with
  |zero=>
   obtain rfl:i=X:=by omega
   clear hi hca hcb had
   obtain⟨ax,cx,gx,curx,rfl,hcx,hx⟩: ∃ax cx gx curx,u7=Value.slice ax i cx/\i<=cx/\NumsAt wr ax i (fun k=>(yCf n u k+yCf m v2 k)%q) gx 0 curx 3:=by
    have h1:=hL;obtain⟨_,⟨e1,e2⟩|⟨g,cap,cur,e1,_,_,hc,_⟩⟩:=hL
    ·subst e2;exact⟨none,0,0,#[],e1,e_ _,⟨.inl rfl⟩⟩
    ·rw[e1]at h1;obtain⟨_,gb',cur',h2⟩:=T9 h1;exact⟨_,cap,gb',cur',e1,hc,h2⟩
   have htr:=fun w' (h:NumsAt w' ax i (fun k=>(yCf n u k+yCf m v2 k)%q) gx 0 curx 3)=>PD ax i cx (fun k=>(yCf n u k+yCf m v2 k)%q) gx 0 curx _ w' (by omega) hcx h
   iterate 2 go_step
   refine r_p ?_;refine p_V _ (n_l ab n c Z5) ?_;refine p_V _ (n_l ae m ce Z5) ?_;refine p_V (.int .i64 ((i:Nat):Int)) (Im _ _ _ rfl n m _ rfl rfl hX2) ?_;refine p_V _ (YN i i) ?_;iterate 7 go_step
   refine r_p ?_;refine p_c 147 func147 #[.slice ax i cx] (htr _ hx) ?_;intro z6001 k;refine p_W ?_;replace hx:=hx.below k.nil;replace hL:=hL.on k (Yo _);replace sb:=kk sb k;clear k;refine p_W ?_;go_wp2;go_ret;exact⟨ax,cx,rfl,hL,sb⟩
  |succ g=>
   have hlt:i<X:=by omega
   iterate 2 go_step
   refine r_p ?_;refine p_V _ (n_l ab n c Z5) ?_;refine p_V _ (n_l ae m ce Z5) ?_;refine p_V (.int .i64 ((X:Nat):Int)) (Im _ _ _ rfl n m _ rfl rfl hX2) ?_;refine p_V _ (YW i X) ?_;iterate 8 go_step
   refine r_p ?_;refine p_c 148 func148 #[.slice ab n c,.int .i64 (i:Nat)] (hca i _ sb) ?_;intro z5003 k;refine p_W ?_;replace hL:=hL.on k (Yo _);replace sb:=kk sb k;clear k;refine p_W ?_;refine p_c 148 func148 #[.slice ae m ce,.int .i64 (i:Nat)] (hcb i _ sb) ?_;intro z5006 k;refine p_W ?_;replace hL:=hL.on k (Yo _);replace sb:=kk sb k;clear k;refine p_W ?_;refine p_c 90 func90 #[.int .i64 (yCf n u i:Nat),.int .i64 (yCf m v2 i:Nat),.int .i64 (q:Nat)] (had i _) ?_;intro z5008 k;refine p_W ?_;replace hL:=hL.on k (Yo _);replace sb:=kk sb k;clear k;refine Y3 (by rfl) 50 3 1 _ rfl #[.int .i64 ((yCf n u i+yCf m v2 i)%q:Nat)] ie _ L_ hie hz hs1 hs2 [(0,.int .i64 ((yCf n u i+yCf m v2 i)%q:Nat))] rfl (hl1 _) ?_;intro gX z5009 n0 rX k;refine p_W ?_;have ehLxX:=hL.new n0;have bX:=f_ sb.size n0;clear n0;replace hL:=hL.on k (Yo _);replace sb:=kk sb k;clear k;refine R6 (by rfl) _ _ rfl (w.heap.size) (_) (i) ((fun k=>(yCf n u k+yCf m v2 k)%q)) rfl hL gX _ rfl rX (by omega) sb.size ?_;have h0:=hL;clear hL;intro v1 z5010 hL k hp;refine p_W ?_;clear hp;replace sb:=sb.trans (k.below w.heap.size sb.size h0.base);clear h0;clear k;refine p_W ?_;iterate 2 go_step
   refine r_p ?_;refine p_V _ (x_a i 1) ?_;go_wp2
   go_roundg g
   ·exact⟨i+1,by omega,rfl,hL,sb⟩
   omega
theorem vD {Q:Nat}[NeZero Q](va vb:Value)(La Lb:List (Fin Q))(w:World)(ha:La.length<=1000)(hb:Lb.length<=1000)(q:FdQ Q)(hq:Q<4611686018427387904)(h1:SF w va La)(h2:SF w vb Lb):
  Calls prog 108 #[va,vb,.int .i64 (Q:Nat)] w fun e w'=> ∃v',e= .returned v'/\Kb w' w.heap.size v' (Qq La Lb)/\Below w.heap.size w w':=by
 obtain⟨ab,c,gb,ob,bcs,tb,rfl,hc,hna⟩:=h1;obtain⟨ae,ce,ge,oe,ecs,te,rfl,hce,hnb⟩:=h2;refine(Kc ab ae La.length c Lb.length ce Q _ _ _ gb ob ge oe bcs ecs tb te w rfl ha hb q.pos hq (fun i=>by rw[DY];exact II La i) (fun i=>by rw[DY];exact II Lb i) hna hnb).mono ?_;rintro e w' ⟨ax,cx,rfl,hx,hb'⟩;have hL:=fun i=>DM (q:=Q) La.length (fun i=>(pco La i).val) Lb.length (fun i=>(pco Lb i).val) i
 rw[J7,J7]at hL;obtain⟨e1,e2⟩:=LB (max La.length Lb.length) (ySm (fO Q) La.length (fun i=>(pco La i).val) Lb.length (fun i=>(pco Lb i).val)) (RQ La Lb) (fun i _=>n_ _ q.pos) hL;have h3:=Ga hx (Un (ySm (fO Q) La.length (fun i=>(pco La i).val) Lb.length (fun i=>(pco Lb i).val)) (max La.length Lb.length));refine⟨_,rfl,?_,hb'⟩;show WU w' w.heap.size _ (Yn (RQ La Lb)).length _
 rw[<-e1];exact zm h3 e2
theorem Di {Q:Nat}[NeZero Q](ab ae:Option Addr)(n c ce:Nat)(Xs Ys:List (Fin Q))(gb ob ge oe:Nat)(bcs ecs:Array Value)(tb te:TypeId)(w:World)(hn:n<=100)(q:FdQ Q)(hq:Q<4611686018427387904)(hna:NumsAt w ab n (fun i=>(pco Xs i).val) gb ob bcs tb)(hnb:NumsAt w ae n (fun i=>(pco Ys i).val) ge oe ecs te):
  Calls prog 51 #[.slice ab n c,.slice ae n ce,.int .i64 (Q:Nat)] w fun e w'=> ∃v',e= .returned v'/\Kb w' w.heap.size v' (Qr ivF (pco Xs) (pco Ys) n n)/\Below w.heap.size w w':=by
 obtain⟨ie,hie,hz,hsz,_⟩:=Wx
 have hs1: ¬1*ie.size>2^24:=by rw[hsz];decide
 have hs2: ¬1*ie.size=0:=by rw[hsz];decide
 have hl1:=fun a=>IG a ie.size hsz
 have hs3: ¬2*ie.size>2^24:=by rw[hsz];decide
 have hs4: ¬2*ie.size=0:=by rw[hsz];decide
 have hl2:=fun a b=>yY a b ie.size hsz
 have HB:Hid (NumsAt w ab n (fun i=>(pco Xs i).val) gb ob bcs tb):=hna;have HE:Hid (NumsAt w ae n (fun i=>(pco Ys i).val) ge oe ecs te):=hnb;have HV:Hid (∀x:Fin Q,x.val<Q):=fun x=>x.isLt
 have h2Q:=q.pr.1;have hqp:=q.pos;clear hna hnb hsz
 go_enter func51,ntmps51
 have sb:=YF w;iterate 2 go_step
 refine rp ?_;refine p_V (.slice none 0 0) ((fun _=>rfl)) ?_;iterate 3 go_step
 refine rp ?_;refine p_V (.slice none 0 0) ((fun _=>rfl)) ?_;iterate 4 go_step
 refine rp ?_;refine p_V (.int .i64 0) (fun _=>rfl) ?_
 go_wp2_with fail
 go_loopg [7,8,9,10,11] n (fun x s7 s8 s9 s10 s11 wr=> ∃i:Nat,∃vo:Value,i+x=n/\vo=s7/\s8= .int .i64 i/\Kb wr w.heap.size vo (Qr ivF (pco Xs) (pco Ys) n i)/\Below w.heap.size w wr)
 case atStart=>exact⟨0,_,by omega,rfl,rfl,Dh _ _,sb⟩
 case round=>
  clear sb;obtain⟨i,vo,hi,rfl,rfl,ho,sb⟩:=hrel
  cases gk with
  |zero=>
   obtain rfl:i=n:=by omega
   clear hi;iterate 2 go_step
   refine r_p ?_;refine p_V _ (n_l ab i c Z5) ?_;refine p_V _ (YN i i) ?_;refine p_K false (.bool false) ?_;iterate 7 go_step
   refine r_p ?_;go_wp2;go_ret;exact⟨_,rfl,ho,sb⟩
  |succ x=>
   have hlt:i<n:=by omega
   obtain h1|⟨rfl,rB,hbt⟩:=HB.out.at'
   ·exact absurd h1 (by omega)
   obtain h1|⟨rfl,rE,het⟩:=HE.out.at'
   ·exact absurd h1 (by omega)
   have het':=het i hlt;have HBT:Hid (∀k,k<n->bcs[ob+k*1]?=some (.int .i64 ((pco Xs k).val:Nat))):=hbt;clear rB rE het hbt;iterate 2 go_step
   refine r_p ?_;refine p_V _ (n_l (some ⟨gb,ob,none⟩) n c Z5) ?_;refine p_V _ (YW i n) ?_;refine p_V _ (n_l (some ⟨ge,oe,none⟩) n ce Z5) ?_;refine p_V _ (YW i n) ?_;refine p_K true (.bool true) ?_;obtain h1|⟨_,rE,_⟩:=(HE.out.below sb).at'
   ·exact absurd h1 (by omega)
   iterate 9 go_step
   refine r_p ?_;refine p_X i hlt L_ Q_ ?_;refine p_D (oe+i*1) rE (.int .i64 ((pco Ys i).val:Nat)) het' aD0 ?_;refine Y3 (by rfl) 50 3 1 _ rfl #[.int .i64 ((pco Ys i).val:Nat)] ie _ L_ hie hz hs1 hs2 [(0,.int .i64 ((pco Ys i).val:Nat))] rfl (hl1 _) ?_;intro gX z5004 n0 rX k;refine p_W ?_;have bX:=f_ sb.size n0;clear n0;replace ho:=ho.below k.nil;replace sb:=kk sb k;clear k;refine p_W ?_
   have hone:SF z5004 (.slice (some ⟨gX,0,none⟩) 1 1) (plg ivF (pco Xs) (pco Ys i) i 0):=by
    have:=y5 (Q:=Q) rX (HV.out _);rw[TZ]at this;exact this
   clear rX bX rE;iterate 4 go_step
   refine rp ?_;refine p_V (.int .i64 0) (fun _=>rfl) ?_
   go_wp2_with fail
   go_loopg [9,10,11] n (fun y s9 s10 s11 wr=> ∃k:Nat,∃v1:Value,k+y=n/\v1=s9/\s10= .int .i64 k/\SF wr v1 (plg ivF (pco Xs) (pco Ys i) i k)/\Kb wr w.heap.size vo (Qr ivF (pco Xs) (pco Ys) n i)/\Below w.heap.size w wr)
   case atStart=>exact⟨0,_,by omega,rfl,rfl,hone,ho,sb⟩
   case round=>
    clear hone ho sb;obtain⟨k,v1,hk,rfl,rfl,hone,ho,sb⟩:=hrel
    cases gk with
    |zero=>
     obtain rfl:k=n:=by omega
     clear hk;have hl1':=Vv ivF (pco Xs) (pco Ys i) i k;rw[i_ hlt]at hl1';have hl2':=WQ ivF (pco Xs) (pco Ys) k i (by omega);have had:=fun w' (hz:w.heap.size<=w'.heap.size) (h1:Kb w' w.heap.size vo (Qr ivF (pco Xs) (pco Ys) k i)) (h2:SF w' v1 (plg ivF (pco Xs) (pco Ys i) i k))=>(vD vo v1 _ _ w' (by omega) (by omega) q hq h1.il h2).mono (fun e w2 ⟨v2,e1,h3,hb⟩=>(⟨v2,e1,Qo h3 hz,hb⟩: ∃v2,e=Ending.returned v2/\Kb w2 w.heap.size v2 _/\Below w'.heap.size w' w2))
     iterate 2 go_step
     refine r_p ?_;refine p_V _ (n_l (some ⟨gb,ob,none⟩) k c Z5) ?_;refine p_V _ (YN k k) ?_;iterate 6 go_step
     refine r_p ?_;refine p_f 108 func108 #[vo,v1,.int .i64 (Q:Nat)] (had _ sb.size ho hone) ?_;rintro _ z12003 ⟨v2,rfl,h2,hb⟩;refine⟨_,rfl,?_⟩;refine p_W ?_;have k:=Kept.ofBelow hb;clear hb;replace ho:=ho.below k.nil;replace hone:=hone.below k.nil;replace sb:=kk sb k;clear k;refine p_W ?_;iterate 2 go_step
     refine r_p ?_;refine p_V _ (x_a i 1) ?_;go_wp2
     go_roundg x
     ·exact⟨i+1,_,by omega,rfl,rfl,h2,sb⟩
     omega
    |succ y=>
     have hltk:k<n:=by omega
     have hbk:=HBT.out k hltk;have hbi:=HBT.out i hlt;by_cases hki:k=i
     ·have hst:plg ivF (pco Xs) (pco Ys i) i (k+1)=plg ivF (pco Xs) (pco Ys i) i k:=i_ hki;iterate 2 go_step
      refine r_p ?_;refine p_V _ (n_l (some ⟨gb,ob,none⟩) n c Z5) ?_;refine p_V _ (YW k n) ?_;iterate 9 go_step
      refine r_p ?_;refine p_V _ (ZT .i64 _ _ _ _ rfl k i rfl rfl false (by rw[c_ (by omega)];rfl)) ?_;iterate 6 go_step
      refine r_p ?_;refine p_V _ (x_a k 1) ?_;go_wp2
      go_roundg y
      ·exact⟨k+1,_,by omega,rfl,rfl,hst▸hone,ho,sb⟩
      omega
     ·obtain⟨D,hD⟩: ∃D,sbN (pco Xs i).val (pco Xs k).val Q=D:=⟨_,rfl⟩
      have hDl:D<Q:=by rw[<-hD];exact n_ _ hqp
      have hsu:=fun w'=>Pi (pco Xs i).val (pco Xs k).val Q w' hqp (HV.out _) (HV.out _) hq
      rw[hD]at hsu;obtain⟨BY,hBY⟩: ∃BY,ivN D Q=BY:=⟨_,rfl⟩
      have hBl:BY<Q:=by
       rw[<-hBY,<-g_ hDl,<-yA q.pr];exact DE _ _ q.pr
      have hiv:=fun w'=>J2 D Q w' h2Q hq
      rw[hBY]at hiv;obtain⟨S0,hS0⟩: ∃S0,sbN 0 (pco Xs k).val Q=S0:=⟨_,rfl⟩
      have hs0:=fun w'=>Pi 0 (pco Xs k).val Q w' hqp hqp (HV.out _) hq
      rw[hS0]at hs0;obtain⟨PR,hPR⟩: ∃PR,S0*BY%Q=PR:=⟨_,rfl⟩
      have hPl:PR<Q:=by rw[<-hPR];exact n_ _ hqp
      have hmu:=fun w'=>Pm S0 BY Q w' hqp hq
      rw[hPR]at hmu
      have hst:Vi (plg ivF (pco Xs) (pco Ys i) i k) [fi PR,fi BY]=plg ivF (pco Xs) (pco Ys i) i (k+1):=by
       have e1:(fi BY:Fin Q)=ivF (pco Xs i-pco Xs k):=by
        rw[<-hBY,Aq q.pr D hDl,<-hD];unfold sbN;rw[N2,TZ,TZ]
       have e2:(fi PR:Fin Q)=(0-pco Xs k)*ivF (pco Xs i-pco Xs k):=by
        rw[<-hPR,WS,Um,e1,<-hS0];unfold sbN;rw[N2,TZ];rfl
       rw[e1,e2];exact(j_ hki).symm
      have hl1':=Vv ivF (pco Xs) (pco Ys i) i k
      have hl3:(if i<k then k else k+1)<=102:=by split<;>omega
      have hml:=fun w' (h1:SF w' v1 (plg ivF (pco Xs) (pco Ys i) i k)) g2 (r:Row w' g2 #[.int .i64 (PR:Nat),.int .i64 (BY:Nat)] 3)=>wM v1 (.slice (some ⟨g2,0,none⟩) 2 2) _ [fi PR,fi BY] w' (by omega) (show 2<=1000 by decide) q hq h1 (y6 r hPl hBl)
      rw[hst]at hml;clear hst hl1' hl3 hPR hS0 hBY hD;iterate 2 go_step
      refine r_p ?_;refine p_V _ (n_l (some ⟨gb,ob,none⟩) n c Z5) ?_;refine p_V _ (YW k n) ?_;iterate 9 go_step
      refine r_p ?_;refine p_V _ (ZT .i64 _ _ _ _ rfl k i rfl rfl true (by rw[d_ (by omega)];rfl)) ?_;obtain h1|⟨_,rB,_⟩:=(HB.out.below sb).at'
      ·exact absurd h1 (by omega)
      have orB:=rB;iterate 4 go_step
      refine Yl (by kernel_rfl) [] [(0,false),(1,false),(2,false),(3,false),(4,false),(5,false),(6,false),(7,false),(8,false),(9,false),(10,false),(11,false),(12,false)] ?_ (by kernel_rfl);have cb:=YB sb;have osb:=sb;have oho:=ho;have ohone:=hone;refine e_m ?_;refine e_m ?_;simp only[pv];refine e_v (.pointer (some ⟨gb,ob+i*1,none⟩)) ((Zo 50 _ _ rfl gb ob (n) (c) rfl (i) rfl (hlt) _ L_ 1 Q_)) ?_;simp only[pv];refine YU (by rfl) 3 _ rfl _ (ob+i*1) rfl (fun _ hb=>(orB.belowAll hb)) (.int .i64 ((pco Xs i).val:Nat)) hbi aD0 ?_;refine e_m ?_;refine e_m ?_;simp only[pv];refine e_v (.pointer (some ⟨gb,ob+k*1,none⟩)) ((Zo 50 _ _ rfl gb ob (n) (c) rfl (k) rfl (hltk) _ L_ 1 Q_)) ?_;simp only[pv];refine YU (by rfl) 3 _ rfl _ (ob+k*1) rfl (fun _ hb=>(orB.belowAll hb)) (.int .i64 ((pco Xs k).val:Nat)) hbk aD0 ?_;refine e_m ?_;simp only[pv];refine XG (by rfl) 106 _ _ rfl func106 (by kernel_rfl) #[.int .i64 ((pco Xs i).val:Nat),.int .i64 ((pco Xs k).val:Nat),.int .i64 (Q:Nat)] rfl _ (fun w _=>hsu w) ?_;refine e_m ?_;simp only[pv];refine XG (by rfl) 105 _ _ rfl func105 (by kernel_rfl) #[.int .i64 (D:Nat),.int .i64 (Q:Nat)] rfl _ (fun w _=>hiv w) ?_;refine Ig (by rfl) rfl rfl ?_;simp only[pv];refine VG ?_;intro wz hqb;replace ho:=ho.below hqb;replace hone:=hone.below hqb;replace sb:=b_o sb hqb;clear hqb cb osb oho ohone;clear rB orB hsu hiv;obtain h1|⟨_,rB,_⟩:=(HB.out.below sb).at'
      ·exact absurd h1 (by omega)
      iterate 2 go_step
      refine r_p ?_;refine p_X k hltk L_ Q_ ?_;refine p_D (ob+k*1) rB (.int .i64 ((pco Xs k).val:Nat)) hbk aD0 ?_;refine p_c 106 func106 #[.int .i64 0,.int .i64 ((pco Xs k).val:Nat),.int .i64 (Q:Nat)] (hs0 _) ?_;intro z11006 k;refine p_W ?_;replace ho:=ho.below k.nil;replace hone:=hone.below k.nil;replace sb:=kk sb k;clear k;refine p_W ?_;refine p_c 91 func91 #[.int .i64 (S0:Nat),.int .i64 (BY:Nat),.int .i64 (Q:Nat)] (hmu _) ?_;intro z11009 k;refine p_W ?_;replace ho:=ho.below k.nil;replace hone:=hone.below k.nil;replace sb:=kk sb k;clear k;refine p_W ?_;refine Y3 (by rfl) 50 3 2 _ rfl #[.int .i64 (PR:Nat),.int .i64 (BY:Nat)] ie _ L_ hie hz hs3 hs4 [(0,.int .i64 (PR:Nat)),(1,.int .i64 (BY:Nat))] rfl (hl2 _ _) ?_;intro gX z11011 n0 rX k;refine p_W ?_;have bX:=f_ sb.size n0;clear n0;replace ho:=ho.below k.nil;replace hone:=hone.below k.nil;replace sb:=kk sb k;clear k;refine p_W ?_;refine p_f 107 func107 #[v1,.slice (some ⟨gX,0,none⟩) 2 2,.int .i64 (Q:Nat)] (hml _ hone gX rX) ?_;rintro _ z11013 ⟨v2,rfl,h2,hb⟩;refine⟨_,rfl,?_⟩;refine p_W ?_;have k:=Kept.ofBelow hb;clear hb;replace ho:=ho.below k.nil;replace hone:=hone.below k.nil;replace rX:=k.ro rX;replace sb:=kk sb k;clear k;refine p_W ?_;clear rB;iterate 2 go_step
      refine r_p ?_;refine p_V _ (x_a k 1) ?_;go_wp2
      go_roundg y
      ·exact⟨k+1,_,by omega,rfl,rfl,h2,ho,sb⟩
      omega
theorem vE {Q:Nat}[NeZero Q](vx vy:Value)(Xs Ys:List (Fin Q))(n:Nat)(w:World)(hx:Xs.length=n)(hy:Ys.length=n)(hn:n<=100)(q:FdQ Q)(hq:Q<4611686018427387904)(h1:SF w vx Xs)(h2:SF w vy Ys):
  Calls prog 51 #[vx,vy,.int .i64 (Q:Nat)] w fun e w'=> ∃v',e= .returned v'/\Kb w' w.heap.size v' (Qr ivF (pco Xs) (pco Ys) n n)/\Below w.heap.size w w':=by
 obtain⟨ab,c,gb,ob,bcs,tb,rfl,hc,hna⟩:=h1.nums hx;obtain⟨ae,ce,ge,oe,ecs,te,rfl,hce,hnb⟩:=h2.nums hy;exact Di ab ae n c ce Xs Ys gb ob ge oe bcs ecs tb te w hn q hq hna hnb
theorem zn: ∃i,prog.info? 50=some i/\i.zero=some (.slice none 0 0)/\i.size=1/\i.bytes=24:=by
 have h:(prog.info? 50).map (fun i=>(i.zero,i.size,i.bytes))=some (some (.slice none 0 0),1,24):=by kernel_rfl
 cases hi:prog.info? 50 with
 |none=>rw[hi]at h;cases h
 |some i=>
  rw[hi]at h;simp only[bA0,aT0,dI0]at h;exact⟨i,rfl,h.1,h.2.1,h.2.2⟩
theorem xL (a:Option Addr)(n c k:Nat)(hk:k=1):Instr.fill (fun i=>some (i*k,k)) ((Array.range (1*k)).map ((Value.slice none 0 0).cells[· %(Value.slice none 0 0).cells.size]!)) [(0,.slice a n c)]=some #[.slice a n c]:=by
 subst hk
 kernel_rfl
theorem xN (a:Option Addr)(n c:Nat):(#[Value.slice a n c]:Array Value).all (·.oneCell')=true:=by simp[Value.oneCell']
def upS (P:Nat->Value)(m:Nat)(v:Value):Nat->Value:=fun j=>if j=m then v else P j
theorem Gb (P:Nat->Value)(m:Nat)(v:Value):upS P m v m=v:=i_ rfl
theorem Ch (P:Nat->Value){m j:Nat}{v:Value}(h:j<m):upS P m v j=P j:=j_ (by omega)
def Sx (w:World)(base:Nat)(S:Nat->Value)(N:Nat->Nat)(V:Nat->Nat->Nat)(m:Nat)(v:Value):Prop:=
 ∀j,j<m->WU w base (S j) (N j) (V j)/\ ∀b,v.ownBlock=some b->(S j).ownBlock≠some b
section
variable {w w':World}{base m:Nat}{S:Nat->Value}{N:Nat->Nat}{V:Nat->Nat->Nat}{v v':Value}
theorem Sx.below (h:Sx w base S N V m v)(hb:Below w.heap.size w w'):Sx w' base S N V m v:=fun j hj=>⟨own_below (h j hj).1 hb,(h j hj).2⟩
theorem Sx.app (h:Sx w base S N V m v)(k:Kept v.ownBlock.toList w w')(hp:v'.ownBlock=v.ownBlock∨v'.ownBlock=some w.heap.size):Sx w' base S N V m v':=fun j hj=>by
 obtain⟨h1,h2⟩:=h j hj;refine⟨PA h1 k fun b hb hm=>h2 b (by simpa using hm) hb,fun b hb=>?_⟩;rcases hp with e|e
 ·exact h2 b (e▸hb)
 ·have:b=w.heap.size:=cN0 (hb.symm.trans e);rw[this];exact T5 h1 (e_ _)
theorem Sx.add (h:Sx w base S N V m v){x:Value}(hx:WU w base x (N m) (V m))(hd: ∀b,v.ownBlock=some b->x.ownBlock≠some b):Sx w base (upS S m x) N V (m+1) v:=fun j hj=>by
 by_cases e:j=m
 ·subst e;rw[Gb];exact⟨hx,hd⟩
 ·rw[Ch S (show j<m by omega)];exact h j (by omega)
end
theorem Nk {k:Nat}{e:TypeId}{w:World}{bs:Nat}{v:Value}{n:Nat}{C D:Nat->Array Value}(h:V4 k e w bs v n C)(he: ∀i,i<n->C i=D i):V4 k e w bs v n D:=by
 unfold V4;rw[<-Uu he];exact h
theorem Gc (ab al:Option Addr)(n c q cl t N P Q G:Nat)(X:Nat->Nat)(A:Nat->Option Addr)(CY:Nat->Nat)(Y:Nat->Nat->Nat)(gy oy:Nat->Nat)(ycs:Nat->Array Value)(ty:Nat->TypeId)(M Z:Nat->Nat)(U:Nat->Nat->Nat)(w:World)(t1:1<=t)(t2:t<=2)(hN:N=t+1)(hn2:n<=25)(hYl: ∀j i,j<N->i<n->Y j i<9223372036854775808)(hZ: ∀i,i<n->M i<=Z i/\t<Z i/\(Z i=M i∨Z i=t+1)/\Z i<=100)(hU: ∀i l,i<n->M i<=l->U i l=0)(hY: ∀j,j<N->NatsAt w (A j) n (Y j) (gy j) (oy j) (ycs j) (ty j))
  (hmy: ∀w',Below w.heap.size w w'->Calls prog 48 #[.agg (smC (P:Nat) (Q:Nat) (G:Nat)),.int .i64 (t:Nat),.slice ab n c] w' (Rt (.bool true) w'))
  (hgo: ∀w',Below w.heap.size w w'->Calls prog 49 #[.agg (smC (P:Nat) (Q:Nat) (G:Nat)),.slice ab n c,.slice al q cl,.int .i64 ((t+1:Nat):Int)] w' fun e w2=> ∃ar cr,e= .returned (.slice ar N cr)/\V4 2 64 w2 w'.heap.size (.slice ar N cr) N (fun j=>ptC ((X j:Nat):Int) (.slice (A j) n (CY j)))/\Below w'.heap.size w' w2)
  (hth: ∀i,i<n-> ∀w' b1 b2 vx vy,WU w' b1 vx N X->WU w' b2 vy N (fun k=>Y k i)->Calls prog 51 #[vx,vy,.int .i64 (Q:Nat)] w' fun e w2=> ∃vF,e= .returned vF/\WU w2 w'.heap.size vF (M i) (U i)/\Below w'.heap.size w' w2):
  Calls prog 16 #[.agg (smC (P:Nat) (Q:Nat) (G:Nat)),.int .i64 (t:Nat),.slice ab n c,.slice al q cl] w fun e w'=> ∃ao co S,e= .returned (.tuple #[.slice ao n co,.int .i64 0])/\V4 1 50 w' w.heap.size (.slice ao n co) n (fun j=>#[S j])/\Sx w' w.heap.size S Z U n (.slice ao n co)/\Below w.heap.size w w':=by
 obtain⟨ie,hie,hz,hsz,_⟩:=Wx
 have hs1: ¬1*ie.size>2^24:=by rw[hsz];decide
 have hs2: ¬1*ie.size=0:=by rw[hsz];decide
 have hl1:=fun a=>IG a ie.size hsz
 obtain⟨is',his,hzs,hszs,hbys⟩:=zn
 have hs3: ¬1*is'.size>2^24:=by rw[hszs];decide
 have hs4: ¬1*is'.size=0:=by rw[hszs];decide
 have hls:=fun a n c=>xL a n c is'.size hszs
 have HC2:Hid (∀j,((fun j=>ptC ((X j:Nat):Int) (.slice (A j) n (CY j))) j).size=2):=fun j=>rfl
 have HY:Hid (∀j,j<N->NatsAt w (A j) n (Y j) (gy j) (oy j) (ycs j) (ty j)):=hY
 have hg2: ∀w',Below w.heap.size w w'->Calls prog 49 #[.agg (smC (P:Nat) (Q:Nat) (G:Nat)),.slice ab n c,.slice al q cl,.int .i64 ((t+1:Nat):Int)] w' fun e w2=> ∃gE cur cr,e= .returned (.slice (some ⟨gE,0,none⟩) N cr)/\w'.heap.size<=gE/\Row w2 gE cur 64/\(∀i,i<N-> ∀j v,((fun j=>ptC ((X j:Nat):Int) (.slice (A j) n (CY j))) i).toList[j]?=some v->cur[0+i*2+j]?=some v)/\Below w'.heap.size w' w2:=fun w' hb=>by
  refine(hgo w' hb).mono ?_;rintro e w2 ⟨ar,cr,rfl,hO,hb2⟩;obtain⟨gE,cur,rfl,nE,rE,_,hce⟩:=Qm HC2.out hO (by omega);exact⟨gE,cur,cr,rfl,nE,rE,hce,hb2⟩
 obtain⟨hNt,hN3⟩:t<N/\N<=3:=by omega
 have HTH:Hid (∀i,i<n-> ∀w' b1 b2 vx vy,WU w' b1 vx N X->WU w' b2 vy N (fun k=>Y k i)->Calls prog 51 #[vx,vy,.int .i64 (Q:Nat)] w' fun e w2=> ∃vF,e= .returned vF/\WU w2 w'.heap.size vF (M i) (U i)/\Below w'.heap.size w' w2):=hth;have HYL:Hid (∀j i,j<N->i<n->Y j i<9223372036854775808):=hYl;have HZ:Hid (∀i,i<n->M i<=Z i/\t<Z i/\(Z i=M i∨Z i=t+1)/\Z i<=100):=hZ;have HU:Hid (∀i l,i<n->M i<=l->U i l=0):=hU;clear hY hgo hN hth hYl hZ hU
 go_enter func16,ntmps16
 iterate 2 go_step
 refine rp ?_;refine Zy (by rfl) 27 _ rfl (smC (P:Nat) (Q:Nat) (G:Nat)) rfl ?_;intro g4 z0 n0 r4 k;refine p_W ?_;have b4:w.heap.size<=g4:=n0;clear n0;have sb:=k_b k;clear k;refine p_V (.slice none 0 0) ((fun _=>rfl)) ?_;refine p_V (.int .i64 0) (fun _=>rfl) ?_;iterate 4 go_step
 refine r_p ?_;refine p_V _ (YN (t:Nat) 1) ?_;refine p_V _ (RK (t:Nat) 2) ?_;refine p_K false (.bool false) ?_;refine ZC (by rfl) 27 _ rfl _ 0 rfl r4.r _ (ZQ _) _ M_ rfl Yi (p_W ?_);refine p_c 48 func48 #[.agg (smC (P:Nat) (Q:Nat) (G:Nat)),.int .i64 (t:Nat),.slice ab n c] (hmy _ sb) ?_;intro z1010 k;refine p_W ?_;replace r4:=k.ro r4;replace sb:=kk sb k;clear k;refine p_V _ (Zs _ _ rfl true rfl) ?_;refine p_K false (.bool false) ?_;clear hmy;iterate 7 go_step
 refine rp ?_;refine ZC (by rfl) 27 _ rfl _ 0 rfl r4.r _ (ZQ _) _ M_ rfl Yi (p_W ?_);refine p_V _ (x_a t 1) ?_;refine p_f 49 func49 #[.agg (smC (P:Nat) (Q:Nat) (G:Nat)),.slice ab n c,.slice al q cl,.int .i64 ((t+1:Nat):Int)] (hg2 _ sb) ?_;rintro _ z3005 ⟨gE,cur,cr,rfl,nE,rE,hce,hb⟩;refine⟨_,rfl,?_⟩;refine p_W ?_;have d4xE:=l_l r4.lt nE;have bE:=f_ sb.size nE;clear nE;have k:=Kept.ofBelow hb;clear hb;replace r4:=k.ro r4;replace sb:=kk sb k;clear k;refine p_W ?_;clear hg2;have HCI:Hid (∀i,i<N->cur[0+i*2]?=some (.int .i64 ((X i:Nat):Int))):=fun i hi=>hce i hi 0 _ rfl
 have HCY:Hid (∀i,i<N->cur[0+i*2+1]?=some (.slice (A i) n (CY i))):=fun i hi=>hce i hi 1 _ rfl
 clear hce;iterate 4 go_step
 refine r_p ?_;refine p_V _ (n_l (some ⟨gE,0,none⟩) N cr Yu) ?_;refine p_V _ (ZR _ _ _ _ rfl (N:Nat) (t:Nat) rfl rfl false (d_ (by omega))) ?_;iterate 7 go_step
 refine rp ?_;refine p_V (.slice none 0 0) ((fun _=>rfl)) ?_;iterate 4 go_step
 refine rp ?_;refine p_V (.int .i64 0) (fun _=>rfl) ?_
 go_wp2_with fail
 go_loopg [11,12,13,14,15,16,17,18] n (fun x s11 s12 s13 s14 s15 s16 s17 s18 wr=> ∃(i:Nat) (S:Nat->Value),i+x=n/\s12= .int .i64 i/\V4 1 50 wr w.heap.size s11 i (fun j=>#[S j])/\Sx wr w.heap.size S Z U i s11/\s11.ownBlock≠some g4/\s11.ownBlock≠some gE/\Row wr g4 (smC (P:Nat) (Q:Nat) (G:Nat)) 27/\Row wr gE cur 64/\Below w.heap.size w wr)
 case atStart=>exact⟨0,fun _=>.slice none 0 0,by omega,rfl,Th _ _ _ _,fun j hj=>absurd hj (by omega),(by intro h;cases h),(by intro h;cases h),r4,rE,sb⟩
 case round=>
  clear r4 rE sb;obtain⟨i,S,hi,rfl,hO,hR,ehOx4,ehOxE,r4,rE,sb⟩:=hrel
  cases gk with
  |zero=>
   obtain rfl:i=n:=by omega
   clear hi HTH HYL HZ HU HY HCI HCY;obtain⟨ao,co,rfl⟩:=Wv hO;iterate 2 go_step
   refine r_p ?_;refine p_V _ (n_l ab i c Yq) ?_;refine p_V _ (YN i i) ?_;iterate 7 go_step
   refine r_p ?_;refine p_V (.int .i64 0) (fun _=>rfl) ?_;go_wp2;go_ret2
   first|exact⟨ao,co,S,rfl,hO,hR,sb⟩|skip
  |succ x=>
   have hlt:i<n:=by omega
   obtain⟨ZI,hZI⟩: ∃ZI,Z i=ZI:=⟨_,rfl⟩
   obtain⟨MI,hMI⟩: ∃MI,M i=MI:=⟨_,rfl⟩
   obtain⟨hz1,hz2,hz3,hz4⟩:=HZ.out i hlt;have hth:=HTH.out i hlt;have hu0:=fun l=>HU.out i l hlt
   rw[hZI]at hz1 hz2 hz3 hz4;rw[hMI]at hz1 hz3 hth hu0;have HU0:Hid (∀l,MI<=l->U i l=0):=hu0;have HT1:Hid (∀w' b1 b2 vx vy,WU w' b1 vx N X->WU w' b2 vy N (fun k=>Y k i)->Calls prog 51 #[vx,vy,.int .i64 (Q:Nat)] w' fun e w2=> ∃vF,e= .returned vF/\WU w2 w'.heap.size vF MI (U i)/\Below w'.heap.size w' w2):=hth;clear hu0 hth;obtain⟨wz,hwz⟩: ∃wz,wz=wr:=⟨_,rfl⟩
   subst hwz;have cEz:gE<wz.heap.size:=rE.lt;have sd:=YF wz;have hsw:=sb.size;iterate 2 go_step
   refine r_p ?_;refine p_V _ (n_l ab n c Yq) ?_;refine p_V _ (YW i n) ?_;iterate 9 go_step
   refine rp ?_;refine p_V (.slice none 0 0) ((fun _=>rfl)) ?_;refine p_V (.slice none 0 0) ((fun _=>rfl)) ?_;iterate 4 go_step
   refine rp ?_;refine p_V (.int .i64 0) (fun _=>rfl) ?_
   go_wp2_with fail
   go_loopg [13,14,15,16,17] N (fun y s13 s14 s15 s16 s17 wr=> ∃k:Nat,k+y=N/\s15= .int .i64 k/\WU wr wz.heap.size s13 k X/\WU wr wz.heap.size s14 k (fun k=>Y k i)/\(∀b,s14.ownBlock=some b->s13.ownBlock≠some b)/\Below wz.heap.size wz wr)
   case atStart=>exact⟨0,by omega,rfl,Us _ _ _,Us _ _ _,nofun,sd⟩
   case round=>
    clear sd;obtain⟨k,hk,rfl,hX,hV,zhXxhV,sd⟩:=hrel;have zhVxhX:=OV zhXxhV
    cases gk with
    |zero=>
     obtain rfl:k=N:=by omega
     clear hk zhXxhV zhVxhX;have hz0:=sd.size;have hth:=HT1.out;have r5:=r4.belowAll sd;have rE2:=rE.belowAll sd;iterate 2 go_step
     refine r_p ?_;refine p_V _ (n_l (some ⟨gE,0,none⟩) k cr Yu) ?_;refine p_V _ (YN k k) ?_;iterate 7 go_step
     refine r_p ?_;refine p_V _ (Ze 27 _ 1 rfl g4 0 rfl _ M_ _ rfl 0 Q_) ?_;refine p_D (0+1) r5.r (.int .i64 (Q:Nat)) rfl aD0 ?_;refine p_f 51 func51 #[u13,u14,.int .i64 (Q:Nat)] (hth _ _ _ _ _ hX hV) ?_;rintro _ z17004 ⟨vF,rfl,hF,hb⟩;refine⟨_,rfl,?_⟩;refine p_W ?_;have ehFx5:=hF.low r5.lt;have k:=Kept.ofBelow hb;clear hb;replace r5:=k.ro r5;replace sd:=kk sd k;clear k;refine p_W ?_;clear hth hX hV r5;replace hF:=Qo hF hz0
     go_wp2_with fail
     go_loopg [18] (ZI-MI) (fun y s18 wr=> ∃l:Nat,l+y=ZI/\MI<=l/\WU wr wz.heap.size s18 l (U i)/\Below wz.heap.size wz wr)
     case atStart=>exact⟨MI,by omega,e_ _,hF,sd⟩
     case round=>
      clear sd;obtain⟨l,hl,hml,hF,sd⟩:=hrel;obtain⟨aF,cF,rfl⟩:=Wv hF
      cases gk with
      |zero=>
       obtain rfl:ZI=l:=by omega
       clear hl;iterate 2 go_step
       refine r_p ?_;refine p_V _ (n_l aF ZI cF Z5) ?_;refine p_V _ (ZR _ _ _ _ rfl (ZI:Nat) (t:Nat) rfl rfl false (d_ (by omega))) ?_;have hOl: ∀b,u11.ownBlock=some b->b<wz.heap.size:=fun b hb=>(World.ownsRow.lt hO b hb).2
       have hOF: ∀b,u11.ownBlock=some b->(Value.slice aF ZI cF).ownBlock≠some b:=fun b hb e=>by
        have h1:=(World.ownsRow.lt hF b e).1;have h2:=hOl b hb;omega
       replace r4:=r4.belowAll sd;replace rE:=rE.belowAll sd;replace hO:=own_below hO sd;replace hO:V4 1 50 _ w.heap.size u11 i (fun j=>#[S j]):=hO;replace hR:=hR.below sd;replace sb:=b_o sb sd;replace hF:=Qo hF (show w.heap.size<=wz.heap.size from hsw);rw[<-hZI]at hF;have hR2:=hR.add hF (by rw[hZI];exact hOF);rw[hZI]at hR2 hF;clear hR;replace hO:=Nk (D:=fun j=>#[(upS S i (.slice aF ZI cF)) j]) hO (fun j hj=>by show #[_]=#[_];rw[Ch S hj]);clear sd hOl hOF hF;iterate 6 go_step
       refine r_p ?_;refine Y3 (by rfl) 45 50 1 _ rfl (#[.slice aF ZI cF]) is' _ underlying45 his hzs hs3 hs4 [(0,.slice aF ZI cF)] rfl (hls _ _ _) ?_;intro gY z20002 n0 rY k;refine p_W ?_;have d4xY:=l_l r4.lt n0;have dExY:=l_l rE.lt n0;have ehOxY:=hO.new n0;have bY:=f_ sb.size n0;clear n0;replace r4:=k.ro r4;replace rE:=k.ro rE;replace hR2:=hR2.below k.nil;replace hO:=hO.on k (Yo _);replace sb:=kk sb k;clear k;refine OX (by rfl) _ _ (45) rfl (w.heap.size) 50 is' _ 1 24 underlying45 his hzs hszs hbys rfl (by decide) (by decide) (_) (i) ((fun j=>#[(upS S i (.slice aF ZI cF)) j])) ((fun _=>rfl)) rfl hO gY _ rfl (by show Row _ gY #[(upS S i (.slice aF ZI cF)) i] _;rw[Gb];exact rY) ((by show(#[(upS S i (.slice aF ZI cF)) i]:Array Value).all _=true;rw[Gb];exact xN _ _ _)) ((by omega)) sb.size ?_;have h0:=hO;clear hO;intro v1 z20003 hO k hp;refine p_W ?_;replace hR2:=hR2.app k hp;have c4:=r4.lt;have cE:=rE.lt;replace r4:=k.row r4 (Wi ehOx4);replace rE:=k.row rE (Wi ehOxE);replace ehOx4:=Ww hp c4 ehOx4;replace ehOxE:=Ww hp cE ehOxE;replace sb:=sb.trans (k.below w.heap.size sb.size h0.base);clear k hp h0;refine p_W ?_;iterate 2 go_step
       refine r_p ?_;refine p_V _ (x_a i 1) ?_;go_wp2
       go_roundg x
       ·exact⟨i+1,_,by omega,rfl,hO,hR2,ehOx4,ehOxE,r4,rE,sb⟩
       omega
      |succ y=>
       have hlt2:l<=t:=by omega
       have hul:=HU0.out l hml;iterate 2 go_step
       refine r_p ?_;refine p_V _ (n_l aF l cF Z5) ?_;refine p_V _ (ZR _ _ _ _ rfl (l:Nat) (t:Nat) rfl rfl true (c_ (by omega))) ?_;iterate 7 go_step
       refine r_p ?_;refine Y3 (by rfl) 50 3 1 _ rfl #[.int .i64 0] ie _ L_ hie hz hs1 hs2 [(0,.int .i64 0)] rfl (hl1 _) ?_;intro gA z19001 n0 rA k;refine p_W ?_;have ehFxA:=hF.new n0;have bA:=f_ sd.size n0;clear n0;replace hF:=hF.on k (Yo _);replace sd:=kk sd k;clear k;refine R6 (by rfl) _ _ rfl (wz.heap.size) (_) (l) ((U i)) rfl hF gA _ rfl (show Row _ gA #[.int .i64 ((U i l:Nat):Int)] _ by rw[hul];exact rA) ((by omega)) sd.size ?_;have h0:=hF;clear hF;intro v1 z19002 hF k hp;refine p_W ?_;have crA:=rA.lt;replace rA:=k.row rA (by first|exact Wi ehFxA|exact Wi (h0.low (by omega)))
       (try replace ehFxA:=Ww hp crA ehFxA)
       clear crA;clear hp;replace sd:=sd.trans (k.below wz.heap.size sd.size h0.base);clear h0;clear k;refine p_W ?_;go_wp2
       go_roundg y
       ·exact⟨l+1,by omega,by omega,hF,sd⟩
       omega
    |succ y=>
     have hlk:k<N:=by omega
     have hcI:=HCI.out k hlk;have hcY:=HCY.out k hlk;have hlo:=fun w'=>Sf (Y k i) w' (HYL.out k i hlk hlt)
     obtain h0|⟨hA,rV,hvt⟩:=((HY.out k hlk).below (Zi sb (e_ _) sd)).at'
     ·exact absurd h0 (by omega)
     have hvi:=hvt i hlt;rw[hA]at hcY;clear hvt;have rE2:=rE.belowAll sd;iterate 2 go_step
     refine r_p ?_;refine p_V _ (n_l (some ⟨gE,0,none⟩) N cr Yu) ?_;refine p_V _ (YW k N) ?_;iterate 9 go_step
     refine r_p ?_;refine p_X k hlk aR0 dW0 ?_;refine p_V _ (Ze 64 _ 1 rfl gE (0+k*2) rfl _ F_ _ rfl 0 aC0) ?_;refine p_D (0+k*2+1) rE2.r (.slice (some ⟨gy k,oy k,none⟩) n (CY k)) hcY Z_ ?_;refine p_X i hlt t_ ZD ?_;refine ZC (by rfl) 57 _ rfl _ (oy k+i*4) rfl rV (Zb (Y k i)) hvi _ b_ rfl Zc (p_W ?_);refine p_c 50 hI0 #[.agg (Zb (Y k i))] (hlo _) ?_;intro z14008 k;refine p_W ?_;replace rE2:=k.ro rE2;replace hX:=hX.on k (Yo _);replace hV:=hV.on k (Yo _);replace sd:=kk sd k;clear k;refine p_W ?_;clear rV hlo hvi;iterate 3 go_step
     refine r_p ?_;refine p_X k hlk aR0 dW0 ?_;refine p_V _ (Ze 64 _ 0 rfl gE (0+k*2) rfl _ F_ _ rfl 0 Q_) ?_;refine p_D (0+k*2) rE2.r (.int .i64 ((X k:Nat):Int)) hcI aD0 ?_;refine Y3 (by rfl) 50 3 1 _ rfl #[.int .i64 (X k:Nat)] ie _ L_ hie hz hs1 hs2 [(0,.int .i64 (X k:Nat))] rfl (hl1 _) ?_;intro gA z15006 n0 rA k;refine p_W ?_;have dE2xA:=l_l rE2.lt n0;have ehXxA:=hX.new n0;have ehVxA:=hV.new n0;have bA:=f_ sd.size n0;clear n0;replace rE2:=k.ro rE2;replace hX:=hX.on k (Yo _);replace hV:=hV.on k (Yo _);replace sd:=kk sd k;clear k;refine R6 (by rfl) _ _ rfl (wz.heap.size) (_) (k) (X) rfl hX gA _ rfl rA ((by omega)) sd.size ?_;have h0:=hX;clear hX;intro v1 z15007 hX k hp;refine p_W ?_;have crE2:=rE2.lt;replace rE2:=k.row rE2 (by first|exact Wi ehXxE2|exact Wi (h0.low (by omega)));have zt:=In hV hp zhXxhV;replace hV:=hV.on k (N8 zhXxhV);clear zhXxhV zhVxhX;have zhXxhV:=zt;have zhVxhX:=OV zt;clear zt
     (try replace ehXxE2:=Ww hp crE2 ehXxE2)
     clear crE2;clear hp;replace sd:=sd.trans (k.below wz.heap.size sd.size h0.base);clear h0;clear k;refine p_W ?_;iterate 2 go_step
     refine r_p ?_;refine Y3 (by rfl) 50 3 1 _ rfl #[.int .i64 (Y k i:Nat)] ie _ L_ hie hz hs1 hs2 [(0,.int .i64 (Y k i:Nat))] rfl (hl1 _) ?_;intro gD z16002 n0 rD k;refine p_W ?_;have ehXxD:=hX.new n0;have ehVxD:=hV.new n0;have bD:=f_ sd.size n0;clear n0;replace hX:=hX.on k (Yo _);replace hV:=hV.on k (Yo _);replace sd:=kk sd k;clear k;refine R6 (by rfl) _ _ rfl (wz.heap.size) (_) (k) ((fun k=>Y k i)) rfl hV gD _ rfl rD ((by omega)) sd.size ?_;have h0:=hV;clear hV;intro v1 z16003 hV k hp;refine p_W ?_;have zt:=In hX hp zhVxhX;replace hX:=hX.on k (N8 zhVxhX);clear zhVxhX zhXxhV;have zhVxhX:=zt;have zhXxhV:=OV zt;clear zt;clear hp;replace sd:=sd.trans (k.below wz.heap.size sd.size h0.base);clear h0;clear k;refine p_W ?_;iterate 2 go_step
     refine r_p ?_;refine p_V _ (x_a k 1) ?_;go_wp2
     go_roundg y
     ·exact⟨k+1,by omega,rfl,hX,hV,zhXxhV,sd⟩
     omega
open Go.ChangeShapes Go.WideShapes Go.ChangeAt Go.RowKit
theorem Gd:prog.cellsOf 64=2:=by kernel_rfl
theorem Dj:prog.cellsOf 22=1:=by kernel_rfl
theorem uo: ∀(l:List Value),l.length=2-> ∃a b,l=[a,b]
 |[a,b],_=>⟨a,b,rfl⟩
 |[],h=>by simp at h
 |[_],h=>by simp at h
 |_::_::_::_,h=>by simp at h
structure PtX where
 z:Int
 ay:Option Addr
 ny:Nat
 cy:Nat
 Y:Nat->Nat
 gy:Nat
 oy:Nat
 ycs:Array Value
 ty:TypeId
instance:Inhabited PtX:=⟨⟨0,none,0,0,fun _=>0,0,0,#[],0⟩⟩
theorem Kd {H:Type}{enc:TypeId×Value->H}{W:World}{fuel:Nat}{l:List Value}{x:DataW H×List MemPlace}(hl:l.length=2)
  (h:DataW.trod enc prog W 0 (fun _=>true) true fuel 64 l=some x): ∃p:PtX,(NatsAt W p.ay p.ny p.Y p.gy p.oy p.ycs p.ty/\p.ny<=maxLen)/\l=(ptC p.z (.slice p.ay p.ny p.cy)).toList:=by
 obtain⟨c0,c1,rfl⟩:=uo l hl;obtain⟨y0,y1,n,_,_,h0,h1⟩:=trod_struct2 F_ h
 dsimp only at h0 h1
 rw[Ez]at h0;rw[Dj]at h1;obtain⟨z,e1,_,hw⟩:=gW0 bR0 h0;obtain⟨ai,m,ci,e,gi,oi,bi,ti,e2,hnc,hcm,hni⟩:=I4 (c:=c1) h1;have e3:c0= .int .i64 z:=by simpa using e1
 subst e3 e2;exact⟨⟨z,ai,m,ci,e,gi,oi,bi,ti⟩,⟨hni,f_ hnc hcm⟩,rfl⟩
theorem Dk {H:Type}{enc:TypeId×Value->H}{W:World}{base:Nat}{v0:Value}{d0:DataW H}{p0:List MemPlace}
  (hv:Value.okWide prog W .any base 32 v0)(h0:DataW.Trod enc prog W 0 (fun _=>true) true 32 v0 d0 p0):
  ∃(al:Option Addr) (q cl:Nat) (X:Nat->PtX) (gl ol:Nat) (lcs:Array Value) (tl:TypeId),v0= .slice al q cl/\q<=maxLen/\ElsAt 2 W al q (fun k=>ptC (X k).z (.slice (X k).ay (X k).ny (X k).cy)) gl ol lcs tl/\ ∀k,k<q->NatsAt W (X k).ay (X k).ny (X k).Y (X k).gy (X k).oy (X k).ycs (X k).ty/\(X k).ny<=maxLen:=by
 obtain⟨ab,n,c,rfl,hn,hc,h⟩:=Ml (k:=2) (by decide) aR0 Gd hv h0;rcases h with rfl|⟨gb,ob,bcs,tb,rfl,hR,hel⟩
 ·exact⟨_,0,_,fun _=>default,0,0,#[],0,rfl,dS0 _,⟨.inl rfl⟩,fun i hi=>absurd hi (cW0 _)⟩
 have: ∀i,i<n-> ∃p:PtX,(NatsAt W p.ay p.ny p.Y p.gy p.oy p.ycs p.ty/\p.ny<=maxLen)/\ ∀j v,(ptC p.z (.slice p.ay p.ny p.cy)).toList[j]?=some v->bcs[ob+i*2+j]?=some v:=fun i hi=>by
  obtain⟨l,m,x,hl,hg,hd⟩:=hel i hi;obtain⟨p,hp,rfl⟩:=Kd hl hd;exact⟨p,hp,hg⟩
 obtain⟨e,he⟩:=Deep.choose_lt this;exact⟨_,_,_,e,gb,ob,bcs,tb,rfl,f_ hn hc,⟨.inr ⟨rfl,hR,fun i hi=>(he i hi).2⟩⟩,fun i hi=>(he i hi).1⟩
theorem xO {I:Nat->Int}{HB:Nat->Bool}{e:Nat}: ∀q,(∀j,j<(hsL I HB e q).length->(hsL I HB e q).getD j 0<q/\HB ((hsL I HB e q).getD j 0)=true)/\ ∀i j,i<j->j<(hsL I HB e q).length->I ((hsL I HB e q).getD i 0)≠I ((hsL I HB e q).getD j 0)
 |0=>⟨fun j hj=>absurd hj (cW0 _),fun i j _ hj=>absurd hj (cW0 _)⟩
 |q+1=>by
  obtain⟨h1,h2⟩:=xO q;rw[hsL]
  split
  ·rename_i hc
   simp only[p_,cF0,fB0]at hc;obtain⟨_,ha,hb⟩:=hc;obtain⟨L,hL⟩: ∃L,hsL I HB e q=L:=⟨_,rfl⟩
   rw[hL]at h1 h2 ha ⊢
   have hlt: ∀j,j<L.length->(L++[q]).getD j 0=L.getD j 0:=fun j hj=>by
    rw[s_,s_,dC0 hj]
   have hla:(L++[q]).getD L.length 0=q:=by
    rw[s_,dZ0 (e_ _),fK0];rfl
   have hlen:(L++[q]).length=L.length+1:=by rw[aS0];rfl
   have hne: ∀i,i<L.length->I (L.getD i 0)≠I q:=fun i hi he=>by
    have:=Rj (B:=fun j=>decide (I (L.getD j 0)=I q)) hi (c_ he);rw[ha]at this;cases this
   refine⟨fun j hj=>?_,fun i j hij hj=>?_⟩
   ·rw[hlen]at hj;by_cases e1:j<L.length
    ·rw[hlt j e1];exact⟨cY0 (h1 j e1).1,(h1 j e1).2⟩
    ·obtain rfl:j=L.length:=by omega
     rw[hla];exact⟨hC0 _,hb⟩
   ·rw[hlen]at hj;by_cases e1:j<L.length
    ·rw[hlt j e1,hlt i (by omega)];exact h2 i j hij e1
    ·obtain rfl:j=L.length:=by omega
     rw[hla,hlt i hij];exact hne i hij
  ·exact⟨fun j hj=>⟨cY0 (h1 j hj).1,(h1 j hj).2⟩,h2⟩
section
variable {Q:Nat}[NeZero Q]{g gr gf P G:Nat}{w:World}
theorem zr (f:GF P Q G)(h:GrpAt w g gr gf P Q G)(ab:Option Addr)(n c t:Nat)(S:Nat->Value)(gb ob:Nat)(bcs:Array Value)(tb:TypeId)(N:Nat->Nat)(M:Nat->Nat->Nat)(hna:VsAt w ab n S gb ob bcs tb)(hS: ∀i,i<n->SA w (S i) (N i) (M i)):
  Calls prog 26 #[.pointer (some ⟨g,0,none⟩),.int .i64 (t:Nat),.slice ab n c] w (Rt (.bool (Nj t P Q N M n)) w):=by
 by_cases h1:1<=t
 ·by_cases h2:t<=2
  ·by_cases hc:ccB n ((t+1:Nat):Int)=true
   ·have hc2:=hc;simp only[ccB,p_,cG0]at hc2;refine(Mr _ ab n c t S gb ob bcs tb N (fun k=>Sh P Q (M k) (N k)) w h1 h2 hc hna fun k hk=>?_).mono ?_
    ·obtain⟨ai,ci,gi,oi,bi,ti,e,hn⟩:=hS k hk;exact⟨ai,ci,e,fun w' hb=>Qe f (h.below hb) (hn.below hb)⟩
    ·rintro e w' ⟨rfl,hb⟩;refine⟨?_,hb⟩
     have e1:anB (fun k=> !(decide ((N k:Int)=((t+1:Nat):Int))&&Sh P Q (M k) (N k))) n=anB (fun k=> !Hy t P Q N M k) n:=PY fun j _=>by
      unfold Hy;rw[show decide ((N j:Int)=((t+1:Nat):Int))=decide (N j=t+1)from bO0.2 (by omega)]
     unfold Nj;rw[e1,c_ h1,c_ h2,c_ (show 1<=n by omega),c_ (show n<=25 by omega),Bool.and_self,Bool.and_self,Bool.and_self,Bool.and_true]
   ·rw[Bool.not_eq_true]at hc;refine(AE _ ab n c t w h1 h2 hc).mono ?_;rintro e w' ⟨rfl,hb⟩;refine⟨?_,hb⟩
    have: ¬(1<=n/\n<=25):=fun⟨a,b⟩=>by
     have:ccB n ((t+1:Nat):Int)=true:=by
      simp only[ccB,p_,cG0];omega
     rw[hc]at this;cases this
    unfold Nj;rw[show(decide (1<=n)&&decide (n<=25))=false by rw[Bool.and_eq_false_iff,fB0,fB0];omega,bS0,bS0,bS0]
  ·refine(Ha _ ab n c t w (by unfold lrB;rw[d_ (show ¬(t:Int)<=2 by omega),bS0])).mono ?_;rintro e w' ⟨rfl,hb⟩;exact⟨by unfold Nj;rw[d_ h2,N_,bS0,bS0],hb⟩
 ·refine(Ha _ ab n c t w (by unfold lrB;rw[d_ (show ¬1<=(t:Int) by omega),N_])).mono ?_;rintro e w' ⟨rfl,hb⟩;exact⟨by unfold Nj;rw[d_ h1,N_,bS0],hb⟩
theorem zv (f:GF P Q G)(h:GrpAt w g gr gf P Q G)(ab:Option Addr)(n c:Nat)(S:Nat->Value)(gb ob:Nat)(bcs:Array Value)(tb:TypeId)(N:Nat->Nat)(M:Nat->Nat->Nat)(hna:VsAt w ab n S gb ob bcs tb)(hS: ∀i,i<n->SA w (S i) (N i) (M i))(h1:1<=n)(h2:n<=25)(i:Int)(ay:Option Addr)(ny cy:Nat)(Y:Nat->Nat)(gy oy:Nat)(ycs:Array Value)(ty:TypeId)(hY:NatsAt w ay ny Y gy oy ycs ty):
  Calls prog 23 #[.pointer (some ⟨g,0,none⟩),.slice ab n c,.agg (ptC i (.slice ay ny cy))] w (Rt (.bool (P0 P Q G N M n i ny Y)) w):=by
 have hgr: ∀w',Below w.heap.size w w'->Calls prog 58 #[.pointer (some ⟨g,0,none⟩)] w' (Rt (.bool true) w'):=fun w' hb=>Qi _ (some ⟨gf,0,none⟩) _ _ _ (some ⟨gr,0,none⟩) w' (h.below hb).kn
 unfold P0;by_cases e:ny=n
 ·rw[c_ e,c_ h1,c_ h2,aF0,aF0,aF0];refine Hb _ ab n c S gb ob bcs tb i ay ny cy Y gy oy ycs ty (fun k=>Ra P Q G (M k) (N k) i (Y k)) w (by omega) e hna hY hgr fun k hk=>?_
  obtain⟨ai,ci,gi,oi,bi,ti,e2,hn⟩:=hS k hk;exact⟨ai,_,ci,e2,fun w' hb=>Mh f (h.below hb) (hn.below hb) i (Y k) (hY.lt k (by omega))⟩
 ·rw[d_ e,N_];exact AF _ ab n c i ay ny cy w e hgr
end
theorem Dl {P Q G:Nat}{N:Nat->Nat}{M:Nat->Nat->Nat}{n L:Nat}{I:Int}{Y:Nat->Nat}(h:P0 P Q G N M n I L Y=true):L=n/\(1<=I/\I<=7)/\ ∀k,k<n->Y k<Q:=by
 unfold P0 at h;simp only[p_,cG0,cF0]at h;obtain⟨hL,h1,h2,ha⟩:=h
 have hk: ∀k,k<n->Ra P Q G (M k) (N k) I (Y k)=true:=fun k hk=>by
  cases hc:Ra P Q G (M k) (N k) I (Y k)with
  |true=>rfl
  |false=>
   have:=Rj (B:=fun k=> !Ra P Q G (M k) (N k) I (Y k)) hk (by rw[hc];rfl);rw[ha]at this;cases this
 have hk2: ∀k,k<n->(1<=I/\I<=7)/\Y k<Q:=fun k hkn=>by
  have:=hk k hkn;unfold Ra at this;simp only[p_,cG0]at this;exact⟨this.1.1,this.1.2⟩
 exact⟨hL,(hk2 0 (by omega)).1,fun k hkn=>(hk2 k hkn).2⟩
section
variable {Q:Nat}[NeZero Q]{P G:Nat}
theorem Dm (f:GF P Q G)(hP:P<4611686018427387904)(hQ:Q<4611686018427387904)(ab:Option Addr)(n c t:Nat)(S:Nat->Value)(gb ob:Nat)(bcs:Array Value)(tb:TypeId)(N:Nat->Nat)(M:Nat->Nat->Nat)(al:Option Addr)(q cl:Nat)(X:Nat->PtX)(gl ol:Nat)(lcs:Array Value)(tl:TypeId)(w:World)
  (ht:t<=3)(hn:n<=5)(hq:q<=8)(hN: ∀i,i<n->N i<=8)(hny: ∀k,k<q->(X k).ny<=6)
  (hna:VsAt w ab n S gb ob bcs tb)(hS: ∀i,i<n->SA w (S i) (N i) (M i))(hla:ElsAt 2 w al q (fun k=>ptC (X k).z (.slice (X k).ay (X k).ny (X k).cy)) gl ol lcs tl)(hXY: ∀k,k<q->NatsAt w (X k).ay (X k).ny (X k).Y (X k).gy (X k).oy (X k).ycs (X k).ty):
  (∃z:Int,(∀w' g gr gf,Below w.heap.size w w'->GrpAt w' g gr gf P Q G->Calls prog 15 #[.pointer (some ⟨g,0,none⟩),.int .i64 (t:Nat),.slice ab n c,.slice al q cl] w' (Rt (.tuple #[.slice none 0 0,.int .i64 z]) w'))/\
   ∀w',Below w.heap.size w w'->Calls prog 16 #[.agg (smC (P:Nat) (Q:Nat) (G:Nat)),.int .i64 (t:Nat),.slice ab n c,.slice al q cl] w' (Rt (.tuple #[.slice none 0 0,.int .i64 z]) w'))∨
  ∃(K:Nat) (V:Nat->Nat->Nat),1<=n/\K<=3/\(∀i j,i<n->V i j<4611686018427387904)/\
   (∀w' g gr gf,Below w.heap.size w w'->GrpAt w' g gr gf P Q G->Calls prog 15 #[.pointer (some ⟨g,0,none⟩),.int .i64 (t:Nat),.slice ab n c,.slice al q cl] w' fun e w2=> ∃gP PR,e= .returned (.tuple #[.slice (some ⟨gP,0,none⟩) n n,.int .i64 0])/\w'.heap.size<=gP/\Row w2 gP (vsC n (fun j=>.slice (some ⟨PR j,0,none⟩) K K)) 22/\FamAt w2 0 K PR V n/\Below w'.heap.size w' w2)/\
   ∀w',Below w.heap.size w w'->Calls prog 16 #[.agg (smC (P:Nat) (Q:Nat) (G:Nat)),.int .i64 (t:Nat),.slice ab n c,.slice al q cl] w' fun e w2=> ∃(go co:Nat) (cur:Array Value) (S':Nat->Value),e= .returned (.tuple #[.slice (some ⟨go,0,none⟩) n co,.int .i64 0])/\Row w2 go cur 50/\(∀i,i<n->cur[0+i*1]?=some (S' i))/\(∀i,i<n-> ∃ai ci gi bi,S' i= .slice ai K ci/\NumsAt w2 ai K (V i) gi 0 bi 3)/\Below w'.heap.size w' w2:=by
 have h0:=f.rQ.pos;have h2:=f.rP.two;have hS': ∀{w'},Below w.heap.size w w'-> ∀i,i<n->SA w' (S i) (N i) (M i):=fun hb i hi=>(hS i hi).below hb
 have hN': ∀i,i<n->N i<4611686018427387904:=fun i hi=>by have:=hN i hi;omega
 have hm1: ∀w' g gr gf,Below w.heap.size w w'->GrpAt w' g gr gf P Q G-> ∀w2,Below w'.heap.size w' w2->Calls prog 26 #[.pointer (some ⟨g,0,none⟩),.int .i64 (t:Nat),.slice ab n c] w2 (Rt (.bool (Nj t P Q N M n)) w2):=fun w' g gr gf hb hg w2 hb2=>
  zr f (hg.below hb2) ab n c t S gb ob bcs tb N M ((hna.below hb).below hb2) (hS' (Zi hb (e_ _) hb2))
 have hm2: ∀w',Below w.heap.size w w'->Calls prog 48 #[.agg (smC (P:Nat) (Q:Nat) (G:Nat)),.int .i64 (t:Nat),.slice ab n c] w' (Rt (.bool (Nj t P Q N M n)) w'):=fun w' hb=>
  L9 ab n c t P Q G S gb ob bcs tb N M w' (by omega) h2 hP h0 hQ (by omega) hN' (hna.below hb) (hS' hb)
 cases hmy:Nj t P Q N M n with
 |false=>
  rw[hmy]at hm1 hm2;exact .inl ⟨1,fun w' g gr gf hb hg=>Hu _ ab al n c q cl t w' (hm1 w' g gr gf hb hg),fun w' hb=>Dg ab al n c q cl t P Q G w' fun _ _ w2 hb2=>hm2 w2 (Zi hb (e_ _) hb2)⟩
 |true=>
  rw[hmy]at hm1 hm2
  obtain⟨t1,t2,n1,n2⟩:1<=t/\t<=2/\1<=n/\n<=25:=by
   unfold Nj at hmy;simp only[p_,cG0]at hmy;exact hmy.2
  obtain⟨I,hI⟩: ∃I:Nat->Int,I=fun k=>(X k).z:=⟨_,rfl⟩
  obtain⟨HB,hHB⟩: ∃HB:Nat->Bool,HB=fun k=>P0 P Q G N M n (X k).z (X k).ny (X k).Y:=⟨_,rfl⟩
  have hla':ElsAt 2 w al q (fun k=>ptC (I k) (.slice (X k).ay (X k).ny (X k).cy)) gl ol lcs tl:=by rw[hI];exact hla
  have hh1: ∀w' g gr gf,Below w.heap.size w w'->GrpAt w' g gr gf P Q G-> ∀w2,Below w'.heap.size w' w2->_:=fun w' g gr gf hb hg w2 hb2=>
   MJ (some ⟨g,0,none⟩) ab al n c q cl (t+1) I (fun k=>(X k).ay) (fun k=>(X k).ny) (fun k=>(X k).cy) HB gl ol lcs tl w2 (by omega) (by omega) ((hla'.below hb).below hb2) fun k hk w3 hb3=>by
    have hb4:=Zi (Zi hb (e_ _) hb2) (e_ _) hb3;rw[hI,hHB];exact zv f ((hg.below hb2).below hb3) ab n c S gb ob bcs tb N M (hna.below hb4) (hS' hb4) n1 n2 _ _ _ _ _ _ _ _ _ ((hXY k hk).below hb4)
  have hh2: ∀w',Below w.heap.size w w'->_:=fun w' hb=>
   HP ab al n c q cl (t+1) P Q G I (fun k=>(X k).ay) (fun k=>(X k).ny) (fun k=>(X k).cy) HB gl ol lcs tl w' (by omega) (by omega) (hla'.below hb) fun k hk w3 hb3=>by
    have hb4:=Zi hb (e_ _) hb3;rw[hI,hHB];exact Ka ab _ n c _ _ P Q G _ S gb ob bcs tb N M _ _ _ _ _ w3 h2 hP h0 hQ (by omega) hN' (hna.below hb4) (hS' hb4) (by have:=hny k hk;omega) ((hXY k hk).below hb4)
  obtain⟨L,hL⟩: ∃L,hsL I HB (t+1) q=L:=⟨_,rfl⟩
  have hlen:=Hs (I:=I) (HB:=HB) (e:=t+1) q;obtain⟨ho1,ho2⟩:=xO (I:=I) (HB:=HB) (e:=t+1) q;rw[hL]at hlen ho1 ho2;simp only[hL]at hh1 hh2;by_cases hlt:L.length<=t
  ·exact .inl ⟨3,fun w' g gr gf hb hg=>L5 _ ab al n c q cl t L.length _ w' t2 hlt (hm1 w' g gr gf hb hg) (hh1 w' g gr gf hb hg),fun w' hb=>H4 ab al n c q cl t L.length P Q G w' t1 t2 hlt (fun w2 hb2=>hm2 w2 (Zi hb (e_ _) hb2)) fun w2 hb2=>(hh2 w2 (Zi hb (e_ _) hb2)).mono fun e w3 ⟨ar,cr,e1,_,hb3⟩=>(⟨ar,cr,e1,hb3⟩: ∃ar cr,e=Ending.returned (.slice ar L.length cr)/\Below w2.heap.size w2 w3)⟩
  ·obtain hl:L.length=t+1:=by omega
   rw[hl]at ho1 ho2;simp only[hl]at hh1 hh2;obtain⟨D,hD⟩: ∃D:Nat->Nat,D=fun j=>L.getD j 0:=⟨_,rfl⟩
   have hfy: ∀j,j<t+1->D j<q/\(X (D j)).ny=n/\(1<=I (D j)/\I (D j)<=7)/\ ∀k,k<n->(X (D j)).Y k<Q:=fun j hj=>by
    obtain⟨h3,h4⟩:=ho1 j hj;rw[hHB]at h4;obtain⟨h5,h6,h7⟩:=Dl h4;rw[hD,hI];exact⟨h3,h5,h6,h7⟩
   obtain⟨Xn,hXn⟩: ∃Xn:Nat->Nat,Xn=fun j=>(I (D j)).toNat:=⟨_,rfl⟩
   obtain⟨Y,hY⟩: ∃Y:Nat->Nat->Nat,Y=fun j=>(X (D j)).Y:=⟨_,rfl⟩
   have hIn: ∀j,j<t+1->I (D j)=((Xn j:Nat):Int):=fun j hj=>by
    have:=(hfy j hj).2.2.1;rw[hXn]
    dsimp only
    omega
   have hX7: ∀j,j<t+1->Xn j<=7:=fun j hj=>by
    have:=(hfy j hj).2.2.1;have:=hIn j hj;omega
   have hYQ: ∀j i,j<t+1->i<n->Y j i<Q:=fun j i hj hi=>by rw[hY];exact(hfy j hj).2.2.2 i hi
   have hap:apB 0 (fun k=>((Xn k:Nat):Int)) (t+1)=true:=(OZ _ _ _).2 ⟨fun k hk=>⟨by omega,by have:=hX7 k hk;omega⟩,fun j k hjk hk=>by
    have h3:=ho2 j k hjk hk
    have h4:I (D j)≠I (D k):=by rw[hD];exact h3
    rw[hIn j (by omega),hIn k hk]at h4
    exact h4⟩
   have hdd: ∀i j,i<t+1->j<t+1->i≠j->(fi (Xn i):Fin Q)≠fi (Xn j):=fun i j=>y9 f hap i j
   have hYat: ∀{w'},Below w.heap.size w w'-> ∀j,j<t+1->NatsAt w' (X (D j)).ay n (Y j) (X (D j)).gy (X (D j)).oy (X (D j)).ycs (X (D j)).ty:=fun hb j hj=>by
    obtain⟨h3,h4,_⟩:=hfy j hj;have:=(hXY (D j) h3).below hb;rw[h4]at this;rw[hY];exact this
   have hCC: ∀j,j<t+1->ptC (I (L.getD j 0)) (.slice (X (L.getD j 0)).ay (X (L.getD j 0)).ny (X (L.getD j 0)).cy)=ptC ((Xn j:Nat):Int) (.slice (X (D j)).ay n (X (D j)).cy):=fun j hj=>by
    have h3:=hIn j hj;have h4:=(hfy j hj).2.1;rw[hD]at h3 h4 ⊢;rw[<-h3]
    dsimp only at h4 ⊢
    rw[h4]
   obtain⟨T,hT⟩: ∃T:Nat->List (Fin Q),T=fun i=>Qr ivF (pco (fl (t+1) Xn)) (pco (fl (t+1) (fun k=>Y k i))) (t+1) (t+1):=⟨_,rfl⟩
   have hTl: ∀i,(T i).length<=t+1:=fun i=>by rw[hT];exact WQ _ _ _ _ _ (e_ _)
   have hb7:=f.big
   have hco: ∀i,i<n-> ∀j,rcD Q Xn Y (t+1) i j=(pco (T i) j).val:=fun i hi j=>xF f.rQ hdd (T i) (hTl i) (fun k hk=>by
    have h3:=ON ivF (Iq f.rQ) (pco (fl (t+1) Xn)) (pco (fl (t+1) (fun k=>Y k i))) (t+1) (fun a b ha hb hab=>by rw[Wu _ _ _ ha,Wu _ _ _ hb];exact hdd a b ha hb hab) k hk (t+1) (e_ _);rw[Wu _ Xn _ hk,i_ hk,Wu _ (fun k=>Y k i) _ hk]at h3;rw[hT]
    dsimp only
    rw[h3,Uo (hYQ k i hk hi)]) j
   refine .inr ⟨t+1,rcD Q Xn Y (t+1),n1,by omega,fun i j hi=>by rw[hco i hi];exact E_ (pco (T i) j).isLt hQ,fun w' g gr gf hb hg=>?_,fun w' hb=>?_⟩
   ·refine(Rg ab al n c q cl t (t+1) Xn (fun j=>(X (D j)).ay) (fun j=>(X (D j)).cy) Y (fun j=>(X (D j)).gy) (fun j=>(X (D j)).oy) (fun j=>(X (D j)).ycs) (fun j=>(X (D j)).ty) t1 t2 rfl n1 n2 hX7 hap hdd f.rQ hg (hYat hb) (hm1 w' g gr gf hb hg) fun w2 hb2=>?_).mono ?_
    ·refine(hh1 w' g gr gf hb hg w2 hb2).mono ?_;rintro e w3 ⟨ar,cr,rfl,hO,hb3⟩;exact⟨ar,cr,rfl,Nk hO hCC,hb3⟩
    ·rintro e w2 ⟨gP,PR,rfl,h3,h4,h5,h6⟩;exact⟨gP,PR,rfl,h3,h4,h5.zero,h6⟩
   ·refine(Gc ab al n c q cl t (t+1) P Q G Xn (fun j=>(X (D j)).ay) (fun j=>(X (D j)).cy) Y (fun j=>(X (D j)).gy) (fun j=>(X (D j)).oy) (fun j=>(X (D j)).ycs) (fun j=>(X (D j)).ty) (fun i=>(T i).length) (fun _=>t+1) (fun i l=>(pco (T i) l).val) w' t1 t2 rfl n2 (fun j i hj hi=>by have:=hYQ j i hj hi;omega) (fun i hi=>⟨hTl i,by omega,.inr rfl,by omega⟩) (fun i l hi hl2=>by show(pco (T i) l).val=0;rw[XY _ _ hl2];rfl) (hYat hb) (fun w2 hb2=>hm2 w2 (Zi hb (e_ _) hb2)) (fun w2 hb2=>?_) fun i hi w2 b1 b2 vx vy o1 o2=>?_).mono ?_
    ·refine(hh2 w2 (Zi hb (e_ _) hb2)).mono ?_;rintro e w3 ⟨ar,cr,rfl,hO,hb3⟩;exact⟨ar,cr,rfl,Nk hO hCC,hb3⟩
    ·have h3:=vE vx vy (fl (t+1) Xn) (fl (t+1) (fun k=>Y k i)) (t+1) w2 (YL _ _) (YL _ _) (by omega) f.rQ hQ (Qd o1 (YL _ _).symm fun j hj=>by rw[Wu _ _ _ hj,Uo (by have:=hX7 j hj;omega)]) (Qd o2 (YL _ _).symm fun j hj=>by rw[Wu _ _ _ hj,Uo (hYQ j i hj hi)]);rw[hT];exact h3
    ·rintro e w2 ⟨ao,co,S',rfl,hO,hR,hb2⟩;obtain⟨go,cur,rfl,_,rO,_,hce⟩:=Qm (k:=1) (fun _=>rfl) hO (by omega);refine⟨go,co,cur,S',rfl,rO,fun i hi=>by have:=hce i hi 0 _ rfl;rwa [bM0]at this,fun i hi=>?_,hb2⟩;have h3:=(hR i hi).1;obtain⟨ai,ci,e1⟩:=Wv h3;rw[e1]at h3;obtain⟨_,gi,bi,h4⟩:=T9 h3;refine⟨ai,ci,gi,bi,e1,?_⟩;have e2:(fun l=>(pco (T i) l).val)=rcD Q Xn Y (t+1) i:=funext fun l=>(hco i hi l).symm
     rw[<-e2];exact h4
end
