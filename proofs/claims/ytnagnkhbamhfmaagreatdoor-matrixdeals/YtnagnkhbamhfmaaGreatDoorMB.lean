import Derived.Test.YtnagnkhbamhfmaaGreatDoorMA
import Derived.Test.YtnagnkhbamhfmaaGreatDoorSI
set_option maxRecDepth 100000
set_option maxHeartbeats 8000000
namespace Go.Proofs.YtnagnkhbamhfmaaGreatDoor
set_option linter.all false
open Go.RowKit
open Go.Proofs.Tryz
theorem XR:prog.underlying 32=some (.slice (prog.elem 32)):=by kernel_rfl
theorem Tl: ∃i,prog.info? 64=some i/\i.zero=some (.agg (ptC 0 (.slice none 0 0)))/\i.size=2/\i.bytes=32:=by
 have h:(prog.info? 64).map (fun i=>(i.zero,i.size,i.bytes))=some (some (.agg (ptC 0 (.slice none 0 0))),2,32):=by kernel_rfl
 cases hi:prog.info? 64 with
 |none=>rw[hi]at h;cases h
 |some i=>
  rw[hi]at h;simp only[aS0,aL0,dE0]at h;exact⟨i,rfl,h.1,h.2.1,h.2.2⟩
structure PolAt (w:World)(base n:Nat)(V:Nat->Value)(B:Nat->Nat)(F:Nat->Nat->Nat)(m:Nat):Prop where
 at': ∀j,j<m-> ∃ab c cur,V j= .slice ab n c/\NatsAt w ab n (F j) (B j) 0 cur 57
 low: ∀j,j<m->base<=B j
 lt': ∀j,j<m->B j<w.heap.size
section
variable {w w2:World}{base n m:Nat}{V:Nat->Value}{B:Nat->Nat}{F:Nat->Nat->Nat}
theorem PolAt.lt (h:PolAt w base n V B F m){j:Nat}(hj:j<m):B j<w.heap.size:=h.lt' j hj
theorem PolAt.below (h:PolAt w base n V B F m)(hb:Below w.heap.size w w2):PolAt w2 base n V B F m:=
 ⟨fun j hj=>by
  obtain⟨ab,c,cur,e,hn⟩:=h.at' j hj
  exact⟨ab,c,cur,e,hn.below hb⟩,h.low,fun j hj=>l_ (h.lt' j hj) hb.size⟩
theorem PolAt.on (h:PolAt w base n V B F m){S:List Nat}(k:Kept S w w2)(hS: ∀j,j<m->B j∉S):PolAt w2 base n V B F m:=
 ⟨fun j hj=>by
  obtain⟨ab,c,cur,e,hn⟩:=h.at' j hj
  exact⟨ab,c,cur,e,hn.at'.imp id fun⟨h1,h2,h3⟩=>⟨h1,k.rowR h2 (hS j hj),h3⟩,hn.lt⟩,h.low,fun j hj=>l_ (h.lt' j hj) k.size⟩
theorem Aq (w:World)(base n:Nat)(V:Nat->Value)(B:Nat->Nat)(F:Nat->Nat->Nat):PolAt w base n V B F 0:=
 ⟨fun j hj=>absurd hj (by omega),fun j hj=>absurd hj (by omega),fun j hj=>absurd hj (by omega)⟩
def uxV (V:Nat->Value)(m:Nat)(v:Value):Nat->Value:=fun j=>if j=m then v else V j
theorem N9 (V:Nat->Value)(m:Nat)(v:Value):uxV V m v m=v:=j_ rfl
theorem Dp (V:Nat->Value){m j:Nat}(v:Value)(h:j<m):uxV V m v j=V j:=i_ (by omega)
theorem PolAt.add (h:PolAt w base n V B F m){v:Value}{b c:Nat}{ab:Option Addr}{cur:Array Value}(e:v= .slice ab n c)(hn:NatsAt w ab n (F m) b 0 cur 57)(h1:base<=b)(h2:b<w.heap.size):PolAt w base n (uxV V m v) (upR B m b) F (m+1):=by
 refine⟨fun j hj=>?_,fun j hj=>?_,fun j hj=>?_⟩
 all_goals by_cases hjm:j=m
 ·subst hjm;rw[N9,Xd];exact⟨ab,c,cur,e,hn⟩
 ·rw[Dp V v (by omega),Y4 B (by omega)];exact h.at' j (by omega)
 ·subst hjm;rw[Xd];exact h1
 ·rw[Y4 B (by omega)];exact h.low j (by omega)
 ·subst hjm;rw[Xd];exact h2
 ·rw[Y4 B (by omega)];exact h.lt' j (by omega)
theorem PolAt.pl {Q:Nat}[NeZero Q](h:PolAt w base n V B F m){j:Nat}(hj:j<m)(hn:n<=1000):PlA w (V j) (fl n (F j):List (Fin Q)):=by
 obtain⟨ab,c,cur,e,hna⟩:=h.at' j hj;exact⟨ab,n,c,F j,B j,0,cur,57,e,hn,hna,rfl⟩
theorem R9 {ab:Option Addr}{gb ob:Nat}{G F:Nat->Nat}{bcs:Array Value}{tb:TypeId}(h:NatsAt w ab n F gb ob bcs tb){lo m:Nat}(hl:lo+m<=n)(hG: ∀i,i<m->G i=F (lo+i)):NatsAt w (some ⟨gb,ob+lo*4,none⟩) m G gb (ob+lo*4) bcs tb:=by
 refine⟨?_,fun i hi=>by rw[hG i hi];exact h.lt _ (by omega)⟩;obtain h0|⟨_,h2,h3⟩:=h.at'
 ·exact .inl (by omega)
 ·refine .inr ⟨rfl,h2,fun i hi j v hv=>?_⟩;rw[hG i hi]at hv;have:=h3 (lo+i) (by omega) j v hv;rw[show ob+lo*4+i*4+j=ob+(lo+i)*4+j by omega];exact this
end
def dlF (t:Nat)(F1 F2:Nat->Nat)(k j:Nat):Nat:=if j=0 then F1 k else F2 (t*k+(j-1))
theorem Ar (a b:Option Addr)(n m c d k:Nat)(hk:k=1):Instr.fill (fun i=>some (i*k,k)) ((Array.range (2*k)).map ((Value.slice none 0 0).cells[· %(Value.slice none 0 0).cells.size]!)) [(0,.slice a n c),(1,.slice b m d)]=some #[.slice a n c,.slice b m d]:=by
 subst hk
 kernel_rfl
theorem As {w':World}{base n t k gb ob gq oq c1 c2 gL gP gM:Nat}{ab ar:Option Addr}{F1 F2:Nat->Nat}{bcs qcs cP cM:Array Value}{tb tq tP tM:TypeId}{V:Nat->Value}{B:Nat->Nat}(hk:k<n)(h1:1<=t)(h2:t<=2)
  (rL:Row w' gL #[.slice (some ⟨gb,ob+k*4,none⟩) 1 c1,.slice (some ⟨gq,oq+t*k*4,none⟩) t c2] 22)(hN1:NatsAt w' ab n F1 gb ob bcs tb)(hN2:NatsAt w' ar (t*n) F2 gq oq qcs tq)(hP:PolAt w' base (t+1) V B (dlF t F1 F2) k)(rP:Row w' gP cP tP)(rM:Row w' gM cM tM)(xP: ∀j,j<k->B j≠gP)(xM: ∀j,j<k->B j≠gM)(hb:base<=w'.heap.size):
  Calls prog 35 #[.slice (some ⟨gL,0,none⟩) 2 2] w' fun e w2=> ∃av cv b,e= .returned (.slice av (t+1) cv)/\PolAt w2 base (t+1) (uxV V k (.slice av (t+1) cv)) (upR B k b) (dlF t F1 F2) (k+1)/\(∀j,j<k+1->upR B k b j≠gP)/\(∀j,j<k+1->upR B k b j≠gM)/\Below w'.heap.size w' w2:=by
 have htk:t*k+t<=t*n:=by rw[<-Nat.mul_succ];exact R_ _ hk
 have hS:ctS (fun i=>if i=0 then 1 else t) 2=t+1:=by
  show 0+1+t=t+1
  omega
 have hc:=Lh 2 gL 0 2 (fun i=>if i=0 then gb else gq) (fun i=>if i=0 then ob+k*4 else oq+t*k*4) (fun i=>if i=0 then 1 else t) (fun i=>if i=0 then c1 else c2) (dlF t F1 F2 k) _ 22 w' (by decide) (by rw[hS];omega) (by rw[hS];omega) (fun i hi=>by
   obtain rfl|rfl:i=0∨i=1:=by omega
   ·exact Nat.one_pos
   ·exact h1)
  ⟨.inr ⟨rfl,rL.r,fun i hi=>by
   obtain rfl|rfl:i=0∨i=1:=by omega
   ·rfl
   ·rfl⟩⟩ (fun i hi=>by
   obtain rfl|rfl:i=0∨i=1:=by omega
   ·exact⟨_,_,_,R9 hN1 (lo:=k) (m:=1) (by omega) (fun i hi=>by
     obtain rfl:i=0:=(by omega)
     rfl)⟩
   ·refine⟨_,_,_,R9 hN2 (lo:=t*k) (m:=t) htk (fun i hi=>?_)⟩;show dlF t F1 F2 k (0+1+i)=_
    unfold dlF
    rw[i_ (by omega),show 0+1+i-1=i by omega])
 rw[hS]at hc;refine hc.mono ?_;rintro e w2 ⟨v,rfl,hO,hb2⟩;obtain⟨av,cv,rfl⟩:=We hO
 have hlt: ∀i,i<t+1->dlF t F1 F2 k i<2^256:=fun i hi=>by
  unfold dlF
  split
  ·exact hN1.lt k hk
  ·exact hN2.lt _ (by omega)
 obtain⟨_,g1,cur,hna⟩:=Uq hO hlt;obtain h0|⟨rfl,rr,_⟩:=hna.at'
 ·omega
 have hg:w'.heap.size<=g1:=hO.base g1 (by simp[Value.ownBlock])
 have hX: ∀x,x<w'.heap.size->(∀j,j<k->B j≠x)-> ∀j,j<k+1->upR B k g1 j≠x:=fun x hx hj j hjk=>by
  by_cases e:j=k
  ·subst e;rw[Xd];omega
  ·rw[Y4 B (by omega)];exact hj j (by omega)
 exact⟨_,_,g1,rfl,(hP.below hb2).add rfl hna (by omega) rr.lt,hX gP rP.lt xP,hX gM rM.lt xM,hb2⟩
theorem Dq (v ab ar:Option Addr)(n c m d:Nat)(t:Int)(w:World)(h:lrB t=false):
  Calls prog 9 #[.pointer v,.int .i64 t,.slice ab n c,.slice ar m d] w fun e w'=>e= .returned (.tuple #[.slice none 0 0,.slice none 0 0,.int .i64 1])/\Below w.heap.size w w':=by
 have hl:=fun w'=>Wy t w'
 rw[h]at hl
 go_enter func9,ntmps9
 have sb:=YG w;iterate 2 go_step
 refine rp ?_;refine p_v (.slice none 0 0) ((fun _=>rfl)) ?_;simp only[pv];refine p_v (.slice none 0 0) ((fun _=>rfl)) ?_;refine p_v (.int .i64 0) (fun _=>rfl) (Zb ?_);simp only[pv];iterate 4 go_step
 refine rp ?_;refine p_m ?_;simp only[pv];refine p_c 32 func32 #[.int .i64 t] (hl _) ?_;intro z1001 k;simp only[pv];replace sb:=kk sb k;clear k;refine p_v _ (Zz _ _ rfl false rfl) ?_;refine p_m ?_;refine p_s ?_;refine p_s ?_;refine p_s ?_;simp only[pv];refine p_s ?_;refine p_s ?_;refine p_s ?_;refine p_k true (.bool true) ?_;refine p_m ?_;simp only[pv];refine p_s ?_;refine p_s ?_;refine p_s ?_;refine p_s ?_;refine p_s ?_;simp only[pv];refine p_s ?_;refine p_s ?_;refine p_k true (.bool true) (Zb ?_);simp only[pv];iterate 4 go_step
 refine rp ?_;refine p_v (.slice none 0 0) ((fun _=>rfl)) ?_;simp only[pv];refine p_v (.slice none 0 0) ((fun _=>rfl)) ?_;refine p_v (.int .i64 1) (fun _=>rfl) (Zb ?_);simp only[pv];go_wp2
 go_ret3
 exact⟨rfl,sb⟩
theorem yD (v ab ar:Option Addr)(n c m d:Nat)(t:Nat)(w:World)(h1:1<=t)(h2:t<=2)(h:ccB n ((t+1:Nat):Int)=false):
  Calls prog 9 #[.pointer v,.int .i64 (t:Nat),.slice ab n c,.slice ar m d] w fun e w'=>e= .returned (.tuple #[.slice none 0 0,.slice none 0 0,.int .i64 1])/\Below w.heap.size w w':=by
 have hl:=fun w'=>Wy (t:Nat) w'
 rw[show lrB t=true by unfold lrB;rw[d_ (by omega),d_ (by omega)];rfl]at hl;have hcc:=fun w'=>XJ n ((t+1:Nat):Int) w'
 rw[h]at hcc
 go_enter func9,ntmps9
 have sb:=YG w;iterate 2 go_step
 refine rp ?_;refine p_v (.slice none 0 0) ((fun _=>rfl)) ?_;simp only[pv];refine p_v (.slice none 0 0) ((fun _=>rfl)) ?_;refine p_v (.int .i64 0) (fun _=>rfl) (Zb ?_);simp only[pv];iterate 4 go_step
 refine rp ?_;refine p_m ?_;simp only[pv];refine p_c 32 func32 #[.int .i64 (t:Nat)] (hl _) ?_;intro z1001 k;simp only[pv];replace sb:=kk sb k;clear k;refine p_v _ (Zz _ _ rfl true rfl) ?_;refine p_m ?_;refine p_m ?_;simp only[pv];refine p_v _ (n_l ab n c Zm) ?_;refine p_m ?_;simp only[pv];refine p_v _ (x_a t 1) ?_;simp only[pv];refine p_c 33 iF0 #[.int .i64 n,.int .i64 ((t+1:Nat):Int)] (hcc _) ?_;intro z1008 k;simp only[pv];replace sb:=kk sb k;clear k;refine p_v _ (Zz _ _ rfl false rfl) ?_;refine p_k false (.bool true) ?_;refine p_m ?_;refine p_s ?_;refine p_s ?_;simp only[pv];refine p_s ?_;refine p_s ?_;refine p_s ?_;refine p_s ?_;refine p_s ?_;simp only[pv];refine p_k true (.bool true) (Zb ?_);simp only[pv];iterate 4 go_step
 refine rp ?_;refine p_v (.slice none 0 0) ((fun _=>rfl)) ?_;simp only[pv];refine p_v (.slice none 0 0) ((fun _=>rfl)) ?_;refine p_v (.int .i64 1) (fun _=>rfl) (Zb ?_);simp only[pv];go_wp2
 go_ret3
 exact⟨rfl,sb⟩
theorem yE (v ab ar:Option Addr)(n c m d:Nat)(t:Nat)(w:World)(h1:1<=t)(h2:t<=2)(h:ccB n ((t+1:Nat):Int)=true)(hm:m≠t*n):
  Calls prog 9 #[.pointer v,.int .i64 (t:Nat),.slice ab n c,.slice ar m d] w fun e w'=>e= .returned (.tuple #[.slice none 0 0,.slice none 0 0,.int .i64 1])/\Below w.heap.size w w':=by
 have hl:=fun w'=>Wy (t:Nat) w'
 rw[show lrB t=true by unfold lrB;rw[d_ (by omega),d_ (by omega)];rfl]at hl;have hcc:=fun w'=>XJ n ((t+1:Nat):Int) w'
 have hn1:1<=n/\n<=25:=by
  simp only[ccB,s_,dJ0]at h;omega
 have htn:t*n<=2*25:=L_ h2 hn1.2;rw[h]at hcc
 go_enter func9,ntmps9
 have sb:=YG w;iterate 2 go_step
 refine rp ?_;refine p_v (.slice none 0 0) ((fun _=>rfl)) ?_;simp only[pv];refine p_v (.slice none 0 0) ((fun _=>rfl)) ?_;refine p_v (.int .i64 0) (fun _=>rfl) (Zb ?_);simp only[pv];iterate 4 go_step
 refine rp ?_;refine p_m ?_;simp only[pv];refine p_c 32 func32 #[.int .i64 (t:Nat)] (hl _) ?_;intro z1001 k;simp only[pv];replace sb:=kk sb k;clear k;refine p_v _ (Zz _ _ rfl true rfl) ?_;refine p_m ?_;refine p_m ?_;simp only[pv];refine p_v _ (n_l ab n c Zm) ?_;refine p_m ?_;simp only[pv];refine p_v _ (x_a t 1) ?_;simp only[pv];refine p_c 33 iF0 #[.int .i64 n,.int .i64 ((t+1:Nat):Int)] (hcc _) ?_;intro z1008 k;simp only[pv];replace sb:=kk sb k;clear k;refine p_v _ (Zz _ _ rfl true rfl) ?_;refine p_k false (.bool false) ?_;refine p_m ?_;refine p_m ?_;simp only[pv];refine p_v _ (n_l ar m d Zm) ?_;refine p_m ?_;refine p_m ?_;simp only[pv];refine p_v _ (n_l ab n c Zm) ?_;simp only[pv];refine p_v _ (Z7 _ _ _ _ rfl t n (t*n) rfl rfl rfl (by omega)) ?_;simp only[pv];refine p_v _ (ZX .i64 _ _ _ _ rfl m (t*n:Nat) rfl rfl true (by rw[e_ (by omega)];rfl)) ?_;refine p_k false (.bool true) (Zb ?_);simp only[pv];iterate 4 go_step
 refine rp ?_;refine p_v (.slice none 0 0) ((fun _=>rfl)) ?_;simp only[pv];refine p_v (.slice none 0 0) ((fun _=>rfl)) ?_;refine p_v (.int .i64 1) (fun _=>rfl) (Zb ?_);simp only[pv];go_wp2
 go_ret3
 exact⟨rfl,sb⟩
theorem Dr (v ab ar:Option Addr)(n c m d:Nat)(b:Bool)(t:Nat)(w:World)(h1:1<=t)(h2:t<=2)(h:ccB n ((t+1:Nat):Int)=true)(hm:m=t*n)
  (hin1: ∀w',Below w.heap.size w w'->Calls prog 34 #[.pointer v,.slice ab n c] w' (Rt (.bool b) w'))
  (hin2:b=true-> ∀w',Below w.heap.size w w'->Calls prog 34 #[.pointer v,.slice ar m d] w' (Rt (.bool false) w')):
  Calls prog 9 #[.pointer v,.int .i64 (t:Nat),.slice ab n c,.slice ar m d] w fun e w'=>e= .returned (.tuple #[.slice none 0 0,.slice none 0 0,.int .i64 1])/\Below w.heap.size w w':=by
 have hl:=fun w'=>Wy (t:Nat) w'
 rw[show lrB t=true by unfold lrB;rw[d_ (by omega),d_ (by omega)];rfl]at hl;have hcc:=fun w'=>XJ n ((t+1:Nat):Int) w'
 have hn1:1<=n/\n<=25:=by
  simp only[ccB,s_,dJ0]at h;omega
 have htn:t*n<=2*25:=L_ h2 hn1.2;rw[h]at hcc;cases b
 ·clear hin2
  go_enter func9,ntmps9
  have sb:=YG w;iterate 2 go_step
  refine rp ?_;refine p_v (.slice none 0 0) ((fun _=>rfl)) ?_;simp only[pv];refine p_v (.slice none 0 0) ((fun _=>rfl)) ?_;refine p_v (.int .i64 0) (fun _=>rfl) (Zb ?_);simp only[pv];iterate 4 go_step
  refine rp ?_;refine p_m ?_;simp only[pv];refine p_c 32 func32 #[.int .i64 (t:Nat)] (hl _) ?_;intro z1001 k;simp only[pv];replace sb:=kk sb k;clear k;refine p_v _ (Zz _ _ rfl true rfl) ?_;refine p_m ?_;refine p_m ?_;simp only[pv];refine p_v _ (n_l ab n c Zm) ?_;refine p_m ?_;simp only[pv];refine p_v _ (x_a t 1) ?_;simp only[pv];refine p_c 33 iF0 #[.int .i64 n,.int .i64 ((t+1:Nat):Int)] (hcc _) ?_;intro z1008 k;simp only[pv];replace sb:=kk sb k;clear k;refine p_v _ (Zz _ _ rfl true rfl) ?_;refine p_k false (.bool false) ?_;refine p_m ?_;refine p_m ?_;simp only[pv];refine p_v _ (n_l ar m d Zm) ?_;refine p_m ?_;refine p_m ?_;simp only[pv];refine p_v _ (n_l ab n c Zm) ?_;simp only[pv];refine p_v _ (Z7 _ _ _ _ rfl t n (t*n) rfl rfl rfl (by omega)) ?_;simp only[pv];refine p_v _ (ZX .i64 _ _ _ _ rfl m (t*n:Nat) rfl rfl false (by rw[d_ (by omega)];rfl)) ?_;refine p_k false (.bool false) (Zb ?_);simp only[pv];iterate 8 go_step
  refine rp ?_;refine p_m ?_;refine p_m ?_;simp only[pv];refine p_c 34 func34 #[.pointer v,.slice ab n c] (hin1 _ sb) ?_;intro z3002 k;simp only[pv];replace sb:=kk sb k;clear k;refine p_v _ (Zz _ _ rfl false rfl) ?_;refine p_m ?_;refine p_s ?_;refine p_s ?_;refine p_s ?_;simp only[pv];refine p_s ?_;refine p_k true (.bool true) (Zb ?_);simp only[pv];iterate 4 go_step
  refine rp ?_;refine p_v (.slice none 0 0) ((fun _=>rfl)) ?_;simp only[pv];refine p_v (.slice none 0 0) ((fun _=>rfl)) ?_;refine p_v (.int .i64 1) (fun _=>rfl) (Zb ?_);simp only[pv];go_wp2
  go_ret3
  exact⟨rfl,sb⟩
 ·have hin:=hin2 rfl;clear hin2
  go_enter func9,ntmps9
  have sb:=YG w;iterate 2 go_step
  refine rp ?_;refine p_v (.slice none 0 0) ((fun _=>rfl)) ?_;simp only[pv];refine p_v (.slice none 0 0) ((fun _=>rfl)) ?_;refine p_v (.int .i64 0) (fun _=>rfl) (Zb ?_);simp only[pv];iterate 4 go_step
  refine rp ?_;refine p_m ?_;simp only[pv];refine p_c 32 func32 #[.int .i64 (t:Nat)] (hl _) ?_;intro z1001 k;simp only[pv];replace sb:=kk sb k;clear k;refine p_v _ (Zz _ _ rfl true rfl) ?_;refine p_m ?_;refine p_m ?_;simp only[pv];refine p_v _ (n_l ab n c Zm) ?_;refine p_m ?_;simp only[pv];refine p_v _ (x_a t 1) ?_;simp only[pv];refine p_c 33 iF0 #[.int .i64 n,.int .i64 ((t+1:Nat):Int)] (hcc _) ?_;intro z1008 k;simp only[pv];replace sb:=kk sb k;clear k;refine p_v _ (Zz _ _ rfl true rfl) ?_;refine p_k false (.bool false) ?_;refine p_m ?_;refine p_m ?_;simp only[pv];refine p_v _ (n_l ar m d Zm) ?_;refine p_m ?_;refine p_m ?_;simp only[pv];refine p_v _ (n_l ab n c Zm) ?_;simp only[pv];refine p_v _ (Z7 _ _ _ _ rfl t n (t*n) rfl rfl rfl (by omega)) ?_;simp only[pv];refine p_v _ (ZX .i64 _ _ _ _ rfl m (t*n:Nat) rfl rfl false (by rw[d_ (by omega)];rfl)) ?_;refine p_k false (.bool false) (Zb ?_);simp only[pv];iterate 8 go_step
  refine rp ?_;refine p_m ?_;refine p_m ?_;simp only[pv];refine p_c 34 func34 #[.pointer v,.slice ab n c] (hin1 _ sb) ?_;intro z3002 k;simp only[pv];replace sb:=kk sb k;clear k;refine p_v _ (Zz _ _ rfl true rfl) ?_;refine p_m ?_;refine p_m ?_;refine p_m ?_;simp only[pv];refine p_c 34 func34 #[.pointer v,.slice ar m d] (hin _ sb) ?_;intro z3007 k;simp only[pv];replace sb:=kk sb k;clear k;refine p_v _ (Zz _ _ rfl false rfl) ?_;refine p_k false (.bool true) (Zb ?_);simp only[pv];iterate 4 go_step
  refine rp ?_;refine p_v (.slice none 0 0) ((fun _=>rfl)) ?_;simp only[pv];refine p_v (.slice none 0 0) ((fun _=>rfl)) ?_;refine p_v (.int .i64 1) (fun _=>rfl) (Zb ?_);simp only[pv];go_wp2
  go_ret3
  exact⟨rfl,sb⟩
section
variable {Q:Nat}[NeZero Q]{g gr gf P G:Nat}{w:World}
def dlL (Q:Nat)[NeZero Q](t:Nat)(F1 F2:Nat->Nat)(k:Nat):List (Fin Q):=fl (t+1) (dlF t F1 F2 k)
theorem IJ (n c m d t:Nat)(F1 F2:Nat->Nat)(gb ob gq oq:Nat)(bcs qcs:Array Value)(tb tq:TypeId)(h1:1<=t)(h2:t<=2)(h:ccB n ((t+1:Nat):Int)=true)(hm:m=t*n)(hc:n<=c)(hd:m<=d)(f:GF P Q G)(hg:GrpAt w g gr gf P Q G)(hN1:NatsAt w (some ⟨gb,ob,none⟩) n F1 gb ob bcs tb)(hN2:NatsAt w (some ⟨gq,oq,none⟩) m F2 gq oq qcs tq)
  (hin1: ∀w',Below w.heap.size w w'->Calls prog 34 #[.pointer (some ⟨g,0,none⟩),.slice (some ⟨gb,ob,none⟩) n c] w' (Rt (.bool true) w'))
  (hin2: ∀w',Below w.heap.size w w'->Calls prog 34 #[.pointer (some ⟨g,0,none⟩),.slice (some ⟨gq,oq,none⟩) m d] w' (Rt (.bool true) w')):
  Calls prog 9 #[.pointer (some ⟨g,0,none⟩),.int .i64 (t:Nat),.slice (some ⟨gb,ob,none⟩) n c,.slice (some ⟨gq,oq,none⟩) m d] w fun e w'=> ∃gM R gT Y,e= .returned (.tuple #[.slice (some ⟨gM,0,none⟩) n n,.slice (some ⟨gT,0,none⟩) (3*t+1) (3*t+1),.int .i64 0])/\w.heap.size<=gM/\w.heap.size<=gT/\Row w' gM (vsC n (fun j=>.slice (some ⟨R j,0,none⟩) (t+1) (t+1))) 22/\FamAt w' w.heap.size (t+1) R (fun a b=>G^(pco (dlL Q t F1 F2 a) b).val%P) n/\Row w' gT (esC 2 (3*t+1) (fun j=>ptC ((j+1:Nat):Int) (.slice (some ⟨Y j,0,none⟩) n n))) 64/\FamAt w' w.heap.size n Y (fun a b=>(pev (fi (a+1)) (dlL Q t F1 F2 b)).val) (3*t+1)/\Below w.heap.size w w':=by
 have hl:=fun w'=>Wy (t:Nat) w'
 rw[show lrB t=true by unfold lrB;rw[d_ (by omega),d_ (by omega)];rfl]at hl;have hcc:=fun w'=>XJ n ((t+1:Nat):Int) w'
 have hn1:1<=n/\n<=25:=by
  simp only[ccB,s_,dJ0]at h;omega
 have htn:t*n<=2*25:=L_ h2 hn1.2;rw[h]at hcc;subst hm;obtain⟨is',his,hzs,hszs,hbys⟩:=Tf;obtain⟨ip,hip,hzp,hszp,hbyp⟩: ∃i,prog.info? 64=some i/\i.zero=some (.agg (ptC 0 (.slice none 0 0)))/\i.size=2/\i.bytes=32:=Tl
 have h21: ¬2*is'.size>2^24:=by rw[hszs];decide
 have h22: ¬2*is'.size=0:=by rw[hszs];decide
 have hl2:=fun a b n m c d=>Ar a b n m c d is'.size hszs
 have HT:Hid (∀(w':World) (v:Value) k,Below w.heap.size w w'->PlA w' v (dlL Q t F1 F2 k)->Calls prog 36 #[.pointer (some ⟨g,0,none⟩),v,.int .i64 ((t+1:Nat):Int)] w' fun e w2=> ∃gC,e= .returned (.tuple #[.slice (some ⟨gC,0,none⟩) (t+1) (t+1),.int .i64 0])/\w'.heap.size<=gC/\Row w2 gC (nsC (t+1) ((fun a b=>G^(pco (dlL Q t F1 F2 a) b).val%P) k)) 57/\Below w'.heap.size w' w2):=fun w' v k hb hp=>by
  obtain⟨ab,mm,cc,_,_,_,_,_,rfl,_⟩:=id hp;exact xF ab mm cc (dlL Q t F1 F2 k) (t+1) (by omega) (by omega) (f_ (Tb _) (by rw[show dlL Q t F1 F2 k=fl (t+1) (dlF t F1 F2 k)from rfl,Y3];exact c_ _)) f.rQ f.rP (E_ f.lt f.rP.m) (hg.below hb) hp
 have HS:Hid (∀(w':World) gP V B i,Below w.heap.size w w'->Row w' gP (vsC n V) 22->PolAt w' w.heap.size (t+1) V B (dlF t F1 F2) n->i<1000->Calls prog 24 #[.pointer (some ⟨g,0,none⟩),.slice (some ⟨gP,0,none⟩) n n,.int .i64 ((i+1:Nat):Int)] w' fun e w2=> ∃gY,e= .returned (.agg (ptC ((i+1:Nat):Int) (.slice (some ⟨gY,0,none⟩) n n)))/\w'.heap.size<=gY/\Row w2 gY (nsC n ((fun a b=>(pev (fi (a+1)) (dlL Q t F1 F2 b)).val) i)) 57/\Below w'.heap.size w' w2):=fun w' gP V B i hb rP hP hi=>B0 _ (some ⟨gP,0,none⟩) n n (i+1) V gP 0 (vsC n V) 22 ((fun a b=>(pev (fi (a+1)) (dlL Q t F1 F2 b)).val) i) w' (by omega) (by omega) ⟨.inr ⟨rfl,rP.r,fun j hj=>by rw[show 0+j*1=j by omega];exact XA V hj⟩⟩ (fun w2 hb2=>NS _ (some ⟨gf,0,none⟩) P Q G (some ⟨gr,0,none⟩) w2 (hg.below (Zk hb (c_ _) hb2)).kn) (fun k hk w2 hb2=>Bs (V k) (dlL Q t F1 F2 k) (i+1) (by omega) f.rQ (hg.below (Zk hb (c_ _) hb2)) ((hP.below hb2).pl hk (by omega)))
 have HN1:Hid (NatsAt w (some ⟨gb,ob,none⟩) n F1 gb ob bcs tb):=hN1;have HN2:Hid (NatsAt w (some ⟨gq,oq,none⟩) (t*n) F2 gq oq qcs tq):=hN2;clear hg hN1 hN2
 go_enter func9,ntmps9
 have sb:=YG w;iterate 2 go_step
 refine rp ?_;refine p_v (.slice none 0 0) ((fun _=>rfl)) ?_;simp only[pv];refine p_v (.slice none 0 0) ((fun _=>rfl)) ?_;refine p_v (.int .i64 0) (fun _=>rfl) (Zb ?_);simp only[pv];iterate 4 go_step
 refine rp ?_;refine p_m ?_;simp only[pv];refine p_c 32 func32 #[.int .i64 (t:Nat)] (hl _) ?_;intro z1001 k;simp only[pv];replace sb:=kk sb k;clear k;refine p_v _ (Zz _ _ rfl true rfl) ?_;refine p_m ?_;refine p_m ?_;simp only[pv];refine p_v _ (n_l (some ⟨gb,ob,none⟩) n c Zm) ?_;refine p_m ?_;simp only[pv];refine p_v _ (x_a t 1) ?_;simp only[pv];refine p_c 33 iF0 #[.int .i64 n,.int .i64 ((t+1:Nat):Int)] (hcc _) ?_;intro z1008 k;simp only[pv];replace sb:=kk sb k;clear k;refine p_v _ (Zz _ _ rfl true rfl) ?_;refine p_k false (.bool false) ?_;refine p_m ?_;refine p_m ?_;simp only[pv];refine p_v _ (n_l (some ⟨gq,oq,none⟩) (t*n) d Zm) ?_;refine p_m ?_;refine p_m ?_;simp only[pv];refine p_v _ (n_l (some ⟨gb,ob,none⟩) n c Zm) ?_;simp only[pv];refine p_v _ (Z7 _ _ _ _ rfl t n (t*n) rfl rfl rfl (by omega)) ?_;simp only[pv];refine p_v _ (ZX .i64 _ _ _ _ rfl (t*n:Nat) (t*n:Nat) rfl rfl false (by rw[d_ (by omega)];rfl)) ?_;refine p_k false (.bool false) (Zb ?_);simp only[pv];iterate 8 go_step
 refine rp ?_;refine p_m ?_;refine p_m ?_;simp only[pv];refine p_c 34 func34 #[.pointer (some ⟨g,0,none⟩),.slice (some ⟨gb,ob,none⟩) n c] (hin1 _ sb) ?_;intro z3002 k;simp only[pv];replace sb:=kk sb k;clear k;refine p_v _ (Zz _ _ rfl true rfl) ?_;refine p_m ?_;refine p_m ?_;refine p_m ?_;simp only[pv];refine p_c 34 func34 #[.pointer (some ⟨g,0,none⟩),.slice (some ⟨gq,oq,none⟩) (t*n) d] (hin2 _ sb) ?_;intro z3007 k;simp only[pv];replace sb:=kk sb k;clear k;refine p_v _ (Zz _ _ rfl true rfl) ?_;refine p_k false (.bool false) (Zb ?_);simp only[pv];clear hin1 hin2 hl hcc;iterate 7 go_step
 apply Zi (by kernel_rfl) [] [_,_,_,_,_,_,_,_] trivial (by simp<;>omega)
 ·intro p;refine m_m ?_;simp only[pv];refine Ze _ (n_l (some ⟨gb,ob,none⟩) n c Zm) ?_;simp only[pv];refine LY 30 22 _ _ rfl is' _ cR0 his hzs n rfl rfl (by rw[hszs];omega) (by rw[hbys];omega) (by omega) ?_;refine m_m ?_;simp only[pv];refine Ze _ (n_l (some ⟨gb,ob,none⟩) n c Zm) ?_;simp only[pv];refine LY 31 22 _ _ rfl is' _ bH0 his hzs n rfl rfl (by rw[hszs];omega) (by rw[hbys];omega) (by omega) ?_;simp only[pv];refine Ts 2 (fun g=>.slice (some ⟨g,0,none⟩) n n) (.inl rfl) (by omega) rfl ?_;simp only[pv];refine Ts 5 (fun g=>.slice (some ⟨g,0,none⟩) n n) (.inl rfl) (by omega) rfl ?_;simp only[pv];refine Zf ?_;intro w5 hkw hrw hnew hdis;have n48:=hnew 2 rfl;have n51:=hnew 5 rfl;have zr48:Row w5 (p 2) (madeCells (Value.slice none 0 0).cells (n*is'.size)) 22:=hrw 5 (22,madeCells (Value.slice none 0 0).cells (n*is'.size)) rfl;have zr51:Row w5 (p 5) (madeCells (Value.slice none 0 0).cells (n*is'.size)) 22:=hrw 11 (22,madeCells (Value.slice none 0 0).cells (n*is'.size)) rfl;have d48x51:=hdis 2 5 (by omega) rfl rfl;have b48:=f_ sb.size n48;have b51:=f_ sb.size n51;replace sb:=kk sb hkw;clear hkw hrw hnew hdis n48 n51;generalize p 2=g48 at*;generalize p 5=g51 at*;have r48:=zr48;clear zr48;have r51:=zr51;clear zr51;have rP:=r48;have rM:=r51;have bP:=b48;have bM:=b51;clear r48 r51 b48 b51;generalize g48=gP at*;generalize g51=gM at*;rw[hszs,Sc n _ rfl]at rP rM;have hPM:gP≠gM:=by omega
  iterate 4 go_step
  refine rp ?_;refine p_m ?_;simp only[pv];refine p_v _ (n_l (some ⟨gb,ob,none⟩) n c Zm) ?_;refine p_v (.int .i64 0) (fun _=>rfl) (Zb ?_);simp only[pv]
  go_wp2_with fail
  go_loopg [13,54] n (fun x s13 s54 wr=> ∃(k:Nat) (V:Nat->Value) (B R:Nat->Nat),k+x=n/\s54= .int .i64 k/\Row wr gP (vsC n (fun j=>if j<k then V j else .slice none 0 0)) 22/\Row wr gM (vsC n (fun j=>if j<k then .slice (some ⟨R j,0,none⟩) (t+1) (t+1)else .slice none 0 0)) 22/\PolAt wr w.heap.size (t+1) V B (dlF t F1 F2) k/\FamAt wr w.heap.size (t+1) R (fun a b=>G^(pco (dlL Q t F1 F2 a) b).val%P) k/\(∀j,j<k->B j≠gP)/\(∀j,j<k->B j≠gM)/\(∀j,j<k->R j≠gP)/\(∀j,j<k->R j≠gM)/\Below w.heap.size w wr)
  case atStart=>exact⟨0,fun _=>.slice none 0 0,fun _=>0,fun _=>0,by omega,rfl,by rw[YN (T:=fun _=>.slice none 0 0) (fun j _=>i_ (by omega))];exact rP,by rw[YN (T:=fun _=>.slice none 0 0) (fun j _=>i_ (by omega))];exact rM,Aq _ _ _ _ _ _,Sd _ _ _ _ _,fun j hj=>absurd hj (by omega),fun j hj=>absurd hj (by omega),fun j hj=>absurd hj (by omega),fun j hj=>absurd hj (by omega),sb⟩
  case round=>
   clear rP rM sb;obtain⟨k,V,B,R,hk,rfl,rP,rM,hP,hM,hPxP,hPxM,hMxP,hMxM,sb⟩:=hrel
   cases gk with
   |succ x=>
    have hlt:k<n:=by omega
    have htk:t*k+t<=t*n:=by rw[<-Nat.mul_succ];exact R_ _ hlt
    have htk1:t*(k+1)=t*k+t:=Nat.mul_succ t k
    have hpP: ∀v,(vsC n (fun j=>if j<k then V j else .slice none 0 0)).setIfInBounds (0+k*1) v=(vsC n (fun j=>if j<k+1 then uxV V k v j else .slice none 0 0)):=fun v=>by
     rw[show 0+k*1=k by omega];refine VZ hlt ?_ (fun j hj hne=>?_)
     ·show(ite _ _ _:Value)=_
      rw[j_ (by omega),N9]
     ·show(ite _ _ _:Value)=ite _ _ _
      by_cases h2:j<k
      ·rw[j_ h2,j_ (by omega),Dp V v h2]
      ·rw[i_ h2,i_ (by omega)]
    have hpM: ∀gN,(vsC n (fun j=>if j<k then .slice (some ⟨R j,0,none⟩) (t+1) (t+1)else .slice none 0 0)).setIfInBounds (0+k*1) (.slice (some ⟨gN,0,none⟩) (t+1) (t+1))=(vsC n (fun j=>if j<k+1 then .slice (some ⟨upR R k gN j,0,none⟩) (t+1) (t+1)else .slice none 0 0)):=fun gN=>by
     rw[show 0+k*1=k by omega];refine VZ hlt ?_ (fun j hj hne=>?_)
     ·show(ite _ _ _:Value)=_
      rw[j_ (by omega),Xd]
     ·show(ite _ _ _:Value)=ite _ _ _
      by_cases h2:j<k
      ·rw[j_ h2,j_ (by omega),Y4 R h2]
      ·rw[i_ h2,i_ (by omega)]
    go_step
    refine rp ?_;refine p_v _ (X4 k n) (Zb ?_);simp only[pv];iterate 10 go_step
    refine rp ?_;refine p_m ?_;refine p_a (Zb ?_);simp only[pv];iterate 3 go_step
    refine YL (by kernel_rfl) [19] [(0,false),(1,false),(2,false),(3,false),(4,false),(5,false),(6,false),(7,false),(8,false),(9,false),(10,false),(11,false),(12,false),(13,false),(14,false),(15,false),(18,false),(16,true),(17,true),(19,true)] ?_ (by kernel_rfl);have cb:=Y8 sb;refine e_m ?_;refine e_m ?_;refine e_m ?_;refine e_m ?_;refine e_m ?_;simp only[pv];refine e_v (.int .i64 ((k+1:Nat):Int)) (x_a k 1) ?_;simp only[pv];refine e_v (.slice (some ⟨gb,ob+k*4,none⟩) 1 (c-k)) (fun w'=>(JO _ _ _ _ rfl Zm 4 Vy gb ob n c k (k+1) rfl rfl rfl (by omega) (by omega) (by omega) w').trans (by rw[aN0])) ?_;refine e_m ?_;refine e_m ?_;refine e_m ?_;simp only[pv];refine e_v (.int .i64 ((t*k:Nat):Int)) (Z7 _ _ _ _ rfl t k (t*k) rfl rfl rfl (by omega)) ?_;refine e_m ?_;refine e_m ?_;simp only[pv];refine e_v (.int .i64 ((k+1:Nat):Int)) (x_a k 1) ?_;simp only[pv];refine e_v (.int .i64 ((t*k+t:Nat):Int)) (Z7 _ _ _ _ rfl t (k+1) (t*k+t) rfl rfl htk1 (by omega)) ?_;simp only[pv];refine e_v (.slice (some ⟨gq,oq+t*k*4,none⟩) t (d-t*k)) (fun w'=>(JO _ _ _ _ rfl Zm 4 Vy gq oq (t*n) d (t*k) (t*k+t) rfl rfl rfl (by omega) (by omega) (by omega) w').trans (by rw[aN0])) ?_;simp only[pv];refine e_v (.pointer (some ⟨gP,0+k*1,none⟩)) ((Zw 30 _ _ rfl (gP) (0) (n) (n) rfl (k) rfl (hlt) _ cR0 1 aO0)) ?_;simp only[pv];refine Wq (by rfl) 30 22 2 _ rfl (#[.slice (some ⟨gb,ob+k*4,none⟩) 1 (c-k),.slice (some ⟨gq,oq+t*k*4,none⟩) t (d-t*k)]) is' _ cR0 his hzs h21 h22 [(0,.slice (some ⟨gb,ob+k*4,none⟩) 1 (c-k)),(1,.slice (some ⟨gq,oq+t*k*4,none⟩) t (d-t*k))] rfl (hl2 _ _ _ _ _ _) ?_;intro wa16 hqb gL wb16 n0 rL hb;refine⟨fun _=>Zk (Zk cb (c_ _) hqb) (c_ _) hb,?_⟩;simp only[pv];replace rP:=rP.belowAll hqb;replace rM:=rM.belowAll hqb;replace hP:=hP.below hqb;replace hM:=hM.below hqb;replace sb:=b_o sb hqb;replace cb:=b_o cb hqb;have dPxL:=l_l rP.lt n0;replace rP:=rP.belowAll hb;replace rM:=rM.belowAll hb;replace hP:=hP.below hb;replace hM:=hM.below hb;replace sb:=b_o sb hb;replace cb:=b_o cb hb;clear hqb hb n0;refine XM (by rfl) 35 _ _ rfl func35 (by kernel_rfl) #[.slice (some ⟨gL,0,none⟩) 2 2] rfl ?_;intro wa17 hqb;replace rP:=rP.belowAll hqb;replace rM:=rM.belowAll hqb;replace hP:=hP.below hqb;replace hM:=hM.below hqb;replace rL:=rL.belowAll hqb;replace sb:=b_o sb hqb;replace cb:=b_o cb hqb;clear hqb;refine(As hlt h1 h2 rL (HN1.out.below sb) (HN2.out.below sb) hP rP rM hPxP hPxM sb.size).mono ?_;rintro _ wb17 ⟨avN,cvN,bN,rfl,hQ,hQxP,hQxM,hb⟩;refine⟨_,rfl,fun _=>Zk cb (c_ _) hb,?_⟩;simp only[pv];replace rP:=rP.belowAll hb;replace rM:=rM.belowAll hb;replace hP:=hP.below hb;replace hM:=hM.below hb;replace rL:=rL.belowAll hb;replace sb:=b_o sb hb;replace cb:=b_o cb hb;clear hb;refine T3 (by rfl) 22 _ _ rfl _ (0+k*1) rfl rP (.slice avN (t+1) cvN) rfl rfl rfl Yy (by rw[Xb];omega) ((vsC n (fun j=>if j<k+1 then uxV V k (.slice avN (t+1) cvN) j else .slice none 0 0))) (hpP (.slice avN (t+1) cvN)) ?_;intro wa19 hqb;replace rP:=rP.belowAll hqb;replace rM:=rM.belowAll hqb;replace hP:=hP.below hqb;replace hM:=hM.below hqb;replace rL:=rL.belowAll hqb;replace hQ:=hQ.below hqb;replace sb:=b_o sb hqb;clear hqb rP;intro wb19 rP k;refine⟨fun h=>(by cases h),?_⟩;simp only[Act.put];replace rM:=k.ro rM;replace hP:=hP.on k (fun j hj=>by simpa using hPxP j hj);replace hM:=hM.on k (fun j hj=>by simpa using hMxP j hj);replace rL:=k.ro rL;replace hQ:=hQ.on k (fun j hj=>by simpa using hQxP j hj);replace sb:=sb.trans (k.below _ sb.size (by simp<;>omega));clear k;refine Vk ?_;intro wz hqb;replace rP:=rP.belowAll hqb;replace rM:=rM.belowAll hqb;replace hP:=hP.below hqb;replace hM:=hM.below hqb;replace rL:=rL.belowAll hqb;replace hQ:=hQ.below hqb;replace sb:=b_o sb hqb;clear hqb cb;clear hP hPxP hPxM rL hpP
    have hV:(vsC n (fun j=>if j<k+1 then uxV V k (.slice avN (t+1) cvN) j else .slice none 0 0))[0+k*1]?=some (.slice avN (t+1) cvN):=by
     rw[show 0+k*1=k by omega,XA _ hlt,j_ (by omega),N9]
    iterate 2 go_step
    refine rp ?_;refine p_m ?_;refine p_m ?_;refine p_m ?_;refine p_m ?_;refine p_m ?_;simp only[pv];refine p_x k hlt cR0 aO0 ?_;simp only[pv];refine p_d (0+k*1) rP.r (.slice avN (t+1) cvN) hV aD0 ?_;refine p_m ?_;simp only[pv];refine p_v _ (x_a t 1) ?_;simp only[pv];refine p_f 36 func36 #[.pointer (some ⟨g,0,none⟩),.slice avN (t+1) cvN,.int .i64 ((t+1:Nat):Int)] (HT.out _ (.slice avN (t+1) cvN) k sb (by have:=hQ.pl (Q:=Q) (j:=k) (by omega) (by omega);rw[N9]at this;exact this)) ?_;rintro _ z10009 ⟨gC,rfl,nC,rC,hb⟩;refine⟨_,rfl,?_⟩;simp only[pv];have dPxC:=l_l rP.lt nC;have dMxC:=l_l rM.lt nC;have hQxC:=fun j hj=>bV0 (l_ (hQ.lt (j:=j) hj) nC)
    have hMxC:=fun j hj=>bV0 (l_ (hM.lt (j:=j) hj) nC)
    have bC:=f_ sb.size nC;clear nC;have k:=Kept.ofBelow hb;clear hb;replace rP:=k.ro rP;replace rM:=k.ro rM;replace hQ:=hQ.below k.nil;replace hM:=hM.below k.nil;replace sb:=kk sb k;clear k;refine p_m ?_;refine p_e ?_;refine p_e ?_;simp only[pv];refine p_x k hlt bH0 aO0 ?_;simp only[pv];refine Xx (by rfl) 22 _ _ rfl _ (0+k*1) rfl rM (.slice (some ⟨gC,0,none⟩) (t+1) (t+1)) rfl rfl rfl Yy (by rw[Xb];omega) ((vsC n (fun j=>if j<k+1 then .slice (some ⟨upR R k gC j,0,none⟩) (t+1) (t+1)else .slice none 0 0))) (hpM gC) ?_;clear rM;intro z10014 rM k;simp only[Act.put];replace rP:=k.ro rP;replace hQ:=hQ.on k (fun j hj=>by simpa using hQxM j hj);replace hM:=hM.on k (fun j hj=>by simpa using hMxM j hj);replace rC:=k.ro rC;replace sb:=kk sb k;clear k;refine Zb ?_;have hM2:=hM.add hMxC bC rC
    have hxP: ∀j,j<k+1->upR R k gC j≠gP:=fun j hj=>by
     by_cases e:j=k
     ·subst e;rw[Xd];omega
     ·rw[Y4 R (show j<k by omega)];exact hMxP j (by omega)
    have hxM: ∀j,j<k+1->upR R k gC j≠gM:=fun j hj=>by
     by_cases e:j=k
     ·subst e;rw[Xd];omega
     ·rw[Y4 R (show j<k by omega)];exact hMxM j (by omega)
    clear hM hMxP hMxM hMxC rC hpM hV hQxC;generalize upR R k gC=R2 at*;generalize uxV V k (.slice avN (t+1) cvN)=V2 at*;generalize upR B k bN=B2 at*;iterate 2 go_step
    refine rp ?_;refine p_v _ (x_a k 1) ?_;refine p_m (Zb ?_);simp only[pv];go_wp2
    go_roundg x
    case measure=>omega
    case rel=>exact⟨k+1,V2,B2,R2,by omega,rfl,rP,rM,hQ,hM2,hQxP,hQxM,hxP,hxM,sb⟩
   |zero=>
    have hkn:n=k:=by omega
    clear hk;subst hkn;rw[YN (T:=V) (fun j hj=>j_ hj)]at rP;rw[YN (T:=fun j=>.slice (some ⟨R j,0,none⟩) (t+1) (t+1)) (fun j hj=>j_ hj)]at rM;clear hPxP hPxM hMxP hMxM HT;have h3:3*t+1<=7:=by omega
    go_step
    refine rp ?_;refine p_v _ (Xe n n) (Zb ?_);simp only[pv];iterate 8 go_step
    refine rp ?_;refine p_m ?_;simp only[pv];refine p_v _ (Z7 _ _ _ _ rfl 3 t (3*t) rfl rfl rfl (by omega)) ?_;simp only[pv];refine p_v _ (x_a (3*t) 1) ?_;simp only[pv];refine XT (by rfl) 32 64 _ _ rfl ip _ aZ0 hip hzp (3*t+1) rfl rfl (by rw[hszp];omega) (by rw[hbyp];omega) (by omega) ?_;intro gT z12003 n0 rT k;simp only[pv];have dPxT:=l_l rP.lt n0;have dMxT:=l_l rM.lt n0;have hPxT:=fun j hj=>bV0 (l_ (hP.lt (j:=j) hj) n0)
    have hMxT:=fun j hj=>bV0 (l_ (hM.lt (j:=j) hj) n0)
    have bT:=f_ sb.size n0;clear n0;replace rP:=k.ro rP;replace rM:=k.ro rM;replace hP:=hP.below k.nil;replace hM:=hM.below k.nil;replace sb:=kk sb k;clear k;refine p_a (Zb ?_);simp only[pv];rw[hszp,NI (k:=2) _ rfl]at rT;generalize h3t:3*t+1=N3 at*;iterate 4 go_step
    refine rp ?_;refine p_m ?_;simp only[pv];refine p_v _ (n_l (some ⟨gT,0,none⟩) N3 N3 XR) ?_;refine p_v (.int .i64 0) (fun _=>rfl) (Zb ?_);simp only[pv];have hPT:gP≠gT:=by omega
    have hMT:gM≠gT:=by omega
    go_wp2_with fail
    go_loopg [15,97] N3 (fun x s15 s97 wr=> ∃(i:Nat) (Y:Nat->Nat),i+x=N3/\s97= .int .i64 i/\Row wr gP (vsC n V) 22/\Row wr gM (vsC n (fun j=>.slice (some ⟨R j,0,none⟩) (t+1) (t+1))) 22/\Row wr gT (esC 2 N3 (fun j=>if j<i then ptC ((j+1:Nat):Int) (.slice (some ⟨Y j,0,none⟩) n n)else ptC 0 (.slice none 0 0))) 64/\PolAt wr w.heap.size (t+1) V B (dlF t F1 F2) n/\FamAt wr w.heap.size (t+1) R (fun a b=>G^(pco (dlL Q t F1 F2 a) b).val%P) n/\FamAt wr w.heap.size n Y (fun a b=>(pev (fi (a+1)) (dlL Q t F1 F2 b)).val) i/\(∀j,j<i->Y j≠gT)/\Below w.heap.size w wr)
    case atStart=>exact⟨0,fun _=>0,by omega,rfl,rP,rM,by rw[Vl (D:=fun _=>ptC 0 (.slice none 0 0)) (fun j _=>i_ (by omega))];exact rT,hP,hM,Sd _ _ _ _ _,fun j hj=>absurd hj (by omega),sb⟩
    case round=>
     clear rP rM rT hP hM sb;obtain⟨i,Y,hi,rfl,rP,rM,rT,hP,hM,hY,hYxT,sb⟩:=hrel
     cases gk with
     |zero=>
      have hin:N3=i:=by omega
      clear hi;subst hin;rw[Vl (D:=(fun j=>ptC ((j+1:Nat):Int) (.slice (some ⟨Y j,0,none⟩) n n))) (fun j hj=>j_ hj)]at rT
      go_step
      refine rp ?_;refine p_v _ (Xe N3 N3) (Zb ?_);simp only[pv];iterate 8 go_step
      refine rp ?_;refine p_m ?_;refine p_m ?_;refine p_a ?_;refine p_a ?_;refine p_v (.int .i64 0) (fun _=>rfl) (Zb ?_);simp only[pv];go_wp2
      go_ret3
      rw[h3t];exact⟨gM,R,gT,Y,rfl,bM,bT,rM,hM,rT,hY,sb⟩
     |succ x=>
      have hlt:i<N3:=by omega
      have hpT: ∀gN,SG (esC 2 N3 (fun j=>if j<i then ptC ((j+1:Nat):Int) (.slice (some ⟨Y j,0,none⟩) n n)else ptC 0 (.slice none 0 0))) (0+i*2) (ptC ((i+1:Nat):Int) (.slice (some ⟨gN,0,none⟩) n n)).toList=esC 2 N3 (fun j=>if j<i+1 then ptC ((j+1:Nat):Int) (.slice (some ⟨upR Y i gN j,0,none⟩) n n)else ptC 0 (.slice none 0 0)):=fun gN=>by
       have:=Bu (k:=2) (n:=N3) (C:=(fun j=>if j<i then ptC ((j+1:Nat):Int) (.slice (some ⟨Y j,0,none⟩) n n)else ptC 0 (.slice none 0 0))) (D:=(fun j=>if j<i+1 then ptC ((j+1:Nat):Int) (.slice (some ⟨upR Y i gN j,0,none⟩) n n)else ptC 0 (.slice none 0 0))) (fun j=>by split<;>rfl) (fun j=>by split<;>rfl) i hlt (0+i*2) (by omega) (fun j hj hne=>by
        by_cases h2:j<i
        ·rw[j_ h2,j_ (by omega),Y4 Y h2]
        ·rw[i_ h2,i_ (by omega)])
       rw[j_ (by omega),Xd]at this;exact this
      go_step
      refine rp ?_;refine p_v _ (X4 i N3) (Zb ?_);simp only[pv];iterate 10 go_step
      refine rp ?_;refine p_m ?_;refine p_a (Zb ?_);simp only[pv];iterate 2 go_step
      refine rp ?_;refine p_m ?_;refine p_m ?_;refine p_m ?_;refine p_m ?_;refine p_m ?_;simp only[pv];refine p_v _ (x_a i 1) ?_;simp only[pv];refine p_f 24 func24 #[.pointer (some ⟨g,0,none⟩),.slice (some ⟨gP,0,none⟩) n n,.int .i64 ((i+1:Nat):Int)] (HS.out _ gP V B i sb rP hP (by omega)) ?_;rintro _ z16006 ⟨gY,rfl,nY,rY,hb⟩;refine⟨_,rfl,?_⟩;simp only[pv];have dTxY:=l_l rT.lt nY;have hYxY:=fun j hj=>bV0 (l_ (hY.lt (j:=j) hj) nY)
      have bY:=f_ sb.size nY;clear nY;have k:=Kept.ofBelow hb;clear hb;replace rP:=k.ro rP;replace rM:=k.ro rM;replace rT:=k.ro rT;replace hP:=hP.below k.nil;replace hM:=hM.below k.nil;replace hY:=hY.below k.nil;replace sb:=kk sb k;clear k;refine p_x i hlt aZ0 eD0 ?_;simp only[pv];refine VQ (by rfl) 64 _ _ rfl _ (0+i*2) rfl rT (ptC ((i+1:Nat):Int) (.slice (some ⟨gY,0,none⟩) n n)) rfl (by exact XB) (by rw[YM];show 0+i*2+2<=_;omega) (NV _ _ _ _) (esC 2 N3 (fun j=>if j<i+1 then ptC ((j+1:Nat):Int) (.slice (some ⟨upR Y i gY j,0,none⟩) n n)else ptC 0 (.slice none 0 0))) (hpT gY) ?_;clear rT;intro z16008 rT k;simp only[Act.put];replace rP:=k.ro rP;replace rM:=k.ro rM;replace hP:=hP.on k (fun j hj=>by simpa using hPxT j hj);replace hM:=hM.on k (fun j hj=>by simpa using hMxT j hj);replace hY:=hY.on k (fun j hj=>by simpa using hYxT j hj);replace rY:=k.ro rY;replace sb:=kk sb k;clear k;refine Zb ?_;have hY2:=hY.add hYxY bY rY
      have hxT: ∀j,j<i+1->upR Y i gY j≠gT:=fun j hj=>by
       by_cases e:j=i
       ·subst e;rw[Xd];omega
       ·rw[Y4 Y (show j<i by omega)];exact hYxT j (by omega)
      clear hY hYxT hYxY rY hpT;generalize upR Y i gY=Y2 at*;iterate 2 go_step
      refine rp ?_;refine p_v _ (x_a i 1) ?_;refine p_m (Zb ?_);simp only[pv];go_wp2
      go_roundg x
      case measure=>omega
      case rel=>exact⟨i+1,Y2,by omega,rfl,rP,rM,rT,hP,hM,hY2,hxT,sb⟩
 ·kernel_rfl
end
def hsL (I:Nat->Int)(HB:Nat->Bool)(e:Nat):Nat->List Nat
 |0=>[]
 |k+1=>if(!decide ((hsL I HB e k).length=e)&&(!anB (fun j=>decide (I ((hsL I HB e k).getD j 0)=I k)) (hsL I HB e k).length&&HB k))=true then hsL I HB e k++[k]else hsL I HB e k
section
variable {I:Nat->Int}{HB:Nat->Bool}{e:Nat}
theorem yF {k q:Nat}(h:k<=q): ∃r,hsL I HB e q=hsL I HB e k++r:=by
 induction q with
 |zero=>rw[iN0.1 h];exact⟨[],(dP0 _).symm⟩
 |succ q ih=>
  by_cases hk:k=q+1
  ·rw[hk];exact⟨[],(dP0 _).symm⟩
  ·obtain⟨r,hr⟩:=ih (by omega);rw[hsL]
   split
   ·exact⟨r++[q],by rw[hr,dL0]⟩
   ·exact⟨r,hr⟩
theorem yG {k q j:Nat}(h:k<=q)(hj:j<(hsL I HB e k).length):(hsL I HB e q).getD j 0=(hsL I HB e k).getD j 0:=by
 obtain⟨r,hr⟩:=yF (I:=I) (HB:=HB) (e:=e) h;rw[hr,u_,u_,eB0 hj]
theorem yH {k q:Nat}(h:k<q)(hc:(!decide ((hsL I HB e k).length=e)&&(!anB (fun j=>decide (I ((hsL I HB e k).getD j 0)=I k)) (hsL I HB e k).length&&HB k))=true):hsL I HB e (k+1)=hsL I HB e k++[k]/\(hsL I HB e q).getD (hsL I HB e k).length 0=k:=by
 have e1:hsL I HB e (k+1)=hsL I HB e k++[k]:=by rw[hsL,j_ hc]
 refine⟨e1,?_⟩;rw[yG (k:=k+1) h (by rw[e1,bC0];exact Nat.lt_succ_self _),e1,u_,fL0 (c_ _),fR0];rfl
theorem At {k q:Nat}(h:k<=q)(hk:(hsL I HB e k).length=e):hsL I HB e q=hsL I HB e k:=by
 induction q with
 |zero=>rw[iN0.1 h]
 |succ q ih=>
  by_cases hq:k=q+1
  ·rw[hq]
  ·have:=ih (by omega);rw[hsL,this,hk,d_ rfl,i_ (by simp)]
theorem yI (k:Nat):(hsL I HB e k).length<=e:=by
 induction k with
 |zero=>exact eU0 _
 |succ k ih=>
  rw[hsL]
  split
  ·rename_i h
   simp only[s_,dI0,decide_eq_false_iff_not]at h;rw[bC0];show _+1<=_
   omega
  ·exact ih
end
theorem Au (i:Int)(ab:Option Addr)(n c k:Nat)(hk:k=2):Instr.fill (fun i=>some (i*k,k)) ((Array.range (1*k)).map ((Value.agg (ptC 0 (.slice none 0 0))).cells[· %(Value.agg (ptC 0 (.slice none 0 0))).cells.size]!)) [(0,.agg (ptC i (.slice ab n c)))]=some (ptC i (.slice ab n c)):=by
 subst hk
 kernel_rfl
theorem El {fn:Func}(ab:Option Addr)(n c:Nat)(I:Nat->Int)(ay:Nat->Option Addr)(ny cy:Nat->Nat)(gb ob:Nat)(bcs:Array Value)(tb:TypeId)(f:FuncId)(caps:Array Value)(B:Nat->Bool)(w:World)(hf:prog.funcs[f]?=some fn)(hb0:(fn.name== "runtime.NumGoroutine" ||fn.body.isNone)=false)(hn:n<4611686018427387904)(hna:ElsAt 2 w ab n (fun k=>ptC (I k) (.slice (ay k) (ny k) (cy k))) gb ob bcs tb)
  (hc: ∀k:Nat,k<n-> ∀w',Below w.heap.size w w'->Calls prog f (#[.agg (ptC (I k) (.slice (ay k) (ny k) (cy k)))]++caps) w' (Rt (.bool (B k)) w')):
  Calls prog 136 #[.slice ab n c,.func (.func f) #[] caps] w fun e w'=> ∃z:Int,e= .returned (.int .i64 z)/\decide (0<=z)=anB B n/\Below w.heap.size w w':=by
 have HB:Hid (ElsAt 2 w ab n (fun k=>ptC (I k) (.slice (ay k) (ny k) (cy k))) gb ob bcs tb):=hna;clear hna
 go_enter func136,ntmps136
 have sb:=YG w;iterate 2 go_step
 refine rp ?_;refine p_v (.int .i64 0) (fun _=>rfl) (Zb ?_);simp only[pv];iterate 4 go_step
 refine rp ?_;refine p_m ?_;simp only[pv];refine p_v _ (n_l ab n c XR) ?_;refine p_v (.int .i64 0) (fun _=>rfl) (Zb ?_);simp only[pv]
 go_wp2_with fail
 go_loopg [5,8] n (fun x s5 s8 wr=> ∃k:Nat,k+x=n/\s8= .int .i64 k/\anB B k=false/\Below w.heap.size w wr)
 case atStart=>exact⟨0,by omega,rfl,rfl,sb⟩
 case round=>
  clear sb;obtain⟨k,hk,rfl,han,sb⟩:=hrel
  cases gk with
  |zero=>
   obtain rfl:k=n:=by omega
   have HF:Hid (anB B k=false):=han;clear hk hc han
   go_step
   refine rp ?_;refine p_v _ (Xe k k) (Zb ?_);simp only[pv];iterate 8 go_step
   refine rp ?_;refine p_v (.int .i64 (-1)) ((fun _=>rfl)) (Zb ?_);simp only[pv];go_wp2;go_ret;exact⟨_,rfl,by rw[HF.out];rfl,sb⟩
  |succ x=>
   have hlt:k<n:=by omega
   have hck:=hc k hlt;clear hc;obtain h0|⟨rfl,rB,hbt⟩:=(HB.out.below sb).at'
   ·exact absurd h0 (by omega)
   have hbt':=hbt k hlt;clear hbt
   go_step
   refine rp ?_;refine p_v _ (X4 k n) (Zb ?_);simp only[pv];iterate 10 go_step
   refine rp ?_;refine p_m ?_;refine p_a (Zb ?_);simp only[pv]
   cases hBk:B k with
   |true=>
    have HF:Hid (anB B n=true):=(Vm B n).2 ⟨k,hlt,hBk⟩;rw[hBk]at hck;iterate 3 go_step
    refine rp ?_;refine p_m ?_;refine p_m ?_;refine p_m ?_;simp only[pv];refine p_x k hlt aZ0 eD0 ?_;simp only[pv];refine ZJ (by rfl) 64 _ rfl _ (ob+k*2) rfl rB (ptC (I k) (.slice (ay k) (ny k) (cy k))) hbt' _ aG0 rfl XB ?_;simp only[pv];refine Xa (by rfl) (f) _ _ _ rfl (caps) rfl (hf) (hb0) #[.agg (ptC (I k) (.slice (ay k) (ny k) (cy k)))] rfl _ (hck _ sb) ?_;intro z4005 k;simp only[pv];replace sb:=kk sb k;clear k;refine Zb ?_;clear rB;iterate 4 go_step
    refine rp ?_;refine p_m ?_;refine p_a (Zb ?_);simp only[pv];go_wp2;go_ret;exact⟨_,rfl,by rw[HF.out];exact d_ (by omega),sb⟩
   |false=>
    have hnx:anB B (k+1)=false:=by
     show(anB B k||B k)=false
     rw[han,hBk];rfl
    rw[hBk]at hck;iterate 3 go_step
    refine rp ?_;refine p_m ?_;refine p_m ?_;refine p_m ?_;simp only[pv];refine p_x k hlt aZ0 eD0 ?_;simp only[pv];refine ZJ (by rfl) 64 _ rfl _ (ob+k*2) rfl rB (ptC (I k) (.slice (ay k) (ny k) (cy k))) hbt' _ aG0 rfl XB ?_;simp only[pv];refine Xa (by rfl) (f) _ _ _ rfl (caps) rfl (hf) (hb0) #[.agg (ptC (I k) (.slice (ay k) (ny k) (cy k)))] rfl _ (hck _ sb) ?_;intro z4005 k;simp only[pv];replace sb:=kk sb k;clear k;refine Zb ?_;clear rB;iterate 6 go_step
    refine rp ?_;refine p_v _ (x_a k 1) ?_;refine p_m (Zb ?_);simp only[pv];go_wp2
    go_roundg x
    case measure=>omega
    case rel=>exact⟨k+1,by omega,rfl,hnx,sb⟩
theorem Em {fn:Func}(ab:Option Addr)(n c:Nat)(I:Nat->Int)(ay:Nat->Option Addr)(ny cy:Nat->Nat)(gb ob:Nat)(bcs:Array Value)(tb:TypeId)(f:FuncId)(caps:Array Value)(B:Nat->Bool)(w:World)(hf:prog.funcs[f]?=some fn)(hb0:(fn.name== "runtime.NumGoroutine" ||fn.body.isNone)=false)(hn:n<4611686018427387904)(hna:ElsAt 2 w ab n (fun k=>ptC (I k) (.slice (ay k) (ny k) (cy k))) gb ob bcs tb)
  (hc: ∀k:Nat,k<n-> ∀w',Below w.heap.size w w'->Calls prog f (#[.agg (ptC (I k) (.slice (ay k) (ny k) (cy k)))]++caps) w' (Rt (.bool (B k)) w')):
  Calls prog 92 #[.slice ab n c,.func (.func f) #[] caps] w fun e w'=>e= .returned (.bool (anB B n))/\Below w.heap.size w w':=by
 have hix:=fun w' (hb:Below w.heap.size w w')=>El ab n c I ay ny cy gb ob bcs tb f caps B w' hf hb0 hn (hna.below hb) (fun k hk w2 h2=>hc k hk w2 (Zk hb (c_ _) h2))
 clear hna hc
 go_enter func92,ntmps92
 have sb:=YG w;iterate 2 go_step
 refine rp ?_;refine p_v (.bool false) (fun _=>rfl) (Zb ?_);simp only[pv];iterate 3 go_step
 refine rp ?_;refine p_m ?_;refine p_m ?_;simp only[pv];refine p_f 136 func136 #[.slice ab n c,.func (.func f) #[] caps] (hix _ sb) ?_;rintro _ z1002 ⟨z,rfl,hz,hb⟩;refine⟨_,rfl,?_⟩;simp only[pv];have k:=Kept.ofBelow hb;clear hb;replace sb:=kk sb k;clear k;refine p_v _ (ZY _ _ _ _ rfl z 0 rfl rfl (anB B n) hz) ?_;refine p_a (Zb ?_);simp only[pv];go_wp2;go_ret;exact⟨rfl,sb⟩
theorem En (i j:Int)(a1 a2:Option Addr)(n1 c1 n2 c2 g1:Nat)(w:World)(r1:Row w g1 (ptC j (.slice a2 n2 c2)) 64):
  Calls prog 93 #[.agg (ptC i (.slice a1 n1 c1)),.pointer (some ⟨g1,0,none⟩)] w fun e w'=>e= .returned (.bool (decide (i=j)))/\Below w.heap.size w w':=by
 obtain⟨B,hB⟩: ∃B,decide (i=j)=B:=⟨_,rfl⟩
 rw[hB]
 go_enter func93,ntmps93
 have sb:=YG w;iterate 2 go_step
 refine rp ?_;refine ZO (by rfl) 64 _ rfl (ptC i (.slice a1 n1 c1)) rfl ?_;intro g2 z0 n0 r2 k;simp only[pv];clear n0;replace r1:=k.ro r1;replace sb:=kk sb k;clear k;refine p_v (.bool false) (fun _=>rfl) (Zb ?_);simp only[pv];iterate 3 go_step
 refine rp ?_;refine p_v _ (Zh 64 _ 0 rfl g2 (0) rfl _ aG0 _ rfl 0 aJ0) ?_;simp only[pv];refine p_d 0 r2.r (.int .i64 i) rfl bG0 ?_;simp only[pv];refine p_v _ (Zh 64 _ 0 rfl g1 (0) rfl _ aG0 _ rfl 0 aJ0) ?_;simp only[pv];refine p_d 0 r1.r (.int .i64 j) rfl bG0 ?_;simp only[pv];refine p_v _ (ZK .i64 _ _ _ _ rfl i j rfl rfl B hB) ?_;refine p_a (Zb ?_);simp only[pv];go_wp2;go_ret;exact⟨rfl,sb⟩
theorem Eo (v ab al:Option Addr)(n c q cl e:Nat)(I:Nat->Int)(ay:Nat->Option Addr)(ny cy:Nat->Nat)(HB:Nat->Bool)(gl ol:Nat)(lcs:Array Value)(tl:TypeId)(w:World)(hq:q<=1000)(he:e<=1000)(hna:ElsAt 2 w al q (fun k=>ptC (I k) (.slice (ay k) (ny k) (cy k))) gl ol lcs tl)
  (hho: ∀k,k<q-> ∀w',Below w.heap.size w w'->Calls prog 23 #[.pointer v,.slice ab n c,.agg (ptC (I k) (.slice (ay k) (ny k) (cy k)))] w' (Rt (.bool (HB k)) w')):
  Calls prog 42 #[.pointer v,.slice ab n c,.slice al q cl,.int .i64 (e:Nat)] w fun ee w'=> ∃ar cr,ee= .returned (.slice ar (hsL I HB e q).length cr)/\Te 2 64 w' w.heap.size (.slice ar (hsL I HB e q).length cr) (hsL I HB e q).length (fun j=>ptC (I ((hsL I HB e q).getD j 0)) (.slice (ay ((hsL I HB e q).getD j 0)) (ny ((hsL I HB e q).getD j 0)) (cy ((hsL I HB e q).getD j 0))))/\Below w.heap.size w w':=by
 obtain⟨ip,hip,hzp,hszp,hbyp⟩:=Tl
 have hs1: ¬1*ip.size>2^24:=by rw[hszp];decide
 have hs2: ¬1*ip.size=0:=by rw[hszp];decide
 have hlit:=fun i ab n c=>Au i ab n c ip.size hszp
 have HL:Hid (ElsAt 2 w al q (fun k=>ptC (I k) (.slice (ay k) (ny k) (cy k))) gl ol lcs tl):=hna;obtain⟨C,hC⟩: ∃C:Nat->Array Value,C=(fun j=>ptC (I ((hsL I HB e q).getD j 0)) (.slice (ay ((hsL I HB e q).getD j 0)) (ny ((hsL I HB e q).getD j 0)) (cy ((hsL I HB e q).getD j 0)))):=⟨_,rfl⟩
 have HC2:Hid (∀j,(C j).size=2):=fun j=>by rw[hC];rfl
 have HCo:Hid (∀j,(C j).all (·.oneCell')=true):=fun j=>by rw[hC];exact NV _ _ _ _
 have HCn:Hid (∀k,k<q->(!decide ((hsL I HB e k).length=e)&&(!anB (fun j=>decide (I ((hsL I HB e k).getD j 0)=I k)) (hsL I HB e k).length&&HB k))=true->hsL I HB e (k+1)=hsL I HB e k++[k]/\C (hsL I HB e k).length=ptC (I k) (.slice (ay k) (ny k) (cy k))):=fun k hk hc=>by
  obtain⟨e1,e2⟩:=yH (q:=q) hk hc;exact⟨e1,by rw[hC];dsimp only;rw[e2]⟩
 have HCs:Hid (∀k,k<q->(!decide ((hsL I HB e k).length=e)&&(!anB (fun j=>decide (I ((hsL I HB e k).getD j 0)=I k)) (hsL I HB e k).length&&HB k))=false->hsL I HB e (k+1)=hsL I HB e k):=fun k hk hc=>by rw[hsL,i_ (by rw[hc];decide)]
 have HCf:Hid (∀k,k<=q->(hsL I HB e k).length=e->hsL I HB e q=hsL I HB e k):=fun k hk h=>At hk h
 have HCk:Hid (∀k,k<=q-> ∀j,j<(hsL I HB e k).length->C j=ptC (I ((hsL I HB e k).getD j 0)) (.slice (ay ((hsL I HB e k).getD j 0)) (ny ((hsL I HB e k).getD j 0)) (cy ((hsL I HB e k).getD j 0)))):=fun k hk j hj=>by
  rw[hC]
  dsimp only
  rw[yG hk hj]
 have HLe:Hid (∀k,(hsL I HB e k).length<=e):=fun k=>yI k
 rw[<-hC];clear hna hC
 go_enter func42,ntmps42
 have sb:=YG w;iterate 2 go_step
 refine rp ?_;refine p_v (.slice none 0 0) ((fun _=>rfl)) (Zb ?_);simp only[pv];iterate 3 go_step
 refine rp ?_;refine p_v (.slice none 0 0) ((fun _=>rfl)) (Zb ?_);simp only[pv];iterate 4 go_step
 refine rp ?_;refine p_m ?_;simp only[pv];refine p_v _ (n_l al q cl XR) ?_;refine p_v (.int .i64 0) (fun _=>rfl) (Zb ?_);simp only[pv];have hO:=RY (k:=2) 64 w w.heap.size C
 go_wp2_with fail
 go_loopg [9,11,15] q (fun x s9 s11 s15 wr=> ∃k:Nat,k+x=q/\s15= .int .i64 k/\Te 2 64 wr w.heap.size s9 (hsL I HB e k).length C/\Below w.heap.size w wr)
 case atStart=>exact⟨0,by omega,rfl,RY _ _ _ _,sb⟩
 case round=>
  clear sb hO;obtain⟨k,hk,rfl,hO,sb⟩:=hrel;obtain⟨ar,cr,gR,cur,rfl,hcr,hels⟩:=RZ HC2.out hO;have hNe:=HLe.out k
  cases gk with
  |zero=>
   obtain rfl:k=q:=by omega
   clear hk hels
   go_step
   refine rp ?_;refine p_v _ (Xe k k) (Zb ?_);simp only[pv];iterate 8 go_step
   refine rp ?_;refine p_m ?_;refine p_a (Zb ?_);simp only[pv];go_wp2;go_ret;exact⟨ar,cr,rfl,hO,sb⟩
  |succ x=>
   have hlt:k<q:=by omega
   obtain h0|⟨rfl,rL,hbt⟩:=(HL.out.below sb).at'
   ·exact absurd h0 (by omega)
   have hbk:=hbt k hlt;have hck:=HCk.out k (by omega);have hcn:=HCn.out k hlt;have hcs:=HCs.out k hlt;have hcf:=HCf.out k (by omega);have hhk:=hho k hlt;clear hbt hho;obtain⟨N,hN⟩: ∃N,(hsL I HB e k).length=N:=⟨_,rfl⟩
   rw[hN]at hO hels hck hcn hcs hcf hNe ⊢
   go_step
   refine rp ?_;refine p_v _ (X4 k q) (Zb ?_);simp only[pv];iterate 10 go_step
   refine rp ?_;refine p_x k hlt aZ0 eD0 ?_;simp only[pv];refine ZJ (by rfl) 64 _ rfl _ (ol+k*2) rfl rL (ptC (I k) (.slice (ay k) (ny k) (cy k))) hbk _ aG0 rfl XB ?_;simp only[pv];refine ZT (by rfl) 64 rfl _ Ip ?_;intro g11 z4002 n0 r11 k;simp only[pv];have ehOx11:=hO.new n0;have b11:=f_ sb.size n0;clear n0;replace hO:=hO.on k (Xp _);replace sb:=kk sb k;clear k;refine Xg (by rfl) 64 _ _ rfl _ rfl r11 (ptC (I k) (.slice (ay k) (ny k) (cy k))) rfl (by exact XB) (by rfl) (NV _ _ _ _) ?_;clear r11;intro z4003 r11 k;simp only[Act.put];replace hO:=hO.on k (JK ehOx11);replace sb:=kk sb k;clear k;refine Zb ?_;clear rL hbk hels;obtain⟨ar2,cr2,gR,cur,hv2,_,hels⟩:=RZ HC2.out hO;simp only[gN0,true_and]at hv2;obtain⟨rfl,rfl⟩:=hv2;by_cases hNE:N=e
   ·have HQ:Hid (hsL I HB e q=hsL I HB e k):=hcf hNE;clear hcf hcs hcn hck hels hhk;iterate 4 go_step
    refine rp ?_;refine p_m ?_;simp only[pv];refine p_v _ (n_l ar N cr XR) ?_;refine p_m ?_;simp only[pv];refine p_v _ (ZK .i64 _ _ _ _ rfl N e rfl rfl true (d_ (by omega))) (Zb ?_);simp only[pv];iterate 7 go_step
    refine rp ?_;refine p_m ?_;refine p_a (Zb ?_);simp only[pv];go_wp2;go_ret;rw[HQ.out,hN];exact⟨ar,cr,rfl,hO,sb⟩
   ·clear hcf;rw[e_ hNE]at hcn hcs;have hco:=fun w' (hb:Below w.heap.size w w') (h:ElsAt 2 w' ar N C gR 0 cur 64) (r11:Row w' g11 (ptC (I k) (.slice (ay k) (ny k) (cy k))) 64)=>Em ar N cr (fun j=>I ((hsL I HB e k).getD j 0)) (fun j=>ay ((hsL I HB e k).getD j 0)) (fun j=>ny ((hsL I HB e k).getD j 0)) (fun j=>cy ((hsL I HB e k).getD j 0)) gR 0 cur 64 93 #[.pointer (some ⟨g11,0,none⟩)] (fun j=>decide (I ((hsL I HB e k).getD j 0)=I k)) w' func93 (by kernel_rfl) (by omega) (h.congr hck) (fun j hj w2 hb2=>En _ _ _ _ _ _ _ _ g11 w2 (r11.belowAll hb2))
    clear hck;generalize anB (fun j=>decide (I ((hsL I HB e k).getD j 0)=I k)) N=KB at*;iterate 4 go_step
    refine rp ?_;refine p_m ?_;simp only[pv];refine p_v _ (n_l ar N cr XR) ?_;refine p_m ?_;simp only[pv];refine p_v _ (ZK .i64 _ _ _ _ rfl N e rfl rfl false (e_ (by omega))) (Zb ?_);simp only[pv];iterate 7 go_step
    refine rp ?_;refine p_m ?_;simp only[pv];refine p_v (.func (.func 93) #[] #[.pointer (some ⟨g11,0,none⟩)]) (Yr _ _ rfl _ rfl) ?_;simp only[pv];refine p_c 92 func92 #[.slice ar N cr,.func (.func 93) #[] #[.pointer (some ⟨g11,0,none⟩)]] (hco _ sb hels r11) ?_;intro z6002 k;simp only[pv];replace r11:=k.ro r11;replace hO:=hO.on k (Xp _);replace sb:=kk sb k;clear k;refine p_a (Zb ?_);simp only[pv];clear hco hels
    cases KB with
    |true=>
     have hx:=hcs rfl;clear hcs hcn hhk;iterate 3 go_step
     refine rp ?_;refine p_m ?_;simp only[pv];refine p_v _ (Zz _ _ rfl true rfl) ?_;refine p_m ?_;refine p_s ?_;refine p_s ?_;refine p_s ?_;simp only[pv];refine p_s ?_;refine p_k false (.bool false) (Zb ?_);simp only[pv];iterate 6 go_step
     refine rp ?_;refine p_v _ (x_a k 1) ?_;refine p_m (Zb ?_);simp only[pv];go_wp2
     go_roundg x
     case measure=>omega
     case rel=>exact⟨k+1,by omega,rfl,by rw[hx,hN];exact hO,sb⟩
    |false=>
     cases hHk:HB k with
     |false=>
      rw[hHk]at hhk hcs;have hx:=hcs rfl;clear hcs hcn;iterate 3 go_step
      refine rp ?_;refine p_m ?_;simp only[pv];refine p_v _ (Zz _ _ rfl false rfl) ?_;refine p_m ?_;refine p_m ?_;refine p_m ?_;simp only[pv];refine ZJ (by rfl) 64 _ rfl _ 0 rfl r11.r _ (Yi _) _ aG0 rfl XB ?_;simp only[pv];refine p_c 23 func23 #[.pointer v,.slice ab n c,.agg (ptC (I k) (.slice (ay k) (ny k) (cy k)))] (hhk _ sb) ?_;intro z7006 k;simp only[pv];replace r11:=k.ro r11;replace hO:=hO.on k (Xp _);replace sb:=kk sb k;clear k;refine p_k true (.bool false) (Zb ?_);simp only[pv];iterate 6 go_step
      refine rp ?_;refine p_v _ (x_a k 1) ?_;refine p_m (Zb ?_);simp only[pv];go_wp2
      go_roundg x
      case measure=>omega
      case rel=>exact⟨k+1,by omega,rfl,by rw[hx,hN];exact hO,sb⟩
     |true=>
      rw[hHk]at hhk hcn;obtain⟨hx,hCN⟩:=hcn rfl;have hli:=(hlit (I k) (ay k) (ny k) (cy k)).trans (cY0 some hCN.symm);clear hcs hcn;iterate 3 go_step
      refine rp ?_;refine p_m ?_;simp only[pv];refine p_v _ (Zz _ _ rfl false rfl) ?_;refine p_m ?_;refine p_m ?_;refine p_m ?_;simp only[pv];refine ZJ (by rfl) 64 _ rfl _ 0 rfl r11.r _ (Yi _) _ aG0 rfl XB ?_;simp only[pv];refine p_c 23 func23 #[.pointer v,.slice ab n c,.agg (ptC (I k) (.slice (ay k) (ny k) (cy k)))] (hhk _ sb) ?_;intro z7006 k;simp only[pv];replace r11:=k.ro r11;replace hO:=hO.on k (Xp _);replace sb:=kk sb k;clear k;refine p_k true (.bool true) (Zb ?_);simp only[pv];iterate 3 go_step
      refine rp ?_;refine p_m ?_;simp only[pv];refine ZJ (by rfl) 64 _ rfl _ 0 rfl r11.r _ (Yi _) _ aG0 rfl XB ?_;simp only[pv];refine Wb (by rfl) 32 64 1 _ rfl (C N) ip _ aZ0 hip hzp hs1 hs2 [(0,.agg (ptC (I k) (.slice (ay k) (ny k) (cy k))))] rfl hli ?_;intro gA z8002 n0 rA k;simp only[pv];clear n0;replace r11:=k.ro r11;replace hO:=hO.on k (Xp _);replace sb:=kk sb k;clear k;refine JR (by rfl) _ _ (32) rfl (w.heap.size) 64 ip _ 2 32 aZ0 hip hzp hszp hbyp rfl (by decide) (by decide) (_) (N) (C) (HC2.out) rfl hO gA _ rfl rA (HCo.out _) ((by omega)) sb.size ?_;have h0:=hO;clear hO;intro v1 z8003 hO k hp;simp only[pv];have cr11:=r11.lt;replace r11:=k.row r11 (by first|exact Wr ehOx11|exact Wr (h0.low (by omega)))
      (try replace ehOx11:=T6 hp cr11 ehOx11)
      clear cr11;clear hp;replace sb:=sb.trans (k.below w.heap.size sb.size h0.base);clear h0;clear k;refine p_a (Zb ?_);simp only[pv];iterate 2 go_step
      refine rp ?_;refine p_v _ (x_a k 1) ?_;refine p_m (Zb ?_);simp only[pv];go_wp2
      go_roundg x
      case measure=>omega
      case rel=>exact⟨k+1,by omega,rfl,by rw[hx,bC0,hN];exact hO,sb⟩
theorem wd (w:World):(zeroValue 32).run prog w= .ok (.slice none 0 0) w:=by kernel_rfl
theorem vk (w:World):(zeroValue 30).run prog w= .ok (.slice none 0 0) w:=by kernel_rfl
theorem Pt:(prog.info? 32).map (·.size)=some 1:=by kernel_rfl
theorem Ma {k:Nat}{e:TypeId}{w:World}{bs n c:Nat}{ab:Option Addr}{C:Nat->Array Value}(hC: ∀i,(C i).size=k)(h:Te k e w bs (.slice ab n c) n C)(h0:0<n): ∃g cur,ab=some ⟨g,0,none⟩/\bs<=g/\Row w g cur e/\n<=c/\ ∀i,i<n-> ∀j v,(C i).toList[j]?=some v->cur[0+i*k+j]?=some v:=by
 obtain⟨ab',c',gb,cur0,he,hnc,hE⟩:=RZ hC h;rcases h.2 with ⟨h1,h2⟩|⟨g,cap,cur,h1,hb,hg,_⟩
 ·omega
 ·simp only[gN0]at h1 he;obtain⟨rfl,_,rfl⟩:=h1;obtain⟨rfl,_,rfl⟩:=he;obtain h3|⟨h3,h4,h5⟩:=hE.at'
  ·omega
  ·simp only[aL0,Addr.mk.injEq]at h3;obtain⟨rfl,_⟩:=h3;obtain⟨fr,h4⟩:=h4;have:=h4.symm.trans hg;simp only[aL0,Obj.cells.injEq]at this;obtain⟨rfl,_⟩:=this;exact⟨g,cur0,rfl,hb,hg,hnc,h5⟩
theorem FamAt.zero {w:World}{base n m:Nat}{R:Nat->Nat}{V:Nat->Nat->Nat}(h:FamAt w base n R V m):FamAt w 0 n R V m:=⟨h.row,h.dis,fun _ _=>eU0 _⟩
theorem Av (j k N n cr gR g1 g2 cj:Nat)(aj:Option Addr)(Y:Nat->Nat)(gj oj:Nat)(cur jcs:Array Value)(tj:TypeId)(w:World)(hj:j<N)(hk:k<n)(hx:g1≠gR)(r1:Row w g1 #[.slice (some ⟨gR,0,none⟩) N cr] 32)(r2:Row w g2 #[.int .i64 k] 3)(rE:Row w gR cur 64)(hc:cur[0+j*2+1]?=some (.slice aj n cj))(hY:NatsAt w aj n Y gj oj jcs tj):
  Calls prog 45 #[.int .i64 j,.pointer (some ⟨g1,0,none⟩),.pointer (some ⟨g2,0,none⟩)] w fun e w'=>e= .returned (.agg (Zc (Y k)))/\Below w.heap.size w w':=by
 obtain h0|⟨rfl,rY,hbt⟩:=hY.at'
 ·exact absurd h0 (by omega)
 have hbk:=hbt k hk;have HR:Hid (WV w gj jcs tj):=rY;have hyl:=rY.lt;clear hbt hY rY
 go_enter func45,ntmps45
 have sb:=YG w;iterate 2 go_step
 refine rp ?_;refine ZT (by rfl) 57 rfl _ Zp ?_;intro g4 z0 n0 r4 k;simp only[pv];have d1x4:=l_l r1.lt n0;have d2x4:=l_l r2.lt n0;have dEx4:=l_l rE.lt n0;have b4:=f_ sb.size n0;clear n0;replace r1:=k.ro r1;replace r2:=k.ro r2;replace rE:=k.ro rE;replace sb:=kk sb k;clear k;refine Zb ?_;have rY:=HR.out.belowAll sb;iterate 3 go_step
 apply Zi (by kernel_rfl) [(g4,57,Zc 0)] [_,_,_,_,_,_,_,_,_] ⟨r4,trivial⟩ (by simp<;>omega)
 ·intro p;refine Zs 32 _ rfl _ (0) rfl r1 (by simp<;>omega) (.slice (some ⟨gR,0,none⟩) N cr) rfl isAgg32 ?_;refine m_m ?_;simp only[pv];refine m_x j hj aZ0 eD0 ?_;simp only[pv];refine Ze _ (Zh 64 _ 1 rfl gR (0+j*2) rfl _ aG0 _ rfl 0 aO0) ?_;simp only[pv];refine Zs 22 _ rfl _ (0+j*2+1) rfl rE (by simp<;>omega) (.slice (some ⟨gj,oj,none⟩) n cj) hc aD0 ?_;simp only[pv];refine Zs 3 _ rfl _ (0) rfl r2 (by simp<;>omega) (.int .i64 k) rfl bG0 ?_;simp only[pv];refine m_x k hk r_ ZC ?_;simp only[pv];refine Yj 57 _ rfl _ (oj+k*4) rfl rY (by simp<;>omega) (Zc (Y k)) hbk _ b_ rfl Zd ?_;simp only[pv];refine m_p 0 (Y k) ?_;simp only[Act.put];refine Zf ?_;intro w5 hkw hrw hnew hdis;have zr4:Row w5 (g4) (Zc (Y k)) 57:=hrw 0 (57,Zc (Y k)) rfl;replace sb:=kk sb hkw;clear hkw hrw hnew hdis r4;have r4:=zr4;clear zr4;go_wp2;exact ZM rfl _ rfl r4 4 _ b_ (by exact Zd) rfl ⟨rfl,sb⟩
 ·kernel_rfl
theorem Aw (v:Option Addr)(j N D gW gY g1 g2 g3:Nat)(R:Nat->Nat)(z:Int)(w:World)(hj:j<N)(r1:Row w g1 #[.pointer v] 25)(r2:Row w g2 #[.slice (some ⟨gW,0,none⟩) N N] 30)(r3:Row w g3 #[.slice (some ⟨gY,0,none⟩) N N] 22)(rW:Row w gW (vsC N (fun j=>.slice (some ⟨R j,0,none⟩) N N)) 22)
  (hdo: ∀w',Below w.heap.size w w'->Calls prog 47 #[.pointer v,.slice (some ⟨R j,0,none⟩) N N,.slice (some ⟨gY,0,none⟩) N N] w' (Rt (.tuple #[.agg (Zc D),.int .i64 z]) w')):
  Calls prog 46 #[.int .i64 j,.pointer (some ⟨g1,0,none⟩),.pointer (some ⟨g2,0,none⟩),.pointer (some ⟨g3,0,none⟩)] w fun e w'=>e= .returned (.agg (Zc D))/\Below w.heap.size w w':=by
 go_enter func46,ntmps46
 have sb:=YG w;iterate 2 go_step
 refine rp ?_;refine ZT (by rfl) 57 rfl _ Zp ?_;intro g5 z0 n0 r5 k;simp only[pv];have b5:=f_ sb.size n0;clear n0;replace r1:=k.ro r1;replace r2:=k.ro r2;replace r3:=k.ro r3;replace rW:=k.ro rW;replace sb:=kk sb k;clear k;refine Zb ?_;iterate 3 go_step
 apply Zi (by kernel_rfl) [] [_,_,_,_,_,_,_,_,_,_,_,_,_] trivial (by simp<;>omega)
 ·intro p;refine Zs 25 _ rfl _ (0) rfl r1 (by simp<;>omega) (.pointer v) rfl eL0 ?_;simp only[pv];refine Zs 30 _ rfl _ (0) rfl r2 (by simp<;>omega) (.slice (some ⟨gW,0,none⟩) N N) rfl isAgg30 ?_;refine m_m ?_;simp only[pv];refine m_x j hj cR0 aO0 ?_;simp only[pv];refine Zs 22 _ rfl _ (0+j*1) rfl rW (by simp<;>omega) (.slice (some ⟨R j,0,none⟩) N N) (by rw[show 0+j*1=j by omega];exact XA _ hj) aD0 ?_;simp only[pv];refine Zs 22 _ rfl _ (0) rfl r3 (by simp<;>omega) (.slice (some ⟨gY,0,none⟩) N N) rfl aD0 ?_;simp only[pv];refine m_k 47 func47 #[.pointer v,.slice (some ⟨R j,0,none⟩) N N,.slice (some ⟨gY,0,none⟩) N N] (fun w' hk=>hdo w' (sb.trans (hk.below w.heap.size sb.size (by simp<;>omega)))) ?_;refine m_m ?_;refine m_e ?_;refine m_e ?_;simp only[pv];refine m_n ?_;simp only[pv];refine m_p 21 D ?_;simp only[Act.put];refine m_a ?_;simp only[pv];refine Zf ?_;intro w5 hkw hrw hnew hdis;have n6:=hnew 10 rfl;have zr6:Row w5 (p 10) (Zc D) 57:=hrw 21 (57,Zc D) rfl;have d5x6:=l_l r5.lt n6;replace r5:=hkw.ro r5;replace sb:=kk sb hkw;clear hkw hrw hnew hdis n6;generalize p 10=g6 at*;have r6:=zr6;clear zr6;iterate 3 go_step
  refine rp ?_;refine p_l r6.r ?_;simp only[pv];refine p_p r5 D ?_;clear r5;intro z2001 r5 k;simp only[Act.put];replace r6:=k.ro r6;replace sb:=kk sb k;clear k;refine Zb ?_;go_wp2;exact ZM rfl _ rfl r5 4 _ b_ (by exact Zd) rfl ⟨rfl,sb⟩
 ·kernel_rfl
section
variable {Q:Nat}[NeZero Q]{g gr gf P G:Nat}{w:World}
def rcD (Q:Nat)[NeZero Q](X:Nat->Nat)(Y:Nat->Nat->Nat)(N k j:Nat):Nat:=EN (wtV (Q:=Q) X N N 0 j) (fun i=>Y i k) Q N
theorem Lw (ab al:Option Addr)(n c q cl t N:Nat)(X:Nat->Nat)(A:Nat->Option Addr)(CY:Nat->Nat)(Y:Nat->Nat->Nat)(gy oy:Nat->Nat)(ycs:Nat->Array Value)(ty:Nat->TypeId)(h1:1<=t)(h2:t<=2)(hN:N=t+1)(hn1:1<=n)(hn2:n<=25)(hX: ∀j,j<N->X j<=7)(hap:apB 0 (fun k=>((X k:Nat):Int)) N=true)(hdd: ∀i j,i<N->j<N->i≠j->(fi (X i):Fin Q)≠fi (X j))(qq:FdQ Q)(hg:GrpAt w g gr gf P Q G)(hY: ∀j,j<N->NatsAt w (A j) n (Y j) (gy j) (oy j) (ycs j) (ty j))
  (hma: ∀w',Below w.heap.size w w'->Calls prog 26 #[.pointer (some ⟨g,0,none⟩),.int .i64 (t:Nat),.slice ab n c] w' (Rt (.bool true) w'))
  (hho: ∀w',Below w.heap.size w w'->Calls prog 42 #[.pointer (some ⟨g,0,none⟩),.slice ab n c,.slice al q cl,.int .i64 ((t+1:Nat):Int)] w' fun e w2=> ∃ar cr,e= .returned (.slice ar N cr)/\Te 2 64 w2 w'.heap.size (.slice ar N cr) N (fun j=>ptC ((X j:Nat):Int) (.slice (A j) n (CY j)))/\Below w'.heap.size w' w2):
  Calls prog 15 #[.pointer (some ⟨g,0,none⟩),.int .i64 (t:Nat),.slice ab n c,.slice al q cl] w fun e w'=> ∃gP PR,e= .returned (.tuple #[.slice (some ⟨gP,0,none⟩) n n,.int .i64 0])/\w.heap.size<=gP/\Row w' gP (vsC n (fun j=>.slice (some ⟨PR j,0,none⟩) N N)) 22/\FamAt w' w.heap.size N PR (rcD Q X Y N) n/\Below w.heap.size w w':=by
 obtain⟨ii,hii,hzi,hszi,hbyi⟩:=T8;obtain⟨is',his,hzs,hszs,hbys⟩:=Tf;have HC2:Hid (∀j,((fun j=>ptC ((X j:Nat):Int) (.slice (A j) n (CY j))) j).size=2):=fun j=>rfl
 have hwt:=fun w' gX (hb:Below w.heap.size w w') (rX:Row w' gX (vsC N (fun j=>.int .i64 ((X j:Nat):Int))) 3)=>BC N N (some ⟨gX,0,none⟩) X gX 0 (vsC N (fun j=>.int .i64 ((X j:Nat):Int))) 3 qq (by omega) (fun k hk=>by have:=hX k hk;omega) hdd ⟨.inr ⟨rfl,rX.r,fun i hi=>by rw[show 0+i*1=i by omega];exact XA _ hi⟩⟩ (hg.below hb) hap
 have HD:Hid (∀w' gR gY k j,Below w.heap.size w w'->Row w' gR (nsC N ((wtV (Q:=Q) X N N 0) j)) 57->Row w' gY (nsC N (fun i=>Y i k)) 57->k<n->Calls prog 47 #[.pointer (some ⟨g,0,none⟩),.slice (some ⟨gR,0,none⟩) N N,.slice (some ⟨gY,0,none⟩) N N] w' (Rt (.tuple #[.agg (Zc ((rcD Q X Y N) k j)),.int .i64 0]) w')):=fun w' gR gY k j hb rR rY hk=>Bd g gr gf P Q G N N N (some ⟨gR,0,none⟩) (some ⟨gY,0,none⟩) ((wtV (Q:=Q) X N N 0) j) (fun i=>Y i k) gR 0 gY 0 _ _ _ _ w' qq (by omega) (YA rR (fun i hi=>by
   unfold wtV
   split
   ·exact E_ (pco _ _).isLt qq.m
   ·decide)) (YA rY (fun i hi=>(hY i hi).lt k hk)) (hg.below hb)
 have HY:Hid (∀j,j<N->NatsAt w (A j) n (Y j) (gy j) (oy j) (ycs j) (ty j)):=hY
 have hh2: ∀w',Below w.heap.size w w'->Calls prog 42 #[.pointer (some ⟨g,0,none⟩),.slice ab n c,.slice al q cl,.int .i64 ((t+1:Nat):Int)] w' fun e w2=> ∃gE cur cr,e= .returned (.slice (some ⟨gE,0,none⟩) N cr)/\w'.heap.size<=gE/\Row w2 gE cur 64/\(∀i,i<N-> ∀j v,((fun j=>ptC ((X j:Nat):Int) (.slice (A j) n (CY j))) i).toList[j]?=some v->cur[0+i*2+j]?=some v)/\Below w'.heap.size w' w2:=fun w' hb=>by
  refine(hho w' hb).mono ?_;rintro e w2 ⟨ar,cr,rfl,hO,hb2⟩;obtain⟨gE,cur,rfl,nE,rE,_,hce⟩:=Ma HC2.out hO (by omega);exact⟨gE,cur,cr,rfl,nE,rE,hce,hb2⟩
 obtain⟨hNt,hN3⟩:t<N/\N<=3:=by omega
 clear hg hY hap hdd hho hN
 go_enter func15,ntmps15
 have sb:=YG w;iterate 2 go_step
 refine rp ?_;refine Ye (by rfl) 25 _ rfl (.pointer (some ⟨g,0,none⟩)) rfl rfl ?_;intro g4 z0 n0 r4 k;simp only[pv];clear n0;replace sb:=kk sb k;clear k;refine p_v (.slice none 0 0) ((fun _=>rfl)) ?_;refine p_v (.int .i64 0) (fun _=>rfl) (Zb ?_);simp only[pv];iterate 4 go_step
 refine rp ?_;refine p_d 0 r4.r (.pointer (some ⟨g,0,none⟩)) rfl eL0 ?_;refine p_m ?_;refine p_m ?_;simp only[pv];refine p_c 26 func26 #[.pointer (some ⟨g,0,none⟩),.int .i64 (t:Nat),.slice ab n c] (hma _ sb) ?_;intro z1003 k;simp only[pv];replace r4:=k.ro r4;replace sb:=kk sb k;clear k;refine p_v _ (Zz _ _ rfl true rfl) (Zb ?_);simp only[pv];clear hma;iterate 7 go_step
 refine rp ?_;refine p_d 0 r4.r (.pointer (some ⟨g,0,none⟩)) rfl eL0 ?_;refine p_m ?_;refine p_m ?_;refine p_m ?_;simp only[pv];refine p_v _ (x_a t 1) ?_;simp only[pv];refine p_f 42 func42 #[.pointer (some ⟨g,0,none⟩),.slice ab n c,.slice al q cl,.int .i64 ((t+1:Nat):Int)] (hh2 _ sb) ?_;rintro _ z3005 ⟨gE,cur,cr,rfl,nE,rE,hce,hb⟩;refine⟨_,rfl,?_⟩;simp only[pv];clear nE;have k:=Kept.ofBelow hb;clear hb;replace r4:=k.ro r4;replace sb:=kk sb k;clear k;refine Se (by rfl) 32 rfl (.slice none 0 0) wd rfl ?_;intro g10 z3006 n0 r10 k;simp only[pv];have d4x10:=l_l r4.lt n0;have dEx10:=l_l rE.lt n0;have b10:=f_ sb.size n0;clear n0;replace r4:=k.ro r4;replace rE:=k.ro rE;replace sb:=kk sb k;clear k;refine Xx (by rfl) 32 _ _ rfl _ (0) rfl r10 (.slice (some ⟨gE,0,none⟩) N cr) rfl rfl rfl Pt (by exact Nat.one_pos) (#[.slice (some ⟨gE,0,none⟩) N cr]) rfl ?_;clear r10;intro z3007 r10 k;simp only[Act.put];replace r4:=k.ro r4;replace rE:=k.ro rE;replace sb:=kk sb k;clear k;refine Zb ?_;clear hh2;have hcI: ∀i,i<N->cur[0+i*2]?=some (.int .i64 ((X i:Nat):Int)):=fun i hi=>hce i hi 0 _ rfl
 have hcY: ∀i,i<N->cur[0+i*2+1]?=some (.slice (A i) n (CY i)):=fun i hi=>hce i hi 1 _ rfl
 have hE10:g10≠gE:=by omega
 clear hce;iterate 4 go_step
 refine rp ?_;refine p_d 0 r10.r (.slice (some ⟨gE,0,none⟩) N cr) rfl isAgg32 ?_;simp only[pv];refine p_v _ (n_l (some ⟨gE,0,none⟩) N cr XR) ?_;refine p_m ?_;simp only[pv];refine p_v _ (Xs _ _ _ _ rfl N t rfl rfl false (e_ (by omega))) (Zb ?_);simp only[pv];iterate 7 go_step
 refine rp ?_;refine p_d 0 r10.r (.slice (some ⟨gE,0,none⟩) N cr) rfl isAgg32 ?_;simp only[pv];refine p_v _ (n_l (some ⟨gE,0,none⟩) N cr XR) ?_;simp only[pv];refine XT (by rfl) 50 3 _ _ rfl ii _ bF0 hii hzi N rfl rfl (by rw[hszi];omega) (by rw[hbyi];omega) (by omega) ?_;intro gX z6002 n0 rX k;simp only[pv];have d4xX:=l_l r4.lt n0;have d10xX:=l_l r10.lt n0;have dExX:=l_l rE.lt n0;have bX:=f_ sb.size n0;clear n0;replace r4:=k.ro r4;replace r10:=k.ro r10;replace rE:=k.ro rE;replace sb:=kk sb k;clear k;refine p_a (Zb ?_);simp only[pv];rw[hszi,Sc N _ rfl]at rX;iterate 4 go_step
 refine rp ?_;refine p_d 0 r10.r (.slice (some ⟨gE,0,none⟩) N cr) rfl isAgg32 ?_;simp only[pv];refine p_v _ (n_l (some ⟨gE,0,none⟩) N cr XR) ?_;refine p_v (.int .i64 0) (fun _=>rfl) (Zb ?_);simp only[pv]
 go_wp2_with fail
 go_loopg [12,38] N (fun x s12 s38 wr=> ∃k:Nat,k+x=N/\s38= .int .i64 k/\Row wr g4 #[.pointer (some ⟨g,0,none⟩)] 25/\Row wr g10 #[.slice (some ⟨gE,0,none⟩) N cr] 32/\Row wr gE cur 64/\Row wr gX (vsC N (fun j=>if j<k then .int .i64 ((X j:Nat):Int)else .int .i64 0)) 3/\Below w.heap.size w wr)
 case atStart=>exact⟨0,by omega,rfl,r4,r10,rE,by rw[YN (T:=fun _=>.int .i64 0) (fun j _=>i_ (by omega))];exact rX,sb⟩
 case round=>
  clear r4 r10 rE rX sb;obtain⟨k,hk,rfl,r4,r10,rE,rX,sb⟩:=hrel
  cases gk with
  |succ x=>
   have hlt:k<N:=by omega
   have hcIk:=hcI k hlt
   have hpX:(vsC N (fun j=>if j<k then .int .i64 ((X j:Nat):Int)else .int .i64 0)).setIfInBounds (0+k*1) (.int .i64 ((X k:Nat):Int))=vsC N (fun j=>if j<k+1 then .int .i64 ((X j:Nat):Int)else .int .i64 0):=by
    rw[show 0+k*1=k by omega];refine VZ hlt ?_ (fun j hj hne=>?_)
    ·show(ite _ _ _:Value)=_
     rw[j_ (by omega)]
    ·show(ite _ _ _:Value)=ite _ _ _
     by_cases h2:j<k
     ·rw[j_ h2,j_ (by omega)]
     ·rw[i_ h2,i_ (by omega)]
   clear hwt HD hcI hcY
   go_step
   refine rp ?_;refine p_v _ (X4 k N) (Zb ?_);simp only[pv];iterate 10 go_step
   refine rp ?_;refine p_m ?_;refine p_a (Zb ?_);simp only[pv];iterate 2 go_step
   refine rp ?_;refine p_m ?_;refine p_m ?_;simp only[pv];refine p_d 0 r10.r (.slice (some ⟨gE,0,none⟩) N cr) rfl isAgg32 ?_;refine p_m ?_;simp only[pv];refine p_x k hlt aZ0 eD0 ?_;simp only[pv];refine p_v _ (Zh 64 _ 0 rfl gE (0+k*2) rfl _ aG0 _ rfl 0 aJ0) ?_;simp only[pv];refine p_d (0+k*2) rE.r (.int .i64 ((X k:Nat):Int)) hcIk bG0 ?_;simp only[pv];refine p_x k hlt bF0 aJ0 ?_;simp only[pv];refine Xx (by rfl) 3 _ _ rfl _ (0+k*1) rfl rX (.int .i64 ((X k:Nat):Int)) rfl rfl rfl Vg (by rw[Xb];omega) (vsC N (fun j=>if j<k+1 then .int .i64 ((X j:Nat):Int)else .int .i64 0)) hpX ?_;clear rX;intro z10008 rX k;simp only[Act.put];replace r4:=k.ro r4;replace r10:=k.ro r10;replace rE:=k.ro rE;replace sb:=kk sb k;clear k;refine Zb ?_;iterate 2 go_step
   refine rp ?_;refine p_v _ (x_a k 1) ?_;refine p_m (Zb ?_);simp only[pv];go_wp2
   go_roundg x
   case measure=>omega
   case rel=>exact⟨k+1,by omega,rfl,r4,r10,rE,rX,sb⟩
  |zero=>
   have hkN:N=k:=by omega
   clear hk hcI;subst hkN;rw[YN (T:=fun j=>.int .i64 ((X j:Nat):Int)) (fun j hj=>j_ hj)]at rX
   go_step
   refine rp ?_;refine p_v _ (Xe N N) (Zb ?_);simp only[pv];iterate 8 go_step
   refine rp ?_;refine p_d 0 r4.r (.pointer (some ⟨g,0,none⟩)) rfl eL0 ?_;refine p_m ?_;simp only[pv];refine p_f 43 func43 #[.pointer (some ⟨g,0,none⟩),.slice (some ⟨gX,0,none⟩) N N] (hwt _ gX sb rX) ?_;rintro _ z12002 ⟨gW,R,rfl,rW,hW,hb⟩;refine⟨_,rfl,?_⟩;simp only[pv];have k:=Kept.ofBelow hb;clear hb;replace r4:=k.ro r4;replace r10:=k.ro r10;replace rE:=k.ro rE;replace sb:=kk sb k;clear k;refine p_m ?_;refine p_e ?_;refine p_e ?_;simp only[pv];refine Se (by rfl) 30 rfl (.slice none 0 0) vk rfl ?_;intro g13 z12006 n0 r13 k;simp only[pv];have d4x13:=l_l r4.lt n0;have d10x13:=l_l r10.lt n0;have dEx13:=l_l rE.lt n0;have dWx13:=l_l rW.lt n0;have hWx13:=fun j hj=>bV0 (l_ (hW.lt (j:=j) hj) n0)
   have b13:=f_ sb.size n0;clear n0;replace r4:=k.ro r4;replace r10:=k.ro r10;replace rE:=k.ro rE;replace rW:=k.ro rW;replace hW:=hW.below k.nil;replace sb:=kk sb k;clear k;refine Xx (by rfl) 30 _ _ rfl _ (0) rfl r13 (.slice (some ⟨gW,0,none⟩) N N) rfl rfl rfl Pg (by exact Nat.one_pos) (#[.slice (some ⟨gW,0,none⟩) N N]) rfl ?_;clear r13;intro z12007 r13 k;simp only[Act.put];replace r4:=k.ro r4;replace r10:=k.ro r10;replace rE:=k.ro rE;replace rW:=k.ro rW;replace hW:=hW.on k (fun j hj=>by simpa using hWx13 j hj);replace sb:=kk sb k;clear k;refine p_a (Zb ?_);simp only[pv];replace hW:=hW.zero;clear hwt;iterate 3 go_step
   refine rp ?_;refine p_m ?_;simp only[pv];refine p_v _ (n_l ab n c WY) ?_;simp only[pv];refine XT (by rfl) 30 22 _ _ rfl is' _ cR0 his hzs n rfl rfl (by rw[hszs];omega) (by rw[hbys];omega) (by omega) ?_;intro gP z13002 n0 rP k;simp only[pv];have d4xP:=l_l r4.lt n0;have d10xP:=l_l r10.lt n0;have dExP:=l_l rE.lt n0;have d13xP:=l_l r13.lt n0;have dWxP:=l_l rW.lt n0;have hWxP:=fun j hj=>bV0 (l_ (hW.lt (j:=j) hj) n0)
   have bP:=f_ sb.size n0;clear n0;replace r4:=k.ro r4;replace r10:=k.ro r10;replace rE:=k.ro rE;replace r13:=k.ro r13;replace rW:=k.ro rW;replace hW:=hW.below k.nil;replace sb:=kk sb k;clear k;refine p_a (Zb ?_);simp only[pv];rw[hszs,Sc n _ rfl]at rP;iterate 4 go_step
   refine rp ?_;refine p_m ?_;simp only[pv];refine p_v _ (n_l ab n c WY) ?_;refine p_v (.int .i64 0) (fun _=>rfl) (Zb ?_);simp only[pv]
   go_wp2_with fail
   go_loopg [16,61] n (fun x s16 s61 wr=> ∃(k:Nat) (PR:Nat->Nat),k+x=n/\s61= .int .i64 k/\Row wr g4 #[.pointer (some ⟨g,0,none⟩)] 25/\Row wr g10 #[.slice (some ⟨gE,0,none⟩) N cr] 32/\Row wr gE cur 64/\Row wr g13 #[.slice (some ⟨gW,0,none⟩) N N] 30/\Row wr gW (vsC N (fun j=>.slice (some ⟨R j,0,none⟩) N N)) 22/\FamAt wr 0 N R (wtV (Q:=Q) X N N 0) N/\Row wr gP (vsC n (fun j=>if j<k then .slice (some ⟨PR j,0,none⟩) N N else .slice none 0 0)) 22/\FamAt wr w.heap.size N PR (rcD Q X Y N) k/\(∀j,j<k->PR j≠gP)/\Below w.heap.size w wr)
   case atStart=>exact⟨0,fun _=>0,by omega,rfl,r4,r10,rE,r13,rW,hW,by rw[YN (T:=fun _=>.slice none 0 0) (fun j _=>i_ (by omega))];exact rP,Sd _ _ _ _ _,fun j hj=>absurd hj (by omega),sb⟩
   case round=>
    clear r4 r10 rE r13 rW hW rP sb;obtain⟨k,PR,hk,rfl,r4,r10,rE,r13,rW,hW,rP,hP,hPxP,sb⟩:=hrel
    cases gk with
    |zero=>
     have hkn:n=k:=by omega
     clear hk;subst hkn;rw[YN (T:=fun j=>.slice (some ⟨PR j,0,none⟩) N N) (fun j hj=>j_ hj)]at rP
     go_step
     refine rp ?_;refine p_v _ (Xe n n) (Zb ?_);simp only[pv];iterate 8 go_step
     refine rp ?_;refine p_m ?_;refine p_a ?_;refine p_v (.int .i64 0) (fun _=>rfl) (Zb ?_);simp only[pv];go_wp2;go_ret2;exact⟨gP,PR,rfl,bP,rP,hP,sb⟩
    |succ x=>
     have hlt:k<n:=by omega
     have hpP: ∀gN,(vsC n (fun j=>if j<k then .slice (some ⟨PR j,0,none⟩) N N else .slice none 0 0)).setIfInBounds (0+k*1) (.slice (some ⟨gN,0,none⟩) N N)=(vsC n (fun j=>if j<k+1 then .slice (some ⟨upR PR k gN j,0,none⟩) N N else .slice none 0 0)):=fun gN=>by
      rw[show 0+k*1=k by omega];refine VZ hlt ?_ (fun j hj hne=>?_)
      ·show(ite _ _ _:Value)=_
       rw[j_ (by omega),Xd]
      ·show(ite _ _ _:Value)=ite _ _ _
       by_cases h2:j<k
       ·rw[j_ h2,j_ (by omega),Y4 PR h2]
       ·rw[i_ h2,i_ (by omega)]
     have hto1:=fun w' g16 (hb:Below w.heap.size w w') (r10:Row w' g10 #[.slice (some ⟨gE,0,none⟩) N cr] 32) (r16:Row w' g16 #[.int .i64 k] 3) (rE:Row w' gE cur 64)=>Sq N 45 #[.pointer (some ⟨g10,0,none⟩),.pointer (some ⟨g16,0,none⟩)] (fun j=>Y j k) w' func45 (by kernel_rfl) (by omega) (fun j hj w2 hb2=>Av j k N n cr gE g10 g16 (CY j) (A j) (Y j) (gy j) (oy j) cur (ycs j) (ty j) w2 hj hlt hE10 (r10.belowAll hb2) (r16.belowAll hb2) (rE.belowAll hb2) (hcY j hj) ((HY.out j hj).below (Zk hb (c_ _) hb2)))
     have hto2:=fun w' g17 gY (hb:Below w.heap.size w w') (r4:Row w' g4 #[.pointer (some ⟨g,0,none⟩)] 25) (r13:Row w' g13 #[.slice (some ⟨gW,0,none⟩) N N] 30) (r17:Row w' g17 #[.slice (some ⟨gY,0,none⟩) N N] 22) (rW:Row w' gW (vsC N (fun j=>.slice (some ⟨R j,0,none⟩) N N)) 22) (hW:FamAt w' 0 N R (wtV (Q:=Q) X N N 0) N) (rY:Row w' gY (nsC N (fun i=>Y i k)) 57)=>Sq N 46 #[.pointer (some ⟨g4,0,none⟩),.pointer (some ⟨g13,0,none⟩),.pointer (some ⟨g17,0,none⟩)] ((rcD Q X Y N) k) w' func46 (by kernel_rfl) (by omega) (fun j hj w2 hb2=>Aw _ j N ((rcD Q X Y N) k j) gW gY g4 g13 g17 R 0 w2 hj (r4.belowAll hb2) (r13.belowAll hb2) (r17.belowAll hb2) (rW.belowAll hb2) (fun w3 hb3=>HD.out w3 (R j) gY k j (Zk (Zk hb (c_ _) hb2) (c_ _) hb3) (((hW.row j hj).belowAll hb2).belowAll hb3) ((rY.belowAll hb2).belowAll hb3) hlt))
     clear HD
     go_step
     refine rp ?_;refine p_v _ (X4 k n) (Zb ?_);simp only[pv];iterate 10 go_step
     refine rp ?_;refine p_m ?_;simp only[pv];refine Se (by rfl) 3 rfl (.int .i64 0) xL rfl ?_;intro g16 z16001 n0 r16 k;simp only[pv];have d4x16:=l_l r4.lt n0;have d10x16:=l_l r10.lt n0;have dEx16:=l_l rE.lt n0;have d13x16:=l_l r13.lt n0;have dWx16:=l_l rW.lt n0;have dPx16:=l_l rP.lt n0;have hWx16:=fun j hj=>bV0 (l_ (hW.lt (j:=j) hj) n0)
     have hPx16:=fun j hj=>bV0 (l_ (hP.lt (j:=j) hj) n0)
     have b16:=f_ sb.size n0;clear n0;replace r4:=k.ro r4;replace r10:=k.ro r10;replace rE:=k.ro rE;replace r13:=k.ro r13;replace rW:=k.ro rW;replace rP:=k.ro rP;replace hW:=hW.below k.nil;replace hP:=hP.below k.nil;replace sb:=kk sb k;clear k;refine Xx (by rfl) 3 _ _ rfl _ (0) rfl r16 (.int .i64 k) rfl rfl rfl Vg (by exact Nat.one_pos) (#[.int .i64 k]) rfl ?_;clear r16;intro z16002 r16 k;simp only[Act.put];replace r4:=k.ro r4;replace r10:=k.ro r10;replace rE:=k.ro rE;replace r13:=k.ro r13;replace rW:=k.ro rW;replace rP:=k.ro rP;replace hW:=hW.on k (fun j hj=>by simpa using hWx16 j hj);replace hP:=hP.on k (fun j hj=>by simpa using hPx16 j hj);replace sb:=kk sb k;clear k;refine Zb ?_;iterate 3 go_step
     refine rp ?_;refine p_d 0 r10.r (.slice (some ⟨gE,0,none⟩) N cr) rfl isAgg32 ?_;simp only[pv];refine p_v _ (n_l (some ⟨gE,0,none⟩) N cr XR) ?_;simp only[pv];refine p_v (.func (.func 45) #[] #[.pointer (some ⟨g10,0,none⟩),.pointer (some ⟨g16,0,none⟩)]) (Yr _ _ rfl _ rfl) ?_;simp only[pv];refine p_f 44 func44 #[.int .i64 N,.func (.func 45) #[] #[.pointer (some ⟨g10,0,none⟩),.pointer (some ⟨g16,0,none⟩)]] (hto1 _ g16 sb r10 r16 rE) ?_;rintro _ z17003 ⟨gY,rfl,nY,rY,hb⟩;refine⟨_,rfl,?_⟩;simp only[pv];have dPxY:=l_l rP.lt nY;have hPxY:=fun j hj=>bV0 (l_ (hP.lt (j:=j) hj) nY)
     clear nY;have k:=Kept.ofBelow hb;clear hb;replace r4:=k.ro r4;replace r10:=k.ro r10;replace rE:=k.ro rE;replace r13:=k.ro r13;replace rW:=k.ro rW;replace rP:=k.ro rP;replace hW:=hW.below k.nil;replace hP:=hP.below k.nil;replace r16:=k.ro r16;replace sb:=kk sb k;clear k;refine Se (by rfl) 22 rfl (.slice none 0 0) wZ rfl ?_;intro g17 z17004 n0 r17 k;simp only[pv];have d4x17:=l_l r4.lt n0;have d10x17:=l_l r10.lt n0;have dEx17:=l_l rE.lt n0;have d13x17:=l_l r13.lt n0;have dWx17:=l_l rW.lt n0;have dPx17:=l_l rP.lt n0;have hWx17:=fun j hj=>bV0 (l_ (hW.lt (j:=j) hj) n0)
     have hPx17:=fun j hj=>bV0 (l_ (hP.lt (j:=j) hj) n0)
     have d16x17:=l_l r16.lt n0;have dYx17:=l_l rY.lt n0;have b17:=f_ sb.size n0;clear n0;replace r4:=k.ro r4;replace r10:=k.ro r10;replace rE:=k.ro rE;replace r13:=k.ro r13;replace rW:=k.ro rW;replace rP:=k.ro rP;replace hW:=hW.below k.nil;replace hP:=hP.below k.nil;replace r16:=k.ro r16;replace rY:=k.ro rY;replace sb:=kk sb k;clear k;refine Xx (by rfl) 22 _ _ rfl _ (0) rfl r17 (.slice (some ⟨gY,0,none⟩) N N) rfl rfl rfl Yy (by exact Nat.one_pos) (#[.slice (some ⟨gY,0,none⟩) N N]) rfl ?_;clear r17;intro z17005 r17 k;simp only[Act.put];replace r4:=k.ro r4;replace r10:=k.ro r10;replace rE:=k.ro rE;replace r13:=k.ro r13;replace rW:=k.ro rW;replace rP:=k.ro rP;replace hW:=hW.on k (fun j hj=>by simpa using hWx17 j hj);replace hP:=hP.on k (fun j hj=>by simpa using hPx17 j hj);replace r16:=k.ro r16;replace rY:=k.ro rY;replace sb:=kk sb k;clear k;refine Zb ?_;clear hto1;iterate 2 go_step
     refine YL (by kernel_rfl) [7] [(0,false),(1,false),(2,false),(3,false),(4,false),(6,false),(5,true),(7,true)] ?_ (by kernel_rfl);have or10:=r10;have or16:=r16;have cb:=Y8 sb;refine e_m ?_;simp only[pv];refine Y9 (by rfl) 3 _ rfl _ (0) rfl (fun _ hb=>(or16.belowAll hb).r) (.int .i64 k) rfl bG0 ?_;simp only[pv];refine Y9 (by rfl) 32 _ rfl _ (0) rfl (fun _ hb=>(or10.belowAll hb).r) (.slice (some ⟨gE,0,none⟩) N cr) rfl isAgg32 ?_;simp only[pv];refine e_v (.int .i64 (N:Nat)) (n_l (some ⟨gE,0,none⟩) N cr XR) ?_;simp only[pv];refine e_v (.func (.func 46) #[] #[.pointer (some ⟨g4,0,none⟩),.pointer (some ⟨g13,0,none⟩),.pointer (some ⟨g17,0,none⟩)]) (Yr _ _ rfl _ rfl) ?_;simp only[pv];refine e_v (.pointer (some ⟨gP,0+k*1,none⟩)) ((Zw 30 _ _ rfl (gP) (0) (n) (n) rfl (k) rfl (hlt) _ cR0 1 aO0)) ?_;simp only[pv];refine XM (by rfl) 44 _ _ rfl func44 (by kernel_rfl) #[.int .i64 N,.func (.func 46) #[] #[.pointer (some ⟨g4,0,none⟩),.pointer (some ⟨g13,0,none⟩),.pointer (some ⟨g17,0,none⟩)]] rfl ?_;intro wa5 hqb;replace r4:=r4.belowAll hqb;replace r10:=r10.belowAll hqb;replace rE:=rE.belowAll hqb;replace r13:=r13.belowAll hqb;replace rW:=rW.belowAll hqb;replace rP:=rP.belowAll hqb;replace hW:=hW.below hqb;replace hP:=hP.below hqb;replace r16:=r16.belowAll hqb;replace r17:=r17.belowAll hqb;replace rY:=rY.belowAll hqb;replace sb:=b_o sb hqb;replace cb:=b_o cb hqb;clear hqb;refine(hto2 _ g17 gY sb r4 r13 r17 rW hW rY).mono ?_;rintro _ wb5 ⟨gZ,rfl,nZ,rZ,hb⟩;refine⟨_,rfl,fun _=>Zk cb (c_ _) hb,?_⟩;simp only[pv];have dPxZ:=l_l rP.lt nZ;have hPxZ:=fun j hj=>bV0 (l_ (hP.lt (j:=j) hj) nZ)
     have bZ:=f_ sb.size nZ;clear nZ;replace r4:=r4.belowAll hb;replace r10:=r10.belowAll hb;replace rE:=rE.belowAll hb;replace r13:=r13.belowAll hb;replace rW:=rW.belowAll hb;replace rP:=rP.belowAll hb;replace hW:=hW.below hb;replace hP:=hP.below hb;replace r16:=r16.belowAll hb;replace r17:=r17.belowAll hb;replace rY:=rY.belowAll hb;replace sb:=b_o sb hb;replace cb:=b_o cb hb;clear hb;refine T3 (by rfl) 22 _ _ rfl _ (0+k*1) rfl rP (.slice (some ⟨gZ,0,none⟩) N N) rfl rfl rfl Yy (by rw[Xb];omega) ((vsC n (fun j=>if j<k+1 then .slice (some ⟨upR PR k gZ j,0,none⟩) N N else .slice none 0 0))) (hpP gZ) ?_;intro wa7 hqb;replace r4:=r4.belowAll hqb;replace r10:=r10.belowAll hqb;replace rE:=rE.belowAll hqb;replace r13:=r13.belowAll hqb;replace rW:=rW.belowAll hqb;replace rP:=rP.belowAll hqb;replace hW:=hW.below hqb;replace hP:=hP.below hqb;replace r16:=r16.belowAll hqb;replace r17:=r17.belowAll hqb;replace rY:=rY.belowAll hqb;replace rZ:=rZ.belowAll hqb;replace sb:=b_o sb hqb;clear hqb rP;intro wb7 rP k;refine⟨fun h=>(by cases h),?_⟩;simp only[Act.put];replace r4:=k.ro r4;replace r10:=k.ro r10;replace rE:=k.ro rE;replace r13:=k.ro r13;replace rW:=k.ro rW;replace hW:=hW.on k (fun j hj=>by simpa using hWxP j hj);replace hP:=hP.on k (fun j hj=>by simpa using hPxP j hj);replace r16:=k.ro r16;replace r17:=k.ro r17;replace rY:=k.ro rY;replace rZ:=k.ro rZ;replace sb:=sb.trans (k.below _ sb.size (by simp<;>omega));clear k;refine Vk ?_;intro wz hqb;replace r4:=r4.belowAll hqb;replace r10:=r10.belowAll hqb;replace rE:=rE.belowAll hqb;replace r13:=r13.belowAll hqb;replace rW:=rW.belowAll hqb;replace rP:=rP.belowAll hqb;replace hW:=hW.below hqb;replace hP:=hP.below hqb;replace r16:=r16.belowAll hqb;replace r17:=r17.belowAll hqb;replace rY:=rY.belowAll hqb;replace rZ:=rZ.belowAll hqb;replace sb:=b_o sb hqb;clear hqb cb or10 or16;have hP2:=hP.add hPxZ bZ rZ
     have hxP: ∀j,j<k+1->upR PR k gZ j≠gP:=fun j hj=>by
      by_cases e:j=k
      ·subst e;rw[Xd];omega
      ·rw[Y4 PR (show j<k by omega)];exact hPxP j (by omega)
     clear hto2 hP hpP;generalize upR PR k gZ=PR2 at*;iterate 2 go_step
     refine rp ?_;refine p_v _ (x_a k 1) ?_;refine p_m (Zb ?_);simp only[pv];go_wp2
     go_roundg x
     case measure=>omega
     case rel=>exact⟨k+1,PR2,by omega,rfl,r4,r10,rE,r13,rW,hW,rP,hP2,hxP,sb⟩
end
theorem we {Q:Nat}[NeZero Q](qq:FdQ Q){X:Nat->Nat}{N k:Nat}{Y:Nat->Nat->Nat}(hdd: ∀i j,i<N->j<N->i≠j->(fi (X i):Fin Q)≠fi (X j))(L:List (Fin Q))(hl:L.length<=N)(hY: ∀i,i<N->Y i k=(pev (fi (X i)) L).val)(j:Nat):rcD Q X Y N k j=(pco L j).val:=by
 unfold rcD;rw[Dc];have hw: ∀i,i<N->wtV (Q:=Q) X N N 0 j i=(pco (wtP X N i:List (Fin Q)) j).val:=fun i hi=>j_ (.inl hi)
 have e:(fi (smA (fun i=>wtV (Q:=Q) X N N 0 j i*Y i k) N):Fin Q)=pco L j:=by
  rw[J5,xD qq X N hdd L hl j];exact Y1 _ _ _ fun i hi=>by rw[hw i hi,hY i hi,Un,On,On]
 exact cY0 Fin.val e
theorem IK {n:Nat}{N:Nat->Nat}{M:Nat->Nat->Nat}(h: ∀i,i<n-> ∀j,j<N i->M i j<2^256):(xmB n N M).length<=10000:=by
 unfold xmB;by_cases hT:tbB n N=true
 ·rw[j_ hT];obtain⟨n1,n2,k1,k2,hN⟩:=Df hT;have hk:n*N 0<=25*7:=L_ n2 k2
  have:=UN (G:=fun t=>M (t/N 0) (t%N 0)) (t:=n*N 0) (fun t ht=>by
   have h1:t/N 0<n:=aE0 (by rw[t_];exact ht)
   exact h _ h1 _ (by rw[hN _ h1];exact m_ _ (by omega)))
  show(xmT _ _).length+1+1<=10000
  omega
 ·rw[i_ hT];exact eU0 _
theorem Ep (ab:Option Addr)(n c:Nat)(S:Nat->Value)(gb ob:Nat)(bcs:Array Value)(tb:TypeId)(N:Nat->Nat)(M:Nat->Nat->Nat)(w:World)(hn:n<4611686018427387904)(kT:KT w)(hna:VsAt w ab n S gb ob bcs tb)(hS: ∀i,i<n->M4 w (S i) (N i) (M i)):
  Calls prog 29 #[.slice ab n c] w fun e w'=>e= .returned (.string ⟨(sha (xmB n N M)).toArray⟩)/\Below w.heap.size w w':=by
 have hby:=fun w' (hb:Below w.heap.size w w')=>S7 ab n c S gb ob bcs tb N M w' hn (hna.below hb) (fun i hi=>(hS i hi).below hb)
 have hL:=IK (n:=n) (N:=N) (M:=M) (fun i hi j hj=>by
  obtain⟨_,_,_,_,_,_,_,h⟩:=hS i hi
  exact h.lt j hj)
 have hsu:=fun w' (hb:Below w.heap.size w w')=>Ej (xmB n N M) w' (by omega) (kT.below hb)
 clear hS hna hL;generalize xmB n N M=L at*
 go_enter func29,ntmps29
 have sb:=YG w;iterate 2 go_step
 refine rp ?_;refine YP (by rfl) (.inr rfl) rfl ?_;simp only[pv];refine Zb ?_;iterate 3 go_step
 refine rp ?_;refine p_m ?_;simp only[pv];refine p_c 28 func28 #[.slice ab n c] (hby _ sb) ?_;intro z1001 k;simp only[pv];replace sb:=kk sb k;clear k;refine p_c 74 func74 #[.string ⟨(L).toArray⟩] (hsu _ sb) ?_;intro z1002 k;simp only[pv];replace sb:=kk sb k;clear k;refine p_a (Zb ?_);simp only[pv];go_wp2;go_ret;exact⟨rfl,sb⟩
theorem Rb (a1 a2:Option Addr)(n c1 c2:Nat)(S1 S2:Nat->Value)(g1 o1 g2 o2:Nat)(b1 b2:Array Value)(t1 t2:TypeId)(N:Nat->Nat)(M:Nat->Nat->Nat)(w:World)(hn:n<4611686018427387904)(hN: ∀i,i<n->N i<4611686018427387904)(h1:VsAt w a1 n S1 g1 o1 b1 t1)(h2:VsAt w a2 n S2 g2 o2 b2 t2)(hS1: ∀i,i<n->M4 w (S1 i) (N i) (M i))(hS2: ∀i,i<n->M4 w (S2 i) (N i) (M i)):
  Calls prog 11 #[.slice a1 n c1,.slice a2 n c2] w fun e w'=>e= .returned (.bool true)/\Below w.heap.size w w':=by
 have H1:Hid (VsAt w a1 n S1 g1 o1 b1 t1):=h1;have H2:Hid (VsAt w a2 n S2 g2 o2 b2 t2):=h2;clear h1 h2
 go_enter func11,ntmps11
 have sb:=YG w;iterate 2 go_step
 refine rp ?_;refine p_v (.bool false) (fun _=>rfl) (Zb ?_);simp only[pv];iterate 4 go_step
 refine rp ?_;refine p_m ?_;simp only[pv];refine p_v _ (n_l a1 n c1 WY) ?_;refine p_m ?_;simp only[pv];refine p_v _ (n_l a2 n c2 WY) ?_;simp only[pv];refine p_v _ (ZX .i64 _ _ _ _ rfl n n rfl rfl false (by rw[d_ rfl];rfl)) (Zb ?_);simp only[pv];iterate 8 go_step
 refine rp ?_;refine p_v (.int .i64 0) (fun _=>rfl) (Zb ?_);simp only[pv]
 go_wp2_with fail
 go_loopg [5] n (fun x s5 wr=> ∃i:Nat,i+x=n/\s5= .int .i64 i/\Below w.heap.size w wr)
 case atStart=>exact⟨0,by omega,rfl,sb⟩
 case round=>
  clear sb;obtain⟨i,hi,rfl,sb⟩:=hrel
  cases gk with
  |zero=>
   obtain rfl:i=n:=by omega
   clear hi hS1 hS2 H1 H2;iterate 2 go_step
   refine rp ?_;refine p_m ?_;refine p_m ?_;simp only[pv];refine p_v _ (n_l a1 i c1 WY) ?_;refine p_v _ (Xe i i) (Zb ?_);simp only[pv];iterate 7 go_step
   refine rp ?_;refine p_v (.bool true) (fun _=>rfl) (Zb ?_);simp only[pv];go_wp2;go_ret;exact⟨rfl,sb⟩
  |succ x=>
   have hlt:i<n:=by omega
   obtain h0|⟨rfl,r1,hb1⟩:=(H1.out.below sb).at'
   ·exact absurd h0 (by omega)
   obtain h0|⟨rfl,r2,hb2⟩:=(H2.out.below sb).at'
   ·exact absurd h0 (by omega)
   have hi1:=hb1 i hlt;have hi2:=hb2 i hlt;obtain⟨e1,d1,x1,y1,z1,u1,q1,hn1⟩:=hS1 i hlt;obtain⟨e2,d2,x2,y2,z2,u2,q2,hn2⟩:=hS2 i hlt;rw[q1]at hi1;rw[q2]at hi2;have hsa:=fun w' (hb:Below w.heap.size w w')=>Us (N i) d1 d2 e1 e2 (M i) x1 y1 x2 y2 z1 z2 u1 u2 w' (by have:=hN i hlt;omega) (hn1.below hb) (hn2.below hb)
   clear hb1 hb2 hn1 hn2 q1 q2 hS1 hS2;iterate 2 go_step
   refine rp ?_;refine p_m ?_;refine p_m ?_;simp only[pv];refine p_v _ (n_l (some ⟨g1,o1,none⟩) n c1 WY) ?_;refine p_v _ (X4 i n) (Zb ?_);simp only[pv];iterate 9 go_step
   refine ZD (by kernel_rfl) (by kernel_rfl) ?_;refine q_m ?_;refine q_m ?_;simp only[pv];refine q_x i hlt bH0 aO0 ?_;simp only[pv];refine Ym (by rfl) 22 _ rfl _ (o1+i*1) rfl r1 (.slice e1 (N i) d1) hi1 aD0 ?_;refine q_m ?_;refine q_m ?_;simp only[pv];refine q_x i hlt bH0 aO0 ?_;simp only[pv];refine Ym (by rfl) 22 _ rfl _ (o2+i*1) rfl r2 (.slice e2 (N i) d2) hi2 aD0 ?_;simp only[pv];refine q_k 17 func17 #[.slice e1 (N i) d1,.slice e2 (N i) d2] (fun w' hb=>hsa w' (Zk sb (c_ _) hb)) ?_;simp only[pv];refine q_v _ (Zz _ _ rfl true rfl) ?_;simp only[pv];refine ZR ?_;intro w6 hqb;replace sb:=b_o sb hqb;clear hqb;iterate 6 go_step
   refine rp ?_;refine p_m ?_;simp only[pv];refine p_v _ (x_a i 1) ?_;refine p_a (Zb ?_);simp only[pv];go_wp2
   go_roundg x
   case measure=>omega
   case rel=>exact⟨i+1,by omega,rfl,sb⟩
def aCF:Nat->Nat:=fun k=>leG^(pco coF k).val%1055500680322183127
theorem Pu (k:Nat):aCF k<2^256:=E_ (m_ _ (by decide)) (by decide)
theorem Ax (S:Nat->Value):vsC 1 S=#[S 0]:=rfl
theorem Rc {w:World}{g:Nat}{v:Value}{t:TypeId}(r:Row w g #[v] t):VsAt w (some ⟨g,0,none⟩) 1 (fun _=>v) g 0 #[v] t:=
 ⟨.inr ⟨rfl,r.r,fun i hi=>by
  obtain rfl:i=0:=(by omega)
  rfl⟩⟩
theorem Er:Db 1055500680322183127 1966023127 aCF 2=true:=by
 have:=Dd R3 coF 2 (by decide) (by decide) (by decide) 3 11 (by decide) (by decide);rw[show decide (11=(pev (fi 3) coF).val)=true by decide+kernel]at this;unfold BM at this;simp only[s_]at this;exact this.2.2
theorem Ay (i Y:Nat)(h1:1<=i)(h7:i<=7):BM 1055500680322183127 1966023127 leG aCF 2 (i:Nat) Y=decide (Y=(pev (fi i) coF).val):=Dd R3 coF 2 (by decide) (by decide) (by decide) i Y h1 h7
section
variable {w:World}{g gr gf:Nat}
theorem yJ (h:GrpAt w g gr gf 1055500680322183127 1966023127 leG): ∀w',Below w.heap.size w w'->Calls prog 58 #[.pointer (some ⟨g,0,none⟩)] w' (Rt (.bool true) w'):=fun w' hb=>NS _ (some ⟨gf,0,none⟩) _ _ _ (some ⟨gr,0,none⟩) w' (h.below hb).kn
theorem yK (h:GrpAt w g gr gf 1055500680322183127 1966023127 leG)(A gU:Nat)(hA:A<1000)(rU:Row w gU (Zc A) 57): ∀w',Below w.heap.size w w'->Calls prog 34 #[.pointer (some ⟨g,0,none⟩),.slice (some ⟨gU,0,none⟩) 1 1] w' (Rt (.bool true) w'):=fun w' hb=>by
 have hn:=Y7 rU (by omega)
 exact Ir _ (some ⟨gU,0,none⟩) 1 1 _ gU 0 _ _ (fun _=>true) w' (by decide) (hn.below hb) (fun k hk w2 hb2=>by
  have:=Jp A g gr gf _ _ _ w2 (by omega) R3.rQ (h.below (Zk hb (c_ _) hb2));rw[d_ (show A<1966023127 by omega)]at this;obtain rfl:k=0:=(by omega)
  exact this)
theorem Az (h:GrpAt w g gr gf 1055500680322183127 1966023127 leG){gU gV:Nat}(rU:Row w gU (Zc 5) 57)(rV:Row w gV (Zc 2) 57):
  Calls prog 9 #[.pointer (some ⟨g,0,none⟩),.int .i64 1,.slice (some ⟨gU,0,none⟩) 1 1,.slice (some ⟨gV,0,none⟩) 1 1] w fun e w'=> ∃(gM gC gT:Nat) (y:Nat->Nat),e= .returned (.tuple #[.slice (some ⟨gM,0,none⟩) 1 1,.slice (some ⟨gT,0,none⟩) 4 4,.int .i64 0])/\Row w' gM #[.slice (some ⟨gC,0,none⟩) 2 2] 22/\Row w' gC (nsC 2 aCF) 57/\Row w' gT (esC 2 4 (fun j=>ptC ((j+1:Nat):Int) (.slice (some ⟨y j,0,none⟩) 1 1))) 64/\Row w' (y 1) (Zc 9) 57/\Row w' (y 2) (Zc 11) 57/\Row w' (y 3) (Zc 13) 57/\Below w.heap.size w w':=by
 refine(IJ 1 1 1 1 1 (fun _=>5) (fun _=>2) gU 0 gV 0 _ _ _ _ (by decide) (by decide) (by decide) rfl (c_ _) (c_ _) R3 h (Y7 rU (by decide)) (Y7 rV (by decide)) (yK h 5 gU (by decide) rU) (yK h 2 gV (by decide) rV)).mono ?_;rintro e w' ⟨gM,R,gT,Y,rfl,_,_,rM,hM,rT,hY,hb⟩;have r0:=hM.row 0 (by decide);have r1:=hY.row 1 (by decide);have r2:=hY.row 2 (by decide);have r3:=hY.row 3 (by decide);have hL:dlL 1966023127 1 (fun _=>5) (fun _=>2) 0=coF:=rfl
 rw[Yw 1 _ (fun _=>9) (fun b hb=>by
  obtain rfl:b=0:=(by omega);show(pev (fi (1+1)) (dlL 1966023127 1 (fun _=>5) (fun _=>2) 0)).val=9
  rw[hL];decide+kernel),Bo]at r1
 rw[Yw 1 _ (fun _=>11) (fun b hb=>by
  obtain rfl:b=0:=(by omega);show(pev (fi (2+1)) (dlL 1966023127 1 (fun _=>5) (fun _=>2) 0)).val=11
  rw[hL];decide+kernel),Bo]at r2
 rw[Yw 1 _ (fun _=>13) (fun b hb=>by
  obtain rfl:b=0:=(by omega);show(pev (fi (3+1)) (dlL 1966023127 1 (fun _=>5) (fun _=>2) 0)).val=13
  rw[hL];decide+kernel),Bo]at r3
 rw[Ax]at rM;exact⟨gM,R 0,gT,Y,rfl,rM,r0,rT,r1,r2,r3,hb⟩
theorem IL (h:GrpAt w g gr gf 1055500680322183127 1966023127 leG){gM gC:Nat}(rM:Row w gM #[.slice (some ⟨gC,0,none⟩) 2 2] 22)(rC:Row w gC (nsC 2 aCF) 57):Calls prog 26 #[.pointer (some ⟨g,0,none⟩),.int .i64 1,.slice (some ⟨gM,0,none⟩) 1 1] w (Rt (.bool true) w):=
 FN _ (some ⟨gM,0,none⟩) 1 1 1 _ gM 0 _ _ (fun _=>2) (fun _=>true) w (by decide) (by decide) (by decide) (Rc rM) (fun k hk=>⟨_,_,rfl,fun w' hb=>by
  have:=NN (c:=2) R3 (h.below hb) ((YA rC (fun i _=>Pu i)).below hb);rw[Er]at this
  exact this⟩)
theorem Mb (h:GrpAt w g gr gf 1055500680322183127 1966023127 leG){gM gC y:Nat}(rM:Row w gM #[.slice (some ⟨gC,0,none⟩) 2 2] 22)(rC:Row w gC (nsC 2 aCF) 57)(i Y:Nat)(h1:1<=i)(h7:i<=7)(hY:Y<1000)(rY:Row w y (Zc Y) 57)(b:Bool)(hb:decide (Y=(pev (fi i:Fin 1966023127) coF).val)=b):Calls prog 23 #[.pointer (some ⟨g,0,none⟩),.slice (some ⟨gM,0,none⟩) 1 1,.agg (ptC (i:Nat) (.slice (some ⟨y,0,none⟩) 1 1))] w (Rt (.bool b) w):=by
 have:=BZ _ (some ⟨gM,0,none⟩) 1 1 _ gM 0 _ _ (i:Nat) (some ⟨y,0,none⟩) 1 1 _ y 0 _ _ (fun _=>b) w (by decide) rfl (Rc rM) (Y7 rY (by omega)) (yJ h) (fun k hk=>⟨_,_,_,rfl,fun w' hb'=>by
  have:=Fy (c:=2) R3 (h.below hb') ((YA rC (fun i _=>Pu i)).below hb') (i:Nat) Y (by omega);rw[Ay i Y h1 h7,hb]at this;obtain rfl:k=0:=(by omega)
  exact this⟩)
 cases b<;>exact this
def aI:Nat->Int:=fun k=>if k=0 then 4 else if k=1 then 1 else 2
def aB:Nat->Bool:=fun k=> !decide (k=1)
theorem wg:hsL aI aB 2 3=[0,2]:=by decide
def aX:Nat->Nat:=fun j=>if j=0 then 4 else 2
def aY:Nat->Nat->Nat:=fun j _=>if j=0 then 13 else 9
def aL (a b c:Nat):Array Value:=ptC 4 (.slice (some ⟨a,0,none⟩) 1 1)++ptC 1 (.slice (some ⟨b,0,none⟩) 1 1)++ptC 2 (.slice (some ⟨c,0,none⟩) 1 1)
theorem yL:apB 0 (fun k=>((aX k:Nat):Int)) 2=true:=by decide
theorem AA (a b c k:Nat)(hk:k=2):Instr.fill (fun i=>some (i*k,k)) ((Array.range (3*k)).map ((Value.agg (ptC 0 (.slice none 0 0))).cells[· %(Value.agg (ptC 0 (.slice none 0 0))).cells.size]!)) [(0,.agg (ptC 4 (.slice (some ⟨a,0,none⟩) 1 1))),(1,.agg (ptC 1 (.slice (some ⟨b,0,none⟩) 1 1))),(2,.agg (ptC 2 (.slice (some ⟨c,0,none⟩) 1 1)))]=some (aL a b c):=by
 subst hk
 kernel_rfl
theorem yM (h:GrpAt w g gr gf 1055500680322183127 1966023127 leG){gM gC gL y1 y3 g9:Nat}(rM:Row w gM #[.slice (some ⟨gC,0,none⟩) 2 2] 22)(rC:Row w gC (nsC 2 aCF) 57)(rL:Row w gL (aL y3 g9 y1) 64)(r1:Row w y1 (Zc 9) 57)(r3:Row w y3 (Zc 13) 57)(r9:Row w g9 (Zc 9) 57):
  Calls prog 15 #[.pointer (some ⟨g,0,none⟩),.int .i64 1,.slice (some ⟨gM,0,none⟩) 1 1,.slice (some ⟨gL,0,none⟩) 3 3] w fun e w'=> ∃gP gD,e= .returned (.tuple #[.slice (some ⟨gP,0,none⟩) 1 1,.int .i64 0])/\Row w' gP #[.slice (some ⟨gD,0,none⟩) 2 2] 22/\Row w' gD (nsC 2 (fun j=>(pco coF j).val)) 57/\Below w.heap.size w w':=by
 have hd: ∀i j,i<2->j<2->i≠j->(fi (aX i):Fin 1966023127)≠fi (aX j):=fun i j=>xI R3 yL i j
 have hE:ElsAt 2 w (some ⟨gL,0,none⟩) 3 (fun k=>ptC (aI k) (.slice (if k=0 then some ⟨y3,0,none⟩else if k=1 then some ⟨g9,0,none⟩else some ⟨y1,0,none⟩) ((fun _=>1) k) ((fun _=>1) k))) gL 0 (aL y3 g9 y1) 64:=⟨.inr ⟨rfl,rL.r,fun i hi j v hv=>by
  obtain rfl|rfl|rfl:i=0∨i=1∨i=2:=(by omega)
  all_goals
   match j,hv with
   |0,hv=>exact hv
   |1,hv=>exact hv
   |j+2,hv=>cases hv⟩⟩
 have hh:=fun w' (hb:Below w.heap.size w w')=>Eo (some ⟨g,0,none⟩) (some ⟨gM,0,none⟩) (some ⟨gL,0,none⟩) 1 1 3 3 2 aI _ (fun _=>1) (fun _=>1) aB gL 0 _ _ w' (by decide) (by decide) (hE.below hb) (fun k hk w2 hb2=>by
  have hbb:=Zk hb (c_ _) hb2;obtain rfl|rfl|rfl:k=0∨k=1∨k=2:=(by omega)
  ·exact Mb (h.below hbb) (rM.belowAll hbb) (rC.belowAll hbb) 4 13 (by decide) (by decide) (by decide) (r3.belowAll hbb) true (by decide+kernel)
  ·exact Mb (h.below hbb) (rM.belowAll hbb) (rC.belowAll hbb) 1 9 (by decide) (by decide) (by decide) (r9.belowAll hbb) false (by decide+kernel)
  ·exact Mb (h.below hbb) (rM.belowAll hbb) (rC.belowAll hbb) 2 9 (by decide) (by decide) (by decide) (r1.belowAll hbb) true (by decide+kernel))
 rw[wg]at hh
 refine(Lw (some ⟨gM,0,none⟩) (some ⟨gL,0,none⟩) 1 1 3 3 1 2 aX (fun j=>if j=0 then some ⟨y3,0,none⟩else some ⟨y1,0,none⟩) (fun _=>1) aY (fun j=>if j=0 then y3 else y1) (fun _=>0) (fun j=>Zc (aY j 0)) (fun _=>57) (by decide) (by decide) rfl (by decide) (by decide) (fun j _=>by unfold aX;split<;>decide) yL hd R3.rQ h (fun j hj=>by
  obtain rfl|rfl:j=0∨j=1:=(by omega)
  ·exact Y7 r3 (by decide)
  ·exact Y7 r1 (by decide)) (fun w' hb=>IL (h.below hb) (rM.belowAll hb) (rC.belowAll hb)) (fun w' hb=>by
  refine(hh w' hb).mono ?_;rintro e w2 ⟨ar,cr,rfl,hO,hb2⟩;refine⟨ar,cr,rfl,?_,hb2⟩;unfold Te at hO ⊢
  rw[Vl (D:=fun j=>ptC ((aX j:Nat):Int) (.slice (if j=0 then some ⟨y3,0,none⟩else some ⟨y1,0,none⟩) 1 1)) (fun j hj=>by
   obtain rfl|rfl:j=0∨j=1:=(by have:j<2:=hj;omega)
   ·rfl
   ·rfl)]at hO
  exact hO)).mono ?_
 rintro e w' ⟨gP,PR,rfl,_,rP,hP,hb⟩;have r0:=hP.row 0 (by decide)
 rw[Yw 2 _ (fun j=>(pco coF j).val) (fun j _=>we R3.rQ hd coF (by decide) (fun i hi=>by
  obtain rfl|rfl:i=0∨i=1:=(by omega)
  ·show 13=(pev (fi 4) coF).val;decide+kernel
  ·show 9=(pev (fi 2) coF).val;decide+kernel) j)]at r0
 rw[Ax]at rP;exact⟨gP,PR 0,rfl,rP,r0,hb⟩
theorem Mc {gC:Nat}(rC:Row w gC (nsC 2 aCF) 57):M4 w (.slice (some ⟨gC,0,none⟩) 2 2) 2 aCF:=⟨_,_,_,_,_,_,rfl,YA rC (fun i _=>Pu i)⟩
def aBy:List UInt8:=xmB 1 (fun _=>2) (fun _=>aCF)
theorem Ds:aBy=xmL 1 2 (fun t=>aCF (t%2)):=rfl
theorem wh {gM gC:Nat}(rM:Row w gM #[.slice (some ⟨gC,0,none⟩) 2 2] 22)(rC:Row w gC (nsC 2 aCF) 57):Calls prog 28 #[.slice (some ⟨gM,0,none⟩) 1 1] w (Rt (.string ⟨(aBy).toArray⟩) w):=
 S7 (some ⟨gM,0,none⟩) 1 1 _ gM 0 _ _ (fun _=>2) (fun _=>aCF) w (by decide) (Rc rM) (fun _ _=>Mc rC)
theorem yN {gM gC:Nat}(kT:KT w)(rM:Row w gM #[.slice (some ⟨gC,0,none⟩) 2 2] 22)(rC:Row w gC (nsC 2 aCF) 57):Calls prog 29 #[.slice (some ⟨gM,0,none⟩) 1 1] w (Rt (.string ⟨(sha aBy).toArray⟩) w):=
 Ep (some ⟨gM,0,none⟩) 1 1 _ gM 0 _ _ (fun _=>2) (fun _=>aCF) w (by decide) kT (Rc rM) (fun _ _=>Mc rC)
theorem AB (w:World):Calls prog 27 #[.string ⟨(aBy).toArray⟩] w fun e w'=> ∃gN gD,e= .returned (.tuple #[.slice (some ⟨gN,0,none⟩) 1 1,.int .i64 0])/\Row w' gN #[.slice (some ⟨gD,0,none⟩) 2 2] 22/\Row w' gD (nsC 2 aCF) 57/\Below w.heap.size w w':=by
 have hv:XmV 1 2 (fun t=>aCF (t%2)):=⟨by decide,by decide,by decide,by decide,fun t _=>Pu _⟩;have hl:=IK (n:=1) (N:=fun _=>2) (M:=fun _=>aCF) (fun _ _ j _=>Pu j);refine(In aBy w (by unfold aBy;omega)).mono ?_;rintro e w' ⟨⟨n,k,G,gN,R,hV,hE,rfl,_,rN,hR⟩|⟨hno,_⟩,hb⟩
 ·rw[Ds]at hE;obtain⟨rfl,rfl,hG⟩:=BU hv hV hE;have r0:=hR.row 0 (by decide)
  rw[Yw 2 _ aCF (fun j hj=>by
   show G (0*2+j)=aCF j
   rw[<-hG (0*2+j) (by omega)];show aCF ((0*2+j)%2)=aCF j
   rw[show(0*2+j)%2=j by omega])]at r0
  rw[Ax]at rN;exact⟨gN,R 0,rfl,rN,r0,hb⟩
 ·exact absurd Ds (hno _ _ _ hv)
theorem AC {gM gC gN gD:Nat}(rM:Row w gM #[.slice (some ⟨gC,0,none⟩) 2 2] 22)(rC:Row w gC (nsC 2 aCF) 57)(rN:Row w gN #[.slice (some ⟨gD,0,none⟩) 2 2] 22)(rD:Row w gD (nsC 2 aCF) 57):Calls prog 11 #[.slice (some ⟨gN,0,none⟩) 1 1,.slice (some ⟨gM,0,none⟩) 1 1] w (Rt (.bool true) w):=
 Rb (some ⟨gN,0,none⟩) (some ⟨gM,0,none⟩) 1 1 1 _ _ gN 0 gM 0 _ _ _ _ (fun _=>2) (fun _=>aCF) w (by decide) (fun _ _=>by decide) (Rc rN) (Rc rM) (fun _ _=>Mc rD) (fun _ _=>Mc rC)
end
theorem Tm (n:Nat)(w:World)(h:(n:Int)<9223372036854775808):
  Calls prog 25 #[.int .i64 n] w fun e w'=>e= .returned (.agg (Zc n))/\Below w.heap.size w w':=by
 have hin:=fun w'=>Vp (n:Int) w' h
 rw[q_]at hin;clear h
 go_enter func25,ntmps25
 iterate 2 go_step
 refine rp ?_;refine ZT (by rfl) 57 rfl _ Zp ?_;intro g2 z0 n0 r2 k;simp only[pv];have b2:w.heap.size<=g2:=n0;clear n0;have sb:=k_b k;clear k;refine Zb ?_;iterate 3 go_step
 refine rp ?_;refine p_m ?_;simp only[pv];refine p_c 40 iQ0 #[.int .i64 n] (hin _) ?_;intro z1001 k;simp only[pv];replace r2:=k.ro r2;replace sb:=kk sb k;clear k;refine p_p r2 n ?_;clear r2;intro z1002 r2 k;simp only[Act.put];replace sb:=kk sb k;clear k;refine Zb ?_;go_wp2;exact ZM rfl _ rfl r2 4 _ b_ (by exact Zd) rfl ⟨rfl,sb⟩
theorem Lx (a0:Int)(GG PP QQ:Nat)(LK:Array Value)(w:World)
  (hpk: ∀w',Calls prog 30 #[.int .i64 a0] w' fun e w2=> ∃g,e= .returned (.agg (paC (some ⟨g,0,none⟩) 3 3 GG))/\w'.heap.size<=g/\Row w2 g LK 106/\Below w'.heap.size w' w2)
  (hnw: ∀w' x,Row w' x LK 106->Calls prog 19 #[.agg (paC (some ⟨x,0,none⟩) 3 3 GG)] w' fun e w2=> ∃g gr gf,e= .returned (.tuple #[.pointer (some ⟨g,0,none⟩),.int .i64 0])/\GrpAt w2 g gr gf PP QQ GG/\Below w'.heap.size w' w2)
  (hof: ∀w' x,Row w' x LK 106->Calls prog 31 #[.agg (paC (some ⟨x,0,none⟩) 3 3 GG)] w' (Rt (.agg (smC (PP:Nat) (QQ:Nat) (GG:Nat))) w')):
  Calls prog 8 #[.int .i64 a0] w fun e w'=> ∃g gr gf,e= .returned (.tuple #[.pointer (some ⟨g,0,none⟩),.agg (smC (PP:Nat) (QQ:Nat) (GG:Nat)),.bool true])/\GrpAt w' g gr gf (PP) (QQ) (GG)/\Below w.heap.size w w':=by
 go_enter func8,ntmps8
 have sb:=YG w;iterate 2 go_step
 refine rp ?_;refine p_v (.pointer none) (fun _=>rfl) ?_;simp only[pv];refine ZT (by rfl) 27 rfl _ R1 ?_;intro g3 z1 n0 r3 k;simp only[pv];have b3:=f_ sb.size n0;clear n0;replace sb:=kk sb k;clear k;refine p_v (.bool false) (fun _=>rfl) (Zb ?_);simp only[pv];iterate 3 go_step
 refine rp ?_;refine p_m ?_;simp only[pv];refine p_f 30 func30 #[.int .i64 a0] (hpk _) ?_;rintro _ z1001 ⟨gL,rfl,nL,rL,hb⟩;refine⟨_,rfl,?_⟩;simp only[pv];have d3xL:=l_l r3.lt nL;clear nL;have k:=Kept.ofBelow hb;clear hb;replace r3:=k.ro r3;replace sb:=kk sb k;clear k;refine ZT (by rfl) 59 rfl _ TL ?_;intro g5 z1002 n0 r5 k;simp only[pv];have d3x5:=l_l r3.lt n0;have dLx5:=l_l rL.lt n0;have b5:=f_ sb.size n0;clear n0;replace r3:=k.ro r3;replace rL:=k.ro rL;replace sb:=kk sb k;clear k;refine Xg (by rfl) 59 _ _ rfl _ rfl r5 (paC (some ⟨gL,0,none⟩) 3 3 GG) rfl (by exact Xy) (by rfl) (QR _ _ _ _) ?_;clear r5;intro z1003 r5 k;simp only[Act.put];replace r3:=k.ro r3;replace rL:=k.ro rL;replace sb:=kk sb k;clear k;refine Zb ?_;iterate 3 go_step
 refine rp ?_;refine ZJ (by rfl) 59 _ rfl _ 0 rfl r5.r _ (Yi _) _ aY0 rfl Xy ?_;simp only[pv];refine p_f 19 func19 #[.agg (paC (some ⟨gL,0,none⟩) 3 3 GG)] (hnw _ gL rL) ?_;rintro _ z2001 ⟨g,gr,gf,rfl,⟨rG,rR,rF⟩,hb⟩;refine⟨_,rfl,?_⟩;simp only[pv];have k:=Kept.ofBelow hb;clear hb;replace r3:=k.ro r3;replace r5:=k.ro r5;replace rL:=k.ro rL;replace sb:=kk sb k;clear k;refine p_m ?_;refine p_e ?_;refine p_e ?_;refine p_a ?_;refine p_a (Zb ?_);simp only[pv];have dG:g≠g3:=J8 rG r3 (by decide);have dR:gr≠g3:=J8 rR r3 (by decide);have dF:gf≠g3:=J8 rF r3 (by decide);iterate 3 go_step
 refine rp ?_;refine p_m ?_;simp only[pv];refine ZJ (by rfl) 59 _ rfl _ 0 rfl r5.r _ (Yi _) _ aY0 rfl Xy ?_;simp only[pv];refine p_c 31 func31 #[.agg (paC (some ⟨gL,0,none⟩) 3 3 GG)] (hof _ gL rL) ?_;intro z3002 k;simp only[pv];replace r3:=k.ro r3;replace r5:=k.ro r5;replace rL:=k.ro rL;replace rG:=k.ro rG;replace rR:=k.ro rR;replace rF:=k.ro rF;replace sb:=kk sb k;clear k;refine p_m ?_;simp only[pv];refine p_v _ (ZK .i64 _ _ _ _ rfl 0 0 rfl rfl true rfl) ?_;refine p_a ?_;simp only[pv];refine Xg (by rfl) 27 _ _ rfl _ rfl r3 (smC (PP:Nat) (QQ:Nat) (GG:Nat)) rfl (by exact Ws) (by rfl) (NL _ _ _) ?_;clear r3;intro z3006 r3 k;simp only[Act.put];replace r5:=k.ro r5;replace rL:=k.ro rL;replace rG:=k.ro rG;replace rR:=k.ro rR;replace rF:=k.ro rF;replace sb:=kk sb k;clear k;refine p_a (Zb ?_);simp only[pv];go_wp2;exact BP rfl _ rfl _ rfl r3 _ cE0 Ws _ rfl rfl ⟨g,gr,gf,rfl,⟨rG,rR,rF⟩,sb⟩
theorem Pv (a0:Int)(w:World):
  Calls prog 8 #[.int .i64 a0] w fun e w'=> ∃g gr gf,e= .returned (.tuple #[.pointer (some ⟨g,0,none⟩),.agg (smC (smP a0:Nat) (smQ a0:Nat) (smG a0:Nat)),.bool true])/\GrpAt w' g gr gf (smP a0) (smQ a0) (smG a0)/\Below w.heap.size w w':=by
 obtain⟨his,hlt,hG,hq62⟩:=EO (pkB a0);obtain⟨hp62,hg62⟩:=zT (pkB a0);exact Lx a0 (smG a0) (smP a0) (smQ a0) (Og 3 (lN (pk2 (pkB a0) otL leL)) Pz) w (Ju a0) (fun w' x r=>GN 3 3 (some ⟨x,0,none⟩) (pk2 (pkB a0) otG leG) _ _ x 0 _ _ w' (by decide) hG (TO r hlt) his) (fun w' x r=>Fl x _ _ (pk2 (pkB a0) otG leG) w' r hlt (E_ hp62 (by decide)) (E_ hq62 (by decide)) (E_ hg62 (by decide)))
theorem wi (y:Nat->Nat):(esC 2 4 (fun j=>ptC ((j+1:Nat):Int) (.slice (some ⟨y j,0,none⟩) 1 1)))[0+2*2+1]?=some (.slice (some ⟨y 2,0,none⟩) 1 1):=by
 rw[show 0+2*2+1=2*2+1 from rfl,UK (k:=2) (n:=4) (C:=(fun j=>ptC ((j+1:Nat):Int) (.slice (some ⟨y j,0,none⟩) 1 1))) (fun _=>rfl) 2 1 (by decide) (by decide)];rfl
theorem Sv (w:World)(kT:KT w):
  Calls prog 7 #[] w fun e w'=>e= .returned (.bool true)/\Below w.heap.size w w':=by
 obtain⟨ien,hien,hzn,hszn,_⟩:=Yn;obtain⟨ip,hip,hzp,hszp,hbyp⟩:=Tl
 have h11: ¬1*ien.size>2^24:=by rw[hszn];decide
 have h12: ¬1*ien.size=0:=by rw[hszn];decide
 have h21: ¬2*ien.size>2^24:=by rw[hszn];decide
 have h22: ¬2*ien.size=0:=by rw[hszn];decide
 have h31: ¬3*ip.size>2^24:=by rw[hszp];decide
 have h32: ¬3*ip.size=0:=by rw[hszp];decide
 have hl1:=fun A=>Vf A ien.size hszn
 have hl2:=fun A B=>KP A B ien.size hszn
 have hl3:=fun a b c=>AA a b c ip.size hszp
 have hsm:=fun w'=>Pv 0 w'
 rw[xA.1,xA.2.1,xA.2.2]at hsm;have hs11:=fun w' gA gB (rA:Row w' gA (Zc 11) 57) (rB:Row w' gB (Zc 11) 57)=>Us 1 1 1 (some ⟨gA,0,none⟩) (some ⟨gB,0,none⟩) (fun _=>11) gA 0 gB 0 _ _ _ _ w' (by decide) (Y7 rA (by decide)) (Y7 rB (by decide))
 have hs52:=fun w' gA gB (rA:Row w' gA (nsC 2 (fun j=>(pco coF j).val)) 57) (rB:Row w' gB (Zc 5++Zc 2) 57)=>Us 2 2 2 (some ⟨gA,0,none⟩) (some ⟨gB,0,none⟩) (xk 5 2) gA 0 gB 0 _ _ _ _ w' (by decide) ((YA rA (fun i _=>E_ (pco coF i).isLt (by decide))).congr (fun i hi=>by
  obtain rfl|rfl:i=0∨i=1:=(by omega)
  ·rfl
  ·rfl)) (Nq rB (by decide) (by decide))
 have o5:=fun w'=>Tm 5 w' (by decide)
 have o2:=fun w'=>Tm 2 w' (by decide)
 have o11:=fun w'=>Tm 11 w' (by decide)
 have o9:=fun w'=>Tm 9 w' (by decide)
 have hde:=fun w' g gr gf (h:GrpAt w' g gr gf 1055500680322183127 1966023127 leG) gU gV (rU:Row w' gU (Zc 5) 57) (rV:Row w' gV (Zc 2) 57)=>Az h rU rV
 have hma:=fun w' g gr gf (h:GrpAt w' g gr gf 1055500680322183127 1966023127 leG) gM gC (rM:Row w' gM #[.slice (some ⟨gC,0,none⟩) 2 2] 22) (rC:Row w' gC (nsC 2 aCF) 57)=>IL h rM rC
 have hho:=fun w' g gr gf (h:GrpAt w' g gr gf 1055500680322183127 1966023127 leG) gM gC y (rM:Row w' gM #[.slice (some ⟨gC,0,none⟩) 2 2] 22) (rC:Row w' gC (nsC 2 aCF) 57) (rY:Row w' y (Zc 13) 57)=>Mb h rM rC 4 13 (by decide) (by decide) (by decide) rY true (by decide+kernel)
 have hre:=fun w' g gr gf (h:GrpAt w' g gr gf 1055500680322183127 1966023127 leG) gM gC gL y1 y3 g9 (rM:Row w' gM #[.slice (some ⟨gC,0,none⟩) 2 2] 22) (rC:Row w' gC (nsC 2 aCF) 57) (rL:Row w' gL (aL y3 g9 y1) 64) (r1:Row w' y1 (Zc 9) 57) (r3:Row w' y3 (Zc 13) 57) (r9:Row w' g9 (Zc 9) 57)=>yM h rM rC rL r1 r3 r9
 have hby:=fun w' gM gC (rM:Row w' gM #[.slice (some ⟨gC,0,none⟩) 2 2] 22) (rC:Row w' gC (nsC 2 aCF) 57)=>wh rM rC
 have hdg:=fun w' gM gC (kT:KT w') (rM:Row w' gM #[.slice (some ⟨gC,0,none⟩) 2 2] 22) (rC:Row w' gC (nsC 2 aCF) 57)=>yN kT rM rC
 have hta:=fun w'=>AB w'
 have hsa:=fun w' gM gC gN gD (rM:Row w' gM #[.slice (some ⟨gC,0,none⟩) 2 2] 22) (rC:Row w' gC (nsC 2 aCF) 57) (rN:Row w' gN #[.slice (some ⟨gD,0,none⟩) 2 2] 22) (rD:Row w' gD (nsC 2 aCF) 57)=>AC rM rC rN rD
 have HK:Hid (KT w):=kT;clear kT hszn hszp hbyp;generalize hSH:sha aBy=SH at*
 have hSl:SH.length=32:=by rw[<-hSH];exact V3 _
 clear hSH;generalize aBy=BY at*;generalize aCF=CF at*;generalize (fun j=>(pco coF j).val)=CP at*;generalize (1055500680322183127:Nat)=PP at*;generalize leG=GG at*
 go_enter func7,ntmps7
 have sb:=YG w;iterate 2 go_step
 refine rp ?_;refine p_v (.bool false) (fun _=>rfl) ?_;simp only[Act.put,aA0,bT0];refine Zb ?_;iterate 3 go_step
 refine rp ?_;refine p_f 8 func8 #[.int .i64 0] (hsm _) ?_;rintro _ z1000 ⟨g,gr,gf,rfl,⟨rG,rR,rF⟩,hb⟩;refine⟨_,rfl,?_⟩;simp only[pv];have k:=Kept.ofBelow hb;clear hb;replace sb:=kk sb k;clear k;refine p_m ?_;refine p_e ?_;refine p_e ?_;refine p_e ?_;simp only[pv];refine ZT (by rfl) 27 rfl _ R1 ?_;intro g2 z1005 n0 r2 k;simp only[pv];have dGx2:=l_l rG.lt n0;have dRx2:=l_l rR.lt n0;have dFx2:=l_l rF.lt n0;have b2:=f_ sb.size n0;clear n0;replace rG:=k.ro rG;replace rR:=k.ro rR;replace rF:=k.ro rF;replace sb:=kk sb k;clear k;refine p_a ?_;simp only[pv];refine Xg (by rfl) 27 _ _ rfl _ rfl r2 (smC (PP:Nat) (1966023127:Nat) (GG:Nat)) rfl (by exact Ws) (by rfl) (NL _ _ _) ?_;clear r2;intro z1007 r2 k;simp only[Act.put];replace rG:=k.ro rG;replace rR:=k.ro rR;replace rF:=k.ro rF;replace sb:=kk sb k;clear k;refine p_a (Zb ?_);simp only[pv];clear hsm;iterate 3 go_step
 refine rp ?_;refine p_m ?_;simp only[pv];refine p_c 25 func25 #[.int .i64 5] (o5 _) ?_;intro z2001 k;simp only[pv];replace rG:=k.ro rG;replace rR:=k.ro rR;replace rF:=k.ro rF;replace r2:=k.ro r2;replace sb:=kk sb k;clear k;refine Wb (by rfl) 22 57 1 _ rfl (Zc 5) ien _ r_ hien hzn h11 h12 [(0,.agg (Zc 5))] rfl (hl1 5) ?_;intro gU z2002 n0 rU k;simp only[pv];clear n0;replace rG:=k.ro rG;replace rR:=k.ro rR;replace rF:=k.ro rF;replace r2:=k.ro r2;replace sb:=kk sb k;clear k;refine p_c 25 func25 #[.int .i64 2] (o2 _) ?_;intro z2003 k;simp only[pv];replace rG:=k.ro rG;replace rR:=k.ro rR;replace rF:=k.ro rF;replace r2:=k.ro r2;replace rU:=k.ro rU;replace sb:=kk sb k;clear k;refine Wb (by rfl) 22 57 1 _ rfl (Zc 2) ien _ r_ hien hzn h11 h12 [(0,.agg (Zc 2))] rfl (hl1 2) ?_;intro gV z2004 n0 rV k;simp only[pv];clear n0;replace rG:=k.ro rG;replace rR:=k.ro rR;replace rF:=k.ro rF;replace r2:=k.ro r2;replace rU:=k.ro rU;replace sb:=kk sb k;clear k;refine p_f 9 func9 #[.pointer (some ⟨g,0,none⟩),.int .i64 1,.slice (some ⟨gU,0,none⟩) 1 1,.slice (some ⟨gV,0,none⟩) 1 1] (hde _ g gr gf ⟨rG,rR,rF⟩ gU gV rU rV) ?_;rintro _ z2005 ⟨gM,gC,gT,y,rfl,rM,rC,rT,rY1,rY2,rY3,hb⟩;refine⟨_,rfl,?_⟩;simp only[pv];have k:=Kept.ofBelow hb;clear hb;replace rG:=k.ro rG;replace rR:=k.ro rR;replace rF:=k.ro rF;replace r2:=k.ro r2;replace rU:=k.ro rU;replace rV:=k.ro rV;replace sb:=kk sb k;clear k;refine p_m ?_;refine p_e ?_;refine p_e ?_;refine p_e ?_;refine p_a ?_;simp only[pv];refine p_a ?_;refine p_a (Zb ?_);simp only[pv];clear hde rU rV;iterate 4 go_step
 refine YL (by kernel_rfl) [] [(0,false),(1,false),(2,false),(3,false),(4,false),(5,false),(6,false),(7,false),(8,false),(9,false),(10,false),(11,false),(12,false),(13,false),(14,false),(15,false),(16,false),(17,false),(18,false),(19,false),(20,false),(21,false),(22,true),(23,true),(24,false),(25,false),(26,false),(27,false),(28,false),(29,false),(30,false),(31,false),(32,false),(33,false),(34,false),(35,false),(36,false),(37,false),(38,false),(39,false),(40,false)] ?_ (by kernel_rfl);have orG:=rG;have orR:=rR;have orF:=rF;have orM:=rM;have orC:=rC;have orT:=rT;have orY3:=rY3;have cb:=Y8 sb;have osb:=sb;refine e_m ?_;simp only[pv];refine e_v (.bool false) (Zz _ _ rfl true rfl) ?_;refine e_m ?_;refine e_m ?_;simp only[pv];refine e_v (.bool false) (ZX .i64 _ _ _ _ rfl 0 0 rfl rfl false rfl) ?_;simp only[pv];refine Wd (by rfl) false (v:=.bool false) rfl rfl rfl ?_;refine e_m ?_;refine e_m ?_;simp only[pv];refine e_v (.int .i64 1) (n_l (some ⟨gM,0,none⟩) 1 1 WY) ?_;simp only[pv];refine e_v (.bool false) (ZX .i64 _ _ _ _ rfl 1 1 rfl rfl false rfl) ?_;simp only[pv];refine Wd (by rfl) false (v:=.bool false) rfl rfl rfl ?_;refine e_m ?_;refine e_m ?_;simp only[pv];refine e_v (.int .i64 (4:Nat)) (n_l (some ⟨gT,0,none⟩) 4 4 XR) ?_;simp only[pv];refine e_v (.bool false) (ZX .i64 _ _ _ _ rfl 4 4 rfl rfl false rfl) ?_;simp only[pv];refine Wd (by rfl) false (v:=.bool false) rfl rfl rfl ?_;refine e_m ?_;refine e_m ?_;simp only[pv];refine e_v (.pointer (some ⟨gT,0+2*2,none⟩)) ((Zw 32 _ _ rfl (gT) (0) (4) (4) rfl (2) rfl (by decide) _ aZ0 2 eD0)) ?_;simp only[pv];refine e_v (.pointer (some ⟨gT,0+2*2+1,none⟩)) (Zh 64 _ 1 rfl gT (0+2*2) rfl _ aG0 _ rfl 0 aO0) ?_;simp only[pv];refine Y9 (by rfl) 22 _ rfl _ (0+2*2+1) rfl (fun _ hb=>(orT.belowAll hb).r) (.slice (some ⟨y 2,0,none⟩) 1 1) (wi y) aD0 ?_;simp only[pv];refine YS (by rfl) 25 _ _ rfl func25 (by kernel_rfl) #[.int .i64 11] rfl _ (fun w _=>o11 w) ?_;simp only[pv];refine Wq (by rfl) 22 57 1 _ rfl (Zc 11) ien _ r_ hien hzn h11 h12 [(0,.agg (Zc 11))] rfl (hl1 11) ?_;intro wa22 hqb gA wb22 n0 rA hb;refine⟨fun _=>Zk (Zk cb (c_ _) hqb) (c_ _) hb,?_⟩;simp only[pv];replace rG:=rG.belowAll hqb;replace rR:=rR.belowAll hqb;replace rF:=rF.belowAll hqb;replace r2:=r2.belowAll hqb;replace rM:=rM.belowAll hqb;replace rC:=rC.belowAll hqb;replace rT:=rT.belowAll hqb;replace rY1:=rY1.belowAll hqb;replace rY2:=rY2.belowAll hqb;replace rY3:=rY3.belowAll hqb;replace sb:=b_o sb hqb;replace cb:=b_o cb hqb;replace rG:=rG.belowAll hb;replace rR:=rR.belowAll hb;replace rF:=rF.belowAll hb;replace r2:=r2.belowAll hb;replace rM:=rM.belowAll hb;replace rC:=rC.belowAll hb;replace rT:=rT.belowAll hb;replace rY1:=rY1.belowAll hb;replace rY2:=rY2.belowAll hb;replace rY3:=rY3.belowAll hb;replace sb:=b_o sb hb;replace cb:=b_o cb hb;clear hqb hb n0;refine XM (by rfl) 17 _ _ rfl func17 (by kernel_rfl) #[.slice (some ⟨y 2,0,none⟩) 1 1,.slice (some ⟨gA,0,none⟩) 1 1] rfl ?_;intro wa23 hqb;replace rG:=rG.belowAll hqb;replace rR:=rR.belowAll hqb;replace rF:=rF.belowAll hqb;replace r2:=r2.belowAll hqb;replace rM:=rM.belowAll hqb;replace rC:=rC.belowAll hqb;replace rT:=rT.belowAll hqb;replace rY1:=rY1.belowAll hqb;replace rY2:=rY2.belowAll hqb;replace rY3:=rY3.belowAll hqb;replace rA:=rA.belowAll hqb;replace sb:=b_o sb hqb;replace cb:=b_o cb hqb;clear hqb;refine(hs11 _ (y 2) gA rY2 rA).mono ?_;rintro _ wb23 ⟨rfl,hb⟩;refine⟨_,rfl,fun _=>Zk cb (c_ _) hb,?_⟩;simp only[pv];replace rG:=rG.belowAll hb;replace rR:=rR.belowAll hb;replace rF:=rF.belowAll hb;replace r2:=r2.belowAll hb;replace rM:=rM.belowAll hb;replace rC:=rC.belowAll hb;replace rT:=rT.belowAll hb;replace rY1:=rY1.belowAll hb;replace rY2:=rY2.belowAll hb;replace rY3:=rY3.belowAll hb;replace rA:=rA.belowAll hb;replace sb:=b_o sb hb;replace cb:=b_o cb hb;clear hb;refine e_v (.bool false) (Zz _ _ rfl true rfl) ?_;simp only[pv];refine Wd (by rfl) false (v:=.bool false) rfl rfl rfl ?_;refine e_m ?_;refine e_m ?_;refine e_m ?_;simp only[pv];refine YS (by rfl) 26 _ _ rfl func26 (by kernel_rfl) #[.pointer (some ⟨g,0,none⟩),.int .i64 1,.slice (some ⟨gM,0,none⟩) 1 1] rfl _ (fun w' hb=>hma w' g gr gf ⟨orG.belowAll hb,orR.belowAll hb,orF.belowAll hb⟩ gM gC (orM.belowAll hb) (orC.belowAll hb)) ?_;simp only[pv];refine e_v (.bool false) (Zz _ _ rfl true rfl) ?_;simp only[pv];refine Wd (by rfl) false (v:=.bool false) rfl rfl rfl ?_;refine e_m ?_;refine e_m ?_;refine e_m ?_;refine e_m ?_;simp only[pv];refine e_v (.pointer (some ⟨gT,0+3*2,none⟩)) ((Zw 32 _ _ rfl (gT) (0) (4) (4) rfl (3) rfl (by decide) _ aZ0 2 eD0)) ?_;simp only[pv];refine Wm (by rfl) 64 _ rfl _ (0+3*2) rfl (fun _ hb=>(orT.belowAll hb).r) (ptC ((3+1:Nat):Int) (.slice (some ⟨y 3,0,none⟩) 1 1)) (Ur (k:=2) (n:=4) (C:=(fun j=>ptC ((j+1:Nat):Int) (.slice (some ⟨y j,0,none⟩) 1 1))) (fun _=>rfl) 3 (by decide) (0+3*2) rfl) _ aG0 rfl XB ?_;simp only[pv];refine YS (by rfl) 23 _ _ rfl func23 (by kernel_rfl) #[.pointer (some ⟨g,0,none⟩),.slice (some ⟨gM,0,none⟩) 1 1,.agg (ptC ((3+1:Nat):Int) (.slice (some ⟨y 3,0,none⟩) 1 1))] rfl _ (fun w' hb=>hho w' g gr gf ⟨orG.belowAll hb,orR.belowAll hb,orF.belowAll hb⟩ gM gC (y 3) (orM.belowAll hb) (orC.belowAll hb) (orY3.belowAll hb)) ?_;simp only[pv];refine e_v (.bool false) (Zz _ _ rfl true rfl) ?_;simp only[pv];refine Wd (by rfl) false (v:=.bool false) rfl rfl rfl ?_;simp only[pv];refine Vk ?_;intro wz hqb;replace rG:=rG.belowAll hqb;replace rR:=rR.belowAll hqb;replace rF:=rF.belowAll hqb;replace r2:=r2.belowAll hqb;replace rM:=rM.belowAll hqb;replace rC:=rC.belowAll hqb;replace rT:=rT.belowAll hqb;replace rY1:=rY1.belowAll hqb;replace rY2:=rY2.belowAll hqb;replace rY3:=rY3.belowAll hqb;replace rA:=rA.belowAll hqb;replace sb:=b_o sb hqb;clear hqb cb osb orG orR orF orM orC orT orY3;clear hs11 hma hho rA;iterate 7 go_step
 refine YL (by kernel_rfl) [] [(0,false),(1,false),(2,false),(3,false),(4,false),(5,false),(8,false),(9,false),(10,false),(6,true),(7,false),(11,true),(12,true),(13,false),(14,false),(15,false),(16,false),(17,false)] ?_ (by kernel_rfl);have orG:=rG;have orR:=rR;have orF:=rF;have orM:=rM;have orC:=rC;have orT:=rT;have orY3:=rY3;have cb:=Y8 sb;have osb:=sb;refine e_m ?_;refine e_m ?_;refine e_m ?_;simp only[pv];refine e_v (.pointer (some ⟨gT,0+3*2,none⟩)) ((Zw 32 _ _ rfl (gT) (0) (4) (4) rfl (3) rfl (by decide) _ aZ0 2 eD0)) ?_;simp only[pv];refine Wm (by rfl) 64 _ rfl _ (0+3*2) rfl (fun _ hb=>(orT.belowAll hb).r) (ptC ((3+1:Nat):Int) (.slice (some ⟨y 3,0,none⟩) 1 1)) (Ur (k:=2) (n:=4) (C:=(fun j=>ptC ((j+1:Nat):Int) (.slice (some ⟨y j,0,none⟩) 1 1))) (fun _=>rfl) 3 (by decide) (0+3*2) rfl) _ aG0 rfl XB ?_;simp only[pv];refine YS (by rfl) 25 _ _ rfl func25 (by kernel_rfl) #[.int .i64 9] rfl _ (fun w _=>o9 w) ?_;refine e_m ?_;simp only[pv];refine e_v (.pointer (some ⟨gT,0+1*2,none⟩)) ((Zw 32 _ _ rfl (gT) (0) (4) (4) rfl (1) rfl (by decide) _ aZ0 2 eD0)) ?_;simp only[pv];refine Wm (by rfl) 64 _ rfl _ (0+1*2) rfl (fun _ hb=>(orT.belowAll hb).r) (ptC ((1+1:Nat):Int) (.slice (some ⟨y 1,0,none⟩) 1 1)) (Ur (k:=2) (n:=4) (C:=(fun j=>ptC ((j+1:Nat):Int) (.slice (some ⟨y j,0,none⟩) 1 1))) (fun _=>rfl) 1 (by decide) (0+1*2) rfl) _ aG0 rfl XB ?_;simp only[pv];refine Wq (by rfl) 22 57 1 _ rfl (Zc 9) ien _ r_ hien hzn h11 h12 [(0,.agg (Zc 9))] rfl (hl1 9) ?_;intro wa6 hqb gB wb6 n0 rB hb;refine⟨fun _=>Zk (Zk cb (c_ _) hqb) (c_ _) hb,?_⟩;simp only[pv];replace rG:=rG.belowAll hqb;replace rR:=rR.belowAll hqb;replace rF:=rF.belowAll hqb;replace r2:=r2.belowAll hqb;replace rM:=rM.belowAll hqb;replace rC:=rC.belowAll hqb;replace rT:=rT.belowAll hqb;replace rY1:=rY1.belowAll hqb;replace rY2:=rY2.belowAll hqb;replace rY3:=rY3.belowAll hqb;replace sb:=b_o sb hqb;replace cb:=b_o cb hqb;replace rG:=rG.belowAll hb;replace rR:=rR.belowAll hb;replace rF:=rF.belowAll hb;replace r2:=r2.belowAll hb;replace rM:=rM.belowAll hb;replace rC:=rC.belowAll hb;replace rT:=rT.belowAll hb;replace rY1:=rY1.belowAll hb;replace rY2:=rY2.belowAll hb;replace rY3:=rY3.belowAll hb;replace sb:=b_o sb hb;replace cb:=b_o cb hb;clear hqb hb n0;refine e_v (.agg (ptC 1 (.slice (some ⟨gB,0,none⟩) 1 1))) (Z3 _ [(0,.const (.int .i64 1)),(1,.tmp 74)] rfl [(0,.int .i64 1),(1,.slice (some ⟨gB,0,none⟩) 1 1)] rfl (ptC 1 (.slice (some ⟨gB,0,none⟩) 1 1)) (NW _ _ _ _)) ?_;simp only[pv];refine Wq (by rfl) 32 64 3 _ rfl (aL (y 3) gB (y 1)) ip _ aZ0 hip hzp h31 h32 [(0,.agg (ptC 4 (.slice (some ⟨y 3,0,none⟩) 1 1))),(1,.agg (ptC 1 (.slice (some ⟨gB,0,none⟩) 1 1))),(2,.agg (ptC 2 (.slice (some ⟨y 1,0,none⟩) 1 1)))] rfl (hl3 _ _ _) ?_;intro wa11 hqb gL wb11 n0 rL hb;refine⟨fun _=>Zk (Zk cb (c_ _) hqb) (c_ _) hb,?_⟩;simp only[pv];replace rG:=rG.belowAll hqb;replace rR:=rR.belowAll hqb;replace rF:=rF.belowAll hqb;replace r2:=r2.belowAll hqb;replace rM:=rM.belowAll hqb;replace rC:=rC.belowAll hqb;replace rT:=rT.belowAll hqb;replace rY1:=rY1.belowAll hqb;replace rY2:=rY2.belowAll hqb;replace rY3:=rY3.belowAll hqb;replace rB:=rB.belowAll hqb;replace sb:=b_o sb hqb;replace cb:=b_o cb hqb;replace rG:=rG.belowAll hb;replace rR:=rR.belowAll hb;replace rF:=rF.belowAll hb;replace r2:=r2.belowAll hb;replace rM:=rM.belowAll hb;replace rC:=rC.belowAll hb;replace rT:=rT.belowAll hb;replace rY1:=rY1.belowAll hb;replace rY2:=rY2.belowAll hb;replace rY3:=rY3.belowAll hb;replace rB:=rB.belowAll hb;replace sb:=b_o sb hb;replace cb:=b_o cb hb;clear hqb hb n0;refine XM (by rfl) 15 _ _ rfl func15 (by kernel_rfl) #[.pointer (some ⟨g,0,none⟩),.int .i64 1,.slice (some ⟨gM,0,none⟩) 1 1,.slice (some ⟨gL,0,none⟩) 3 3] rfl ?_;intro wa12 hqb;replace rG:=rG.belowAll hqb;replace rR:=rR.belowAll hqb;replace rF:=rF.belowAll hqb;replace r2:=r2.belowAll hqb;replace rM:=rM.belowAll hqb;replace rC:=rC.belowAll hqb;replace rT:=rT.belowAll hqb;replace rY1:=rY1.belowAll hqb;replace rY2:=rY2.belowAll hqb;replace rY3:=rY3.belowAll hqb;replace rB:=rB.belowAll hqb;replace rL:=rL.belowAll hqb;replace sb:=b_o sb hqb;replace cb:=b_o cb hqb;clear hqb;refine(hre _ g gr gf ⟨rG,rR,rF⟩ gM gC gL (y 1) (y 3) gB rM rC rL rY1 rY3 rB).mono ?_;rintro _ wb12 ⟨gP,gQ,rfl,rP,rQ,hb⟩;refine⟨_,rfl,fun _=>Zk cb (c_ _) hb,?_⟩;simp only[pv];replace rG:=rG.belowAll hb;replace rR:=rR.belowAll hb;replace rF:=rF.belowAll hb;replace r2:=r2.belowAll hb;replace rM:=rM.belowAll hb;replace rC:=rC.belowAll hb;replace rT:=rT.belowAll hb;replace rY1:=rY1.belowAll hb;replace rY2:=rY2.belowAll hb;replace rY3:=rY3.belowAll hb;replace rB:=rB.belowAll hb;replace rL:=rL.belowAll hb;replace sb:=b_o sb hb;replace cb:=b_o cb hb;clear hb;refine e_m ?_;refine E2 (by rfl) rfl rfl rfl ?_;refine E2 (by rfl) rfl rfl rfl ?_;refine Ot (by rfl) rfl rfl ?_;refine Ot (by rfl) rfl rfl ?_;simp only[pv];refine Vk ?_;intro wz hqb;replace rG:=rG.belowAll hqb;replace rR:=rR.belowAll hqb;replace rF:=rF.belowAll hqb;replace r2:=r2.belowAll hqb;replace rM:=rM.belowAll hqb;replace rC:=rC.belowAll hqb;replace rT:=rT.belowAll hqb;replace rY1:=rY1.belowAll hqb;replace rY2:=rY2.belowAll hqb;replace rY3:=rY3.belowAll hqb;replace rB:=rB.belowAll hqb;replace rL:=rL.belowAll hqb;replace rP:=rP.belowAll hqb;replace rQ:=rQ.belowAll hqb;replace sb:=b_o sb hqb;clear hqb cb osb orG orR orF orM orC orT orY3;clear hre rL rB;iterate 3 go_step
 refine rp ?_;refine p_m ?_;simp only[pv];refine p_c 28 func28 #[.slice (some ⟨gM,0,none⟩) 1 1] (hby _ gM gC rM rC) ?_;intro z6001 k;simp only[pv];replace rM:=k.ro rM;replace rC:=k.ro rC;replace rP:=k.ro rP;replace rQ:=k.ro rQ;replace sb:=kk sb k;clear k;refine p_f 27 func27 #[.string ⟨(BY).toArray⟩] (hta _) ?_;rintro _ z6002 ⟨gN,gD,rfl,rN,rD,hb⟩;refine⟨_,rfl,?_⟩;simp only[pv];have k:=Kept.ofBelow hb;clear hb;replace rM:=k.ro rM;replace rC:=k.ro rC;replace rP:=k.ro rP;replace rQ:=k.ro rQ;replace sb:=kk sb k;clear k;refine p_m ?_;refine p_e ?_;refine p_e ?_;refine p_a ?_;refine p_a (Zb ?_);simp only[pv];clear hby hta;iterate 3 go_step
 refine YL (by kernel_rfl) [] [(0,false),(1,false),(2,false),(3,false),(4,false),(5,false),(6,false),(7,false),(8,false),(9,false),(10,false),(11,false),(12,false),(13,true),(14,true),(15,false),(16,false),(17,false),(18,false),(19,false),(20,false),(21,false),(22,false),(23,false),(24,false),(25,false),(26,false),(27,false),(28,false),(29,false),(30,false),(31,false)] ?_ (by kernel_rfl);have orM:=rM;have orC:=rC;have orP:=rP;have orN:=rN;have orD:=rD;have cb:=Y8 sb;have osb:=sb;refine e_m ?_;simp only[pv];refine e_v (.bool true) (ZK .i64 _ _ _ _ rfl 0 0 rfl rfl true rfl) ?_;refine e_m ?_;refine e_m ?_;simp only[pv];refine e_v (.int .i64 1) (n_l (some ⟨gP,0,none⟩) 1 1 Fz) ?_;simp only[pv];refine e_v (.bool true) (ZK .i64 _ _ _ _ rfl 1 1 rfl rfl true rfl) ?_;simp only[pv];refine Wd (by rfl) true (v:=.bool true) rfl rfl rfl ?_;refine e_m ?_;refine e_m ?_;simp only[pv];refine e_v (.pointer (some ⟨gP,0+0*1,none⟩)) ((Zw 30 _ _ rfl (gP) (0) (1) (1) rfl (0) rfl (by decide) _ cR0 1 aO0)) ?_;simp only[pv];refine Y9 (by rfl) 22 _ rfl _ (0+0*1) rfl (fun _ hb=>(orP.belowAll hb).r) (.slice (some ⟨gQ,0,none⟩) 2 2) rfl aD0 ?_;simp only[pv];refine YS (by rfl) 25 _ _ rfl func25 (by kernel_rfl) #[.int .i64 5] rfl _ (fun w _=>o5 w) ?_;simp only[pv];refine YS (by rfl) 25 _ _ rfl func25 (by kernel_rfl) #[.int .i64 2] rfl _ (fun w _=>o2 w) ?_;simp only[pv];refine Wq (by rfl) 22 57 2 _ rfl (Zc 5++Zc 2) ien _ r_ hien hzn h21 h22 [(0,.agg (Zc 5)),(1,.agg (Zc 2))] rfl (hl2 5 2) ?_;intro wa13 hqb gA wb13 n0 rA hb;refine⟨fun _=>Zk (Zk cb (c_ _) hqb) (c_ _) hb,?_⟩;simp only[pv];replace rM:=rM.belowAll hqb;replace rC:=rC.belowAll hqb;replace rP:=rP.belowAll hqb;replace rQ:=rQ.belowAll hqb;replace rN:=rN.belowAll hqb;replace rD:=rD.belowAll hqb;replace sb:=b_o sb hqb;replace cb:=b_o cb hqb;replace rM:=rM.belowAll hb;replace rC:=rC.belowAll hb;replace rP:=rP.belowAll hb;replace rQ:=rQ.belowAll hb;replace rN:=rN.belowAll hb;replace rD:=rD.belowAll hb;replace sb:=b_o sb hb;replace cb:=b_o cb hb;clear hqb hb n0;refine XM (by rfl) 17 _ _ rfl func17 (by kernel_rfl) #[.slice (some ⟨gQ,0,none⟩) 2 2,.slice (some ⟨gA,0,none⟩) 2 2] rfl ?_;intro wa14 hqb;replace rM:=rM.belowAll hqb;replace rC:=rC.belowAll hqb;replace rP:=rP.belowAll hqb;replace rQ:=rQ.belowAll hqb;replace rN:=rN.belowAll hqb;replace rD:=rD.belowAll hqb;replace rA:=rA.belowAll hqb;replace sb:=b_o sb hqb;replace cb:=b_o cb hqb;clear hqb;refine(hs52 _ gQ gA rQ rA).mono ?_;rintro _ wb14 ⟨rfl,hb⟩;refine⟨_,rfl,fun _=>Zk cb (c_ _) hb,?_⟩;simp only[pv];replace rM:=rM.belowAll hb;replace rC:=rC.belowAll hb;replace rP:=rP.belowAll hb;replace rQ:=rQ.belowAll hb;replace rN:=rN.belowAll hb;replace rD:=rD.belowAll hb;replace rA:=rA.belowAll hb;replace sb:=b_o sb hb;replace cb:=b_o cb hb;clear hb;refine Wd (by rfl) true (v:=.bool true) rfl rfl rfl ?_;refine e_m ?_;refine e_m ?_;simp only[pv];refine e_v (.bool true) (ZK .i64 _ _ _ _ rfl 0 0 rfl rfl true rfl) ?_;simp only[pv];refine Wd (by rfl) true (v:=.bool true) rfl rfl rfl ?_;refine e_m ?_;refine e_m ?_;refine e_m ?_;simp only[pv];refine YS (by rfl) 11 _ _ rfl func11 (by kernel_rfl) #[.slice (some ⟨gN,0,none⟩) 1 1,.slice (some ⟨gM,0,none⟩) 1 1] rfl _ (fun w' hb=>hsa w' gM gC gN gD (orM.belowAll hb) (orC.belowAll hb) (orN.belowAll hb) (orD.belowAll hb)) ?_;simp only[pv];refine Wd (by rfl) true (v:=.bool true) rfl rfl rfl ?_;refine e_m ?_;refine e_m ?_;simp only[pv];refine YS (by rfl) 29 _ _ rfl func29 (by kernel_rfl) #[.slice (some ⟨gM,0,none⟩) 1 1] rfl _ (fun w' hb=>hdg w' gM gC (HK.out.below (Zk osb (c_ _) hb)) (orM.belowAll hb) (orC.belowAll hb)) ?_;simp only[pv];refine e_v (.int .i64 32) (fun w'=>(VE _ _ rfl SH rfl N_ w').trans (by rw[hSl];rfl)) ?_;simp only[pv];refine e_v (.bool true) (ZK .i64 _ _ _ _ rfl 32 32 rfl rfl true rfl) ?_;simp only[pv];refine Wd (by rfl) true (v:=.bool true) rfl rfl rfl ?_;simp only[pv];refine Ot (by rfl) rfl rfl ?_;simp only[Act.put,aA0,bT0];refine Vk ?_;intro wz hqb;replace rM:=rM.belowAll hqb;replace rC:=rC.belowAll hqb;replace rP:=rP.belowAll hqb;replace rQ:=rQ.belowAll hqb;replace rN:=rN.belowAll hqb;replace rD:=rD.belowAll hqb;replace rA:=rA.belowAll hqb;replace sb:=b_o sb hqb;clear hqb cb osb orM orC orP orN orD;go_wp2;go_ret;exact⟨rfl,sb⟩
end Go.Proofs.YtnagnkhbamhfmaaGreatDoor
