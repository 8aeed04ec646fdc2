import Derived.Test.YtcdahmommonnfaaGreatDoorMA
set_option maxRecDepth 100000
set_option maxHeartbeats 8000000
namespace Go.Proofs.YtcdahmommonnfaaGreatDoor
set_option linter.all false
open Go.RowKit
open Go.Proofs.Tryz
theorem D3:prog.underlying 63=some (.slice (prog.elem 63)):=by kernel_rfl
theorem Iw: ∃i,prog.info? 84=some i/\i.zero=some (.agg (ptC 0 (.slice none 0 0)))/\i.size=2/\i.bytes=32:=by
 have h:(prog.info? 84).map (fun i=>(i.zero,i.size,i.bytes))=some (some (.agg (ptC 0 (.slice none 0 0))),2,32):=by kernel_rfl
 cases hi:prog.info? 84 with
 |none=>rw[hi]at h;cases h
 |some i=>
  rw[hi]at h;simp only[Option.map_some,Option.some.injEq,Prod.mk.injEq]at h;exact⟨i,rfl,h.1,h.2.1,h.2.2⟩
structure PolAt (w:World)(base n:Nat)(V:Nat->Value)(B:Nat->Nat)(F:Nat->Nat->Nat)(m:Nat):Prop where
 at': ∀j,j<m-> ∃ab c cur,V j= .slice ab n c/\NatsAt w ab n (F j) (B j) 0 cur 39
 low: ∀j,j<m->base<=B j
 lt': ∀j,j<m->B j<w.heap.size
section
variable {w w2:World}{base n m:Nat}{V:Nat->Value}{B:Nat->Nat}{F:Nat->Nat->Nat}
theorem PolAt.lt (h:PolAt w base n V B F m){j:Nat}(hj:j<m):B j<w.heap.size:=h.lt' j hj
theorem PolAt.below (h:PolAt w base n V B F m)(hb:Below w.heap.size w w2):PolAt w2 base n V B F m:=
 ⟨fun j hj=>by
  obtain⟨ab,c,cur,e,hn⟩:=h.at' j hj
  exact⟨ab,c,cur,e,hn.below hb⟩,h.low,fun j hj=>Nat.lt_of_lt_of_le (h.lt' j hj) hb.size⟩
theorem PolAt.on (h:PolAt w base n V B F m){S:List Nat}(k:Kept S w w2)(hS: ∀j,j<m->B j∉S):PolAt w2 base n V B F m:=
 ⟨fun j hj=>by
  obtain⟨ab,c,cur,e,hn⟩:=h.at' j hj
  exact⟨ab,c,cur,e,hn.at'.imp id fun⟨h1,h2,h3⟩=>⟨h1,k.rowR h2 (hS j hj),h3⟩,hn.lt⟩,h.low,fun j hj=>Nat.lt_of_lt_of_le (h.lt' j hj) k.size⟩
theorem FZ (w:World)(base n:Nat)(V:Nat->Value)(B:Nat->Nat)(F:Nat->Nat->Nat):PolAt w base n V B F 0:=
 ⟨fun j hj=>absurd hj (by omega),fun j hj=>absurd hj (by omega),fun j hj=>absurd hj (by omega)⟩
def uxV (V:Nat->Value)(m:Nat)(v:Value):Nat->Value:=fun j=>if j=m then v else V j
theorem PT (V:Nat->Value)(m:Nat)(v:Value):uxV V m v m=v:=if_pos rfl
theorem Hv (V:Nat->Value){m j:Nat}(v:Value)(h:j<m):uxV V m v j=V j:=if_neg (by omega)
theorem PolAt.add (h:PolAt w base n V B F m){v:Value}{b c:Nat}{ab:Option Addr}{cur:Array Value}(e:v= .slice ab n c)(hn:NatsAt w ab n (F m) b 0 cur 39)(h1:base<=b)(h2:b<w.heap.size):PolAt w base n (uxV V m v) (upR B m b) F (m+1):=by
 refine⟨fun j hj=>?_,fun j hj=>?_,fun j hj=>?_⟩
 all_goals by_cases hjm:j=m
 ·subst hjm;rw[PT,Wb];exact⟨ab,c,cur,e,hn⟩
 ·rw[Hv V v (by omega),XQ B (by omega)];exact h.at' j (by omega)
 ·subst hjm;rw[Wb];exact h1
 ·rw[XQ B (by omega)];exact h.low j (by omega)
 ·subst hjm;rw[Wb];exact h2
 ·rw[XQ B (by omega)];exact h.lt' j (by omega)
theorem PolAt.pl {Q:Nat}[NeZero Q](h:PolAt w base n V B F m){j:Nat}(hj:j<m)(hn:n<=1000):PlA w (V j) (fl n (F j):List (Fin Q)):=by
 obtain⟨ab,c,cur,e,hna⟩:=h.at' j hj;exact⟨ab,n,c,F j,B j,0,cur,39,e,hn,hna,rfl⟩
theorem PU {ab:Option Addr}{gb ob:Nat}{G F:Nat->Nat}{bcs:Array Value}{tb:TypeId}(h:NatsAt w ab n F gb ob bcs tb){lo m:Nat}(hl:lo+m<=n)(hG: ∀i,i<m->G i=F (lo+i)):NatsAt w (some ⟨gb,ob+lo*4,none⟩) m G gb (ob+lo*4) bcs tb:=by
 refine⟨?_,fun i hi=>by rw[hG i hi];exact h.lt _ (by omega)⟩;obtain h0|⟨_,h2,h3⟩:=h.at'
 ·exact .inl (by omega)
 ·refine .inr ⟨rfl,h2,fun i hi j v hv=>?_⟩;rw[hG i hi]at hv;have:=h3 (lo+i) (by omega) j v hv;rw[show ob+lo*4+i*4+j=ob+(lo+i)*4+j by omega];exact this
end
def dlF (t:Nat)(F1 F2:Nat->Nat)(k j:Nat):Nat:=if j=0 then F1 k else F2 (t*k+(j-1))
theorem F0 (a b:Option Addr)(n m c d k:Nat)(hk:k=1):Instr.fill (fun i=>some (i*k,k)) ((Array.range (2*k)).map ((Value.slice none 0 0).cells[· %(Value.slice none 0 0).cells.size]!)) [(0,.slice a n c),(1,.slice b m d)]=some #[.slice a n c,.slice b m d]:=by
 subst hk
 kernel_rfl
theorem F3 {w':World}{base n t k gb ob gq oq c1 c2 gL gP gM:Nat}{ab ar:Option Addr}{F1 F2:Nat->Nat}{bcs qcs cP cM:Array Value}{tb tq tP tM:TypeId}{V:Nat->Value}{B:Nat->Nat}(hk:k<n)(h1:1<=t)(h2:t<=2)
  (rL:Row w' gL #[.slice (some ⟨gb,ob+k*4,none⟩) 1 c1,.slice (some ⟨gq,oq+t*k*4,none⟩) t c2] 54)(hN1:NatsAt w' ab n F1 gb ob bcs tb)(hN2:NatsAt w' ar (t*n) F2 gq oq qcs tq)(hP:PolAt w' base (t+1) V B (dlF t F1 F2) k)(rP:Row w' gP cP tP)(rM:Row w' gM cM tM)(xP: ∀j,j<k->B j≠gP)(xM: ∀j,j<k->B j≠gM)(hb:base<=w'.heap.size):
  Calls prog 201 #[.slice (some ⟨gL,0,none⟩) 2 2] w' fun e w2=> ∃av cv b,e= .returned (.slice av (t+1) cv)/\PolAt w2 base (t+1) (uxV V k (.slice av (t+1) cv)) (upR B k b) (dlF t F1 F2) (k+1)/\(∀j,j<k+1->upR B k b j≠gP)/\(∀j,j<k+1->upR B k b j≠gM)/\Below w'.heap.size w' w2:=by
 have htk:t*k+t<=t*n:=by rw[<-Nat.mul_succ];exact Nat.mul_le_mul_left _ hk
 have hS:ctS (fun i=>if i=0 then 1 else t) 2=t+1:=by
  show 0+1+t=t+1
  omega
 have hc:=O3 2 gL 0 2 (fun i=>if i=0 then gb else gq) (fun i=>if i=0 then ob+k*4 else oq+t*k*4) (fun i=>if i=0 then 1 else t) (fun i=>if i=0 then c1 else c2) (dlF t F1 F2 k) _ 54 w' (by decide) (by rw[hS];omega) (by rw[hS];omega) (fun i hi=>by
   obtain rfl|rfl:i=0∨i=1:=by omega
   ·exact Nat.one_pos
   ·exact h1)
  ⟨.inr ⟨rfl,rL.r,fun i hi=>by
   obtain rfl|rfl:i=0∨i=1:=by omega
   ·rfl
   ·rfl⟩⟩ (fun i hi=>by
   obtain rfl|rfl:i=0∨i=1:=by omega
   ·exact⟨_,_,_,PU hN1 (lo:=k) (m:=1) (by omega) (fun i hi=>by
     obtain rfl:i=0:=(by omega)
     rfl)⟩
   ·refine⟨_,_,_,PU hN2 (lo:=t*k) (m:=t) htk (fun i hi=>?_)⟩;show dlF t F1 F2 k (0+1+i)=_
    unfold dlF
    rw[if_neg (by omega),show 0+1+i-1=i by omega])
 rw[hS]at hc;refine hc.mono ?_;rintro e w2 ⟨v,rfl,hO,hb2⟩;obtain⟨av,cv,rfl⟩:=YW hO
 have hlt: ∀i,i<t+1->dlF t F1 F2 k i<2^256:=fun i hi=>by
  unfold dlF
  split
  ·exact hN1.lt k hk
  ·exact hN2.lt _ (by omega)
 obtain⟨_,g1,cur,hna⟩:=UC hO hlt;obtain h0|⟨rfl,rr,_⟩:=hna.at'
 ·omega
 have hg:w'.heap.size<=g1:=hO.base g1 (by simp[Value.ownBlock])
 have hX: ∀x,x<w'.heap.size->(∀j,j<k->B j≠x)-> ∀j,j<k+1->upR B k g1 j≠x:=fun x hx hj j hjk=>by
  by_cases e:j=k
  ·subst e;rw[Wb];omega
  ·rw[XQ B (by omega)];exact hj j (by omega)
 exact⟨_,_,g1,rfl,(hP.below hb2).add rfl hna (by omega) rr.lt,hX gP rP.lt xP,hX gM rM.lt xM,hb2⟩
section
variable {Q:Nat}[NeZero Q]{g gr gf P G:Nat}{w:World}
def dlL (Q:Nat)[NeZero Q](t:Nat)(F1 F2:Nat->Nat)(k:Nat):List (Fin Q):=fl (t+1) (dlF t F1 F2 k)
theorem F4 (n c m d t:Nat)(F1 F2:Nat->Nat)(gb ob gq oq:Nat)(bcs qcs:Array Value)(tb tq:TypeId)(h1:1<=t)(h2:t<=2)(h:ccB n ((t+1:Nat):Int)=true)(hm:m=t*n)(hc:n<=c)(hd:m<=d)(f:GF P Q G)(hg:GrpAt w g gr gf P Q G)(hN1:NatsAt w (some ⟨gb,ob,none⟩) n F1 gb ob bcs tb)(hN2:NatsAt w (some ⟨gq,oq,none⟩) m F2 gq oq qcs tq)
  (hin1: ∀w',Below w.heap.size w w'->Calls prog 200 #[.pointer (some ⟨g,0,none⟩),.slice (some ⟨gb,ob,none⟩) n c] w' (Rt (.bool true) w'))
  (hin2: ∀w',Below w.heap.size w w'->Calls prog 200 #[.pointer (some ⟨g,0,none⟩),.slice (some ⟨gq,oq,none⟩) m d] w' (Rt (.bool true) w')):
  Calls prog 154 #[.pointer (some ⟨g,0,none⟩),.int .i64 (t:Nat),.slice (some ⟨gb,ob,none⟩) n c,.slice (some ⟨gq,oq,none⟩) m d] w fun e w'=> ∃gM R gT Y,e= .returned (.tuple #[.slice (some ⟨gM,0,none⟩) n n,.slice (some ⟨gT,0,none⟩) (3*t+1) (3*t+1),.int .i64 0])/\w.heap.size<=gM/\w.heap.size<=gT/\Row w' gM (vsC n (fun j=>.slice (some ⟨R j,0,none⟩) (t+1) (t+1))) 54/\FamAt w' w.heap.size (t+1) R (fun a b=>G^(pco (dlL Q t F1 F2 a) b).val%P) n/\Row w' gT (esC 2 (3*t+1) (fun j=>ptC ((j+1:Nat):Int) (.slice (some ⟨Y j,0,none⟩) n n))) 84/\FamAt w' w.heap.size n Y (fun a b=>(pev (fi (a+1)) (dlL Q t F1 F2 b)).val) (3*t+1)/\Below w.heap.size w w':=by
 have hl:=fun w'=>Lh (t:Nat) w'
 rw[show lrB t=true by unfold lrB;rw[decide_eq_true (by omega),decide_eq_true (by omega)];rfl]at hl;have hcc:=fun w'=>Tj n ((t+1:Nat):Int) w'
 have hn1:1<=n/\n<=25:=by
  simp only[ccB,Bool.and_eq_true,decide_eq_true_eq]at h;omega
 have htn:t*n<=2*25:=Nat.mul_le_mul h2 hn1.2;rw[h]at hcc;subst hm;obtain⟨is',his,hzs,hszs,hbys⟩:=JR;obtain⟨ip,hip,hzp,hszp,hbyp⟩: ∃i,prog.info? 84=some i/\i.zero=some (.agg (ptC 0 (.slice none 0 0)))/\i.size=2/\i.bytes=32:=Iw
 have h21: ¬2*is'.size>2^24:=by rw[hszs];decide
 have h22: ¬2*is'.size=0:=by rw[hszs];decide
 have hl2:=fun a b n m c d=>F0 a b n m c d is'.size hszs
 have HT:Hid (∀(w':World) (v:Value) k,Below w.heap.size w w'->PlA w' v (dlL Q t F1 F2 k)->Calls prog 202 #[.pointer (some ⟨g,0,none⟩),v,.int .i64 ((t+1:Nat):Int)] w' fun e w2=> ∃gC,e= .returned (.tuple #[.slice (some ⟨gC,0,none⟩) (t+1) (t+1),.int .i64 0])/\w'.heap.size<=gC/\Row w2 gC (nsC (t+1) ((fun a b=>G^(pco (dlL Q t F1 F2 a) b).val%P) k)) 39/\Below w'.heap.size w' w2):=fun w' v k hb hp=>by
  obtain⟨ab,mm,cc,_,_,_,_,_,rfl,_⟩:=id hp;exact BE ab mm cc (dlL Q t F1 F2 k) (t+1) (by omega) (by omega) (Nat.le_trans (Pw _) (by rw[show dlL Q t F1 F2 k=fl (t+1) (dlF t F1 F2 k)from rfl,WG];exact Nat.le_refl _)) f.rQ f.rP (Nat.lt_trans f.lt f.rP.m) (hg.below hb) hp
 have HS:Hid (∀(w':World) gP V B i,Below w.heap.size w w'->Row w' gP (vsC n V) 54->PolAt w' w.heap.size (t+1) V B (dlF t F1 F2) n->i<1000->Calls prog 203 #[.pointer (some ⟨g,0,none⟩),.slice (some ⟨gP,0,none⟩) n n,.int .i64 ((i+1:Nat):Int)] w' fun e w2=> ∃gY,e= .returned (.agg (ptC ((i+1:Nat):Int) (.slice (some ⟨gY,0,none⟩) n n)))/\w'.heap.size<=gY/\Row w2 gY (nsC n ((fun a b=>(pev (fi (a+1)) (dlL Q t F1 F2 b)).val) i)) 39/\Below w'.heap.size w' w2):=fun w' gP V B i hb rP hP hi=>FT _ (some ⟨gP,0,none⟩) n n (i+1) V gP 0 (vsC n V) 54 ((fun a b=>(pev (fi (a+1)) (dlL Q t F1 F2 b)).val) i) w' (by omega) (by omega) ⟨.inr ⟨rfl,rP.r,fun j hj=>by rw[show 0+j*1=j by omega];exact X5 V hj⟩⟩ (fun w2 hb2=>Ih _ (some ⟨gf,0,none⟩) P Q G (some ⟨gr,0,none⟩) w2 (hg.below (Zk hb (Nat.le_refl _) hb2)).kn) (fun k hk w2 hb2=>Bz (V k) (dlL Q t F1 F2 k) (i+1) (by omega) f.rQ (hg.below (Zk hb (Nat.le_refl _) hb2)) ((hP.below hb2).pl hk (by omega)))
 have HN1:Hid (NatsAt w (some ⟨gb,ob,none⟩) n F1 gb ob bcs tb):=hN1;have HN2:Hid (NatsAt w (some ⟨gq,oq,none⟩) (t*n) F2 gq oq qcs tq):=hN2;clear hg hN1 hN2
 go_enter func154,ntmps154
 have sb:=Z9 w;iterate 2 go_step
 refine rp ?_;refine p_v (.slice none 0 0) ((fun _=>rfl)) ?_;simp only[pv];refine p_v (.slice none 0 0) ((fun _=>rfl)) ?_;refine p_v (.int .i64 0) (fun _=>rfl) (Za ?_);simp only[pv];iterate 4 go_step
 refine rp ?_;refine p_m ?_;simp only[pv];refine p_c 198 func198 #[.int .i64 (t:Nat)] (hl _) ?_;intro z1001 k;simp only[pv];replace sb:=kk sb k;clear k;refine p_v _ (Zp _ _ rfl true rfl) ?_;refine p_m ?_;refine p_m ?_;simp only[pv];refine p_v _ (n_l (some ⟨gb,ob,none⟩) n c ZN) ?_;refine p_m ?_;simp only[pv];refine p_v _ (x_a t 1) ?_;simp only[pv];refine p_c 199 func199 #[.int .i64 n,.int .i64 ((t+1:Nat):Int)] (hcc _) ?_;intro z1008 k;simp only[pv];replace sb:=kk sb k;clear k;refine p_v _ (Zp _ _ rfl true rfl) ?_;refine p_k false (.bool false) ?_;refine p_m ?_;refine p_m ?_;simp only[pv];refine p_v _ (n_l (some ⟨gq,oq,none⟩) (t*n) d ZN) ?_;refine p_m ?_;refine p_m ?_;simp only[pv];refine p_v _ (n_l (some ⟨gb,ob,none⟩) n c ZN) ?_;simp only[pv];refine p_v _ (Z6 _ _ _ _ rfl t n (t*n) rfl rfl rfl (by omega)) ?_;simp only[pv];refine p_v _ (ZC .i64 _ _ _ _ rfl (t*n:Nat) (t*n:Nat) rfl rfl false (by rw[decide_eq_true (by omega)];rfl)) ?_;refine p_k false (.bool false) (Za ?_);simp only[pv];iterate 8 go_step
 refine rp ?_;refine p_m ?_;refine p_m ?_;simp only[pv];refine p_c 200 func200 #[.pointer (some ⟨g,0,none⟩),.slice (some ⟨gb,ob,none⟩) n c] (hin1 _ sb) ?_;intro z3002 k;simp only[pv];replace sb:=kk sb k;clear k;refine p_v _ (Zp _ _ rfl true rfl) ?_;refine p_m ?_;refine p_m ?_;refine p_m ?_;simp only[pv];refine p_c 200 func200 #[.pointer (some ⟨g,0,none⟩),.slice (some ⟨gq,oq,none⟩) (t*n) d] (hin2 _ sb) ?_;intro z3007 k;simp only[pv];replace sb:=kk sb k;clear k;refine p_v _ (Zp _ _ rfl true rfl) ?_;refine p_k false (.bool false) (Za ?_);simp only[pv];clear hin1 hin2 hl hcc;iterate 7 go_step
 apply Zo (by kernel_rfl) [] [_,_,_,_,_,_,_,_] trivial (by simp<;>omega)
 ·intro p;refine m_m ?_;simp only[pv];refine Zg _ (n_l (some ⟨gb,ob,none⟩) n c ZN) ?_;simp only[pv];refine NI 52 54 _ _ rfl is' _ underlying52 his hzs n rfl rfl (by rw[hszs];omega) (by rw[hbys];omega) (by omega) ?_;refine m_m ?_;simp only[pv];refine Zg _ (n_l (some ⟨gb,ob,none⟩) n c ZN) ?_;simp only[pv];refine NI 53 54 _ _ rfl is' _ underlying53 his hzs n rfl rfl (by rw[hszs];omega) (by rw[hbys];omega) (by omega) ?_;simp only[pv];refine Tu 2 (fun g=>.slice (some ⟨g,0,none⟩) n n) (.inl rfl) (by omega) rfl ?_;simp only[pv];refine Tu 5 (fun g=>.slice (some ⟨g,0,none⟩) n n) (.inl rfl) (by omega) rfl ?_;simp only[pv];refine Zi ?_;intro w5 hkw hrw hnew hdis;have n48:=hnew 2 rfl;have n51:=hnew 5 rfl;have zr48:Row w5 (p 2) (madeCells (Value.slice none 0 0).cells (n*is'.size)) 54:=hrw 5 (54,madeCells (Value.slice none 0 0).cells (n*is'.size)) rfl;have zr51:Row w5 (p 5) (madeCells (Value.slice none 0 0).cells (n*is'.size)) 54:=hrw 11 (54,madeCells (Value.slice none 0 0).cells (n*is'.size)) rfl;have d48x51:=hdis 2 5 (by omega) rfl rfl;have b48:=Nat.le_trans sb.size n48;have b51:=Nat.le_trans sb.size n51;replace sb:=kk sb hkw;clear hkw hrw hnew hdis n48 n51;generalize p 2=g48 at*;generalize p 5=g51 at*;have r48:=zr48;clear zr48;have r51:=zr51;clear zr51;have rP:=r48;have rM:=r51;have bP:=b48;have bM:=b51;clear r48 r51 b48 b51;generalize g48=gP at*;generalize g51=gM at*;rw[hszs,FC n _ rfl]at rP rM;have hPM:gP≠gM:=by omega
  iterate 4 go_step
  refine rp ?_;refine p_m ?_;simp only[pv];refine p_v _ (n_l (some ⟨gb,ob,none⟩) n c ZN) ?_;refine p_v (.int .i64 0) (fun _=>rfl) (Za ?_);simp only[pv]
  go_wp2_with fail
  go_loopg [13,54] n (fun x s13 s54 wr=> ∃(k:Nat) (V:Nat->Value) (B R:Nat->Nat),k+x=n/\s54= .int .i64 k/\Row wr gP (vsC n (fun j=>if j<k then V j else .slice none 0 0)) 54/\Row wr gM (vsC n (fun j=>if j<k then .slice (some ⟨R j,0,none⟩) (t+1) (t+1)else .slice none 0 0)) 54/\PolAt wr w.heap.size (t+1) V B (dlF t F1 F2) k/\FamAt wr w.heap.size (t+1) R (fun a b=>G^(pco (dlL Q t F1 F2 a) b).val%P) k/\(∀j,j<k->B j≠gP)/\(∀j,j<k->B j≠gM)/\(∀j,j<k->R j≠gP)/\(∀j,j<k->R j≠gM)/\Below w.heap.size w wr)
  case atStart=>exact⟨0,fun _=>.slice none 0 0,fun _=>0,fun _=>0,by omega,rfl,by rw[Vv (T:=fun _=>.slice none 0 0) (fun j _=>if_neg (by omega))];exact rP,by rw[Vv (T:=fun _=>.slice none 0 0) (fun j _=>if_neg (by omega))];exact rM,FZ _ _ _ _ _ _,M3 _ _ _ _ _,fun j hj=>absurd hj (by omega),fun j hj=>absurd hj (by omega),fun j hj=>absurd hj (by omega),fun j hj=>absurd hj (by omega),sb⟩
  case round=>
   clear rP rM sb;obtain⟨k,V,B,R,hk,rfl,rP,rM,hP,hM,hPxP,hPxM,hMxP,hMxM,sb⟩:=hrel
   cases gk with
   |succ x=>
    have hlt:k<n:=by omega
    have htk:t*k+t<=t*n:=by rw[<-Nat.mul_succ];exact Nat.mul_le_mul_left _ hlt
    have htk1:t*(k+1)=t*k+t:=Nat.mul_succ t k
    have hpP: ∀v,(vsC n (fun j=>if j<k then V j else .slice none 0 0)).setIfInBounds (0+k*1) v=(vsC n (fun j=>if j<k+1 then uxV V k v j else .slice none 0 0)):=fun v=>by
     rw[show 0+k*1=k by omega];refine M2 hlt ?_ (fun j hj hne=>?_)
     ·show(ite _ _ _:Value)=_
      rw[if_pos (by omega),PT]
     ·show(ite _ _ _:Value)=ite _ _ _
      by_cases h2:j<k
      ·rw[if_pos h2,if_pos (by omega),Hv V v h2]
      ·rw[if_neg h2,if_neg (by omega)]
    have hpM: ∀gN,(vsC n (fun j=>if j<k then .slice (some ⟨R j,0,none⟩) (t+1) (t+1)else .slice none 0 0)).setIfInBounds (0+k*1) (.slice (some ⟨gN,0,none⟩) (t+1) (t+1))=(vsC n (fun j=>if j<k+1 then .slice (some ⟨upR R k gN j,0,none⟩) (t+1) (t+1)else .slice none 0 0)):=fun gN=>by
     rw[show 0+k*1=k by omega];refine M2 hlt ?_ (fun j hj hne=>?_)
     ·show(ite _ _ _:Value)=_
      rw[if_pos (by omega),Wb]
     ·show(ite _ _ _:Value)=ite _ _ _
      by_cases h2:j<k
      ·rw[if_pos h2,if_pos (by omega),XQ R h2]
      ·rw[if_neg h2,if_neg (by omega)]
    go_step
    refine rp ?_;refine p_v _ (XK k n) (Za ?_);simp only[pv];iterate 10 go_step
    refine rp ?_;refine p_m ?_;refine p_a (Za ?_);simp only[pv];iterate 3 go_step
    refine Ys (by kernel_rfl) [19] [(0,false),(1,false),(2,false),(3,false),(4,false),(5,false),(6,false),(7,false),(8,false),(9,false),(10,false),(11,false),(12,false),(13,false),(14,false),(15,false),(18,false),(16,true),(17,true),(19,true)] ?_ (by kernel_rfl);have cb:=Th sb;refine e_m ?_;refine e_m ?_;refine e_m ?_;refine e_m ?_;refine e_m ?_;simp only[pv];refine e_v (.int .i64 ((k+1:Nat):Int)) (x_a k 1) ?_;simp only[pv];refine e_v (.slice (some ⟨gb,ob+k*4,none⟩) 1 (c-k)) (fun w'=>(Ho _ _ _ _ rfl ZN 4 Vu gb ob n c k (k+1) rfl rfl rfl (by omega) (by omega) (by omega) w').trans (by rw[Nat.add_sub_cancel_left])) ?_;refine e_m ?_;refine e_m ?_;refine e_m ?_;simp only[pv];refine e_v (.int .i64 ((t*k:Nat):Int)) (Z6 _ _ _ _ rfl t k (t*k) rfl rfl rfl (by omega)) ?_;refine e_m ?_;refine e_m ?_;simp only[pv];refine e_v (.int .i64 ((k+1:Nat):Int)) (x_a k 1) ?_;simp only[pv];refine e_v (.int .i64 ((t*k+t:Nat):Int)) (Z6 _ _ _ _ rfl t (k+1) (t*k+t) rfl rfl htk1 (by omega)) ?_;simp only[pv];refine e_v (.slice (some ⟨gq,oq+t*k*4,none⟩) t (d-t*k)) (fun w'=>(Ho _ _ _ _ rfl ZN 4 Vu gq oq (t*n) d (t*k) (t*k+t) rfl rfl rfl (by omega) (by omega) (by omega) w').trans (by rw[Nat.add_sub_cancel_left])) ?_;simp only[pv];refine e_v (.pointer (some ⟨gP,0+k*1,none⟩)) ((Zs 52 _ _ rfl (gP) (0) (n) (n) rfl (k) rfl (hlt) _ underlying52 1 sizeOf54)) ?_;simp only[pv];refine Fx (by rfl) 52 54 2 _ rfl (#[.slice (some ⟨gb,ob+k*4,none⟩) 1 (c-k),.slice (some ⟨gq,oq+t*k*4,none⟩) t (d-t*k)]) is' _ underlying52 his hzs h21 h22 [(0,.slice (some ⟨gb,ob+k*4,none⟩) 1 (c-k)),(1,.slice (some ⟨gq,oq+t*k*4,none⟩) t (d-t*k))] rfl (hl2 _ _ _ _ _ _) ?_;intro wa16 hqb gL wb16 n0 rL hb;refine⟨fun _=>Zk (Zk cb (Nat.le_refl _) hqb) (Nat.le_refl _) hb,?_⟩;simp only[pv];replace rP:=rP.belowAll hqb;replace rM:=rM.belowAll hqb;replace hP:=hP.below hqb;replace hM:=hM.below hqb;replace sb:=b_o sb hqb;replace cb:=b_o cb hqb;have dPxL:=l_l rP.lt n0;replace rP:=rP.belowAll hb;replace rM:=rM.belowAll hb;replace hP:=hP.below hb;replace hM:=hM.below hb;replace sb:=b_o sb hb;replace cb:=b_o cb hb;clear hqb hb n0;refine XZ (by rfl) 201 _ _ rfl func201 (by kernel_rfl) #[.slice (some ⟨gL,0,none⟩) 2 2] rfl ?_;intro wa17 hqb;replace rP:=rP.belowAll hqb;replace rM:=rM.belowAll hqb;replace hP:=hP.below hqb;replace hM:=hM.below hqb;replace rL:=rL.belowAll hqb;replace sb:=b_o sb hqb;replace cb:=b_o cb hqb;clear hqb;refine(F3 hlt h1 h2 rL (HN1.out.below sb) (HN2.out.below sb) hP rP rM hPxP hPxM sb.size).mono ?_;rintro _ wb17 ⟨avN,cvN,bN,rfl,hQ,hQxP,hQxM,hb⟩;refine⟨_,rfl,fun _=>Zk cb (Nat.le_refl _) hb,?_⟩;simp only[pv];replace rP:=rP.belowAll hb;replace rM:=rM.belowAll hb;replace hP:=hP.below hb;replace hM:=hM.below hb;replace rL:=rL.belowAll hb;replace sb:=b_o sb hb;replace cb:=b_o cb hb;clear hb;refine Wr (by rfl) 54 _ _ rfl _ (0+k*1) rfl rP (.slice avN (t+1) cvN) rfl rfl rfl Ws (by rw[XH];omega) ((vsC n (fun j=>if j<k+1 then uxV V k (.slice avN (t+1) cvN) j else .slice none 0 0))) (hpP (.slice avN (t+1) cvN)) ?_;intro wa19 hqb;replace rP:=rP.belowAll hqb;replace rM:=rM.belowAll hqb;replace hP:=hP.below hqb;replace hM:=hM.below hqb;replace rL:=rL.belowAll hqb;replace hQ:=hQ.below hqb;replace sb:=b_o sb hqb;clear hqb rP;intro wb19 rP k;refine⟨fun h=>(by cases h),?_⟩;simp only[Act.put];replace rM:=k.ro rM;replace hP:=hP.on k (fun j hj=>by simpa using hPxP j hj);replace hM:=hM.on k (fun j hj=>by simpa using hMxP j hj);replace rL:=k.ro rL;replace hQ:=hQ.on k (fun j hj=>by simpa using hQxP j hj);replace sb:=sb.trans (k.below _ sb.size (by simp<;>omega));clear k;refine XY ?_;intro wz hqb;replace rP:=rP.belowAll hqb;replace rM:=rM.belowAll hqb;replace hP:=hP.below hqb;replace hM:=hM.below hqb;replace rL:=rL.belowAll hqb;replace hQ:=hQ.below hqb;replace sb:=b_o sb hqb;clear hqb cb;clear hP hPxP hPxM rL hpP
    have hV:(vsC n (fun j=>if j<k+1 then uxV V k (.slice avN (t+1) cvN) j else .slice none 0 0))[0+k*1]?=some (.slice avN (t+1) cvN):=by
     rw[show 0+k*1=k by omega,X5 _ hlt,if_pos (by omega),PT]
    iterate 2 go_step
    refine rp ?_;refine p_m ?_;refine p_m ?_;refine p_m ?_;refine p_m ?_;refine p_m ?_;simp only[pv];refine p_x k hlt underlying52 sizeOf54 ?_;simp only[pv];refine p_d (0+k*1) rP.r (.slice avN (t+1) cvN) hV isAgg54 ?_;refine p_m ?_;simp only[pv];refine p_v _ (x_a t 1) ?_;simp only[pv];refine p_f 202 func202 #[.pointer (some ⟨g,0,none⟩),.slice avN (t+1) cvN,.int .i64 ((t+1:Nat):Int)] (HT.out _ (.slice avN (t+1) cvN) k sb (by have:=hQ.pl (Q:=Q) (j:=k) (by omega) (by omega);rw[PT]at this;exact this)) ?_;rintro _ z10009 ⟨gC,rfl,nC,rC,hb⟩;refine⟨_,rfl,?_⟩;simp only[pv];have dPxC:=l_l rP.lt nC;have dMxC:=l_l rM.lt nC;have hQxC:=fun j hj=>Nat.ne_of_lt (Nat.lt_of_lt_of_le (hQ.lt (j:=j) hj) nC)
    have hMxC:=fun j hj=>Nat.ne_of_lt (Nat.lt_of_lt_of_le (hM.lt (j:=j) hj) nC)
    have bC:=Nat.le_trans sb.size nC;clear nC;have k:=Kept.ofBelow hb;clear hb;replace rP:=k.ro rP;replace rM:=k.ro rM;replace hQ:=hQ.below k.nil;replace hM:=hM.below k.nil;replace sb:=kk sb k;clear k;refine p_m ?_;refine p_e ?_;refine p_e ?_;simp only[pv];refine p_x k hlt underlying53 sizeOf54 ?_;simp only[pv];refine Yj (by rfl) 54 _ _ rfl _ (0+k*1) rfl rM (.slice (some ⟨gC,0,none⟩) (t+1) (t+1)) rfl rfl rfl Ws (by rw[XH];omega) ((vsC n (fun j=>if j<k+1 then .slice (some ⟨upR R k gC j,0,none⟩) (t+1) (t+1)else .slice none 0 0))) (hpM gC) ?_;clear rM;intro z10014 rM k;simp only[Act.put];replace rP:=k.ro rP;replace hQ:=hQ.on k (fun j hj=>by simpa using hQxM j hj);replace hM:=hM.on k (fun j hj=>by simpa using hMxM j hj);replace rC:=k.ro rC;replace sb:=kk sb k;clear k;refine Za ?_;have hM2:=hM.add hMxC bC rC
    have hxP: ∀j,j<k+1->upR R k gC j≠gP:=fun j hj=>by
     by_cases e:j=k
     ·subst e;rw[Wb];omega
     ·rw[XQ R (show j<k by omega)];exact hMxP j (by omega)
    have hxM: ∀j,j<k+1->upR R k gC j≠gM:=fun j hj=>by
     by_cases e:j=k
     ·subst e;rw[Wb];omega
     ·rw[XQ R (show j<k by omega)];exact hMxM j (by omega)
    clear hM hMxP hMxM hMxC rC hpM hV hQxC;generalize upR R k gC=R2 at*;generalize uxV V k (.slice avN (t+1) cvN)=V2 at*;generalize upR B k bN=B2 at*;iterate 2 go_step
    refine rp ?_;refine p_v _ (x_a k 1) ?_;refine p_m (Za ?_);simp only[pv];go_wp2
    go_roundg x
    case measure=>omega
    case rel=>exact⟨k+1,V2,B2,R2,by omega,rfl,rP,rM,hQ,hM2,hQxP,hQxM,hxP,hxM,sb⟩
   |zero=>
    have hkn:n=k:=by omega
    clear hk;subst hkn;rw[Vv (T:=V) (fun j hj=>if_pos hj)]at rP;rw[Vv (T:=fun j=>.slice (some ⟨R j,0,none⟩) (t+1) (t+1)) (fun j hj=>if_pos hj)]at rM;clear hPxP hPxM hMxP hMxM HT;have h3:3*t+1<=7:=by omega
    go_step
    refine rp ?_;refine p_v _ (Xy n n) (Za ?_);simp only[pv];iterate 8 go_step
    refine rp ?_;refine p_m ?_;simp only[pv];refine p_v _ (Z6 _ _ _ _ rfl 3 t (3*t) rfl rfl rfl (by omega)) ?_;simp only[pv];refine p_v _ (x_a (3*t) 1) ?_;simp only[pv];refine Wn (by rfl) 63 84 _ _ rfl ip _ underlying63 hip hzp (3*t+1) rfl rfl (by rw[hszp];omega) (by rw[hbyp];omega) (by omega) ?_;intro gT z12003 n0 rT k;simp only[pv];have dPxT:=l_l rP.lt n0;have dMxT:=l_l rM.lt n0;have hPxT:=fun j hj=>Nat.ne_of_lt (Nat.lt_of_lt_of_le (hP.lt (j:=j) hj) n0)
    have hMxT:=fun j hj=>Nat.ne_of_lt (Nat.lt_of_lt_of_le (hM.lt (j:=j) hj) n0)
    have bT:=Nat.le_trans sb.size n0;clear n0;replace rP:=k.ro rP;replace rM:=k.ro rM;replace hP:=hP.below k.nil;replace hM:=hM.below k.nil;replace sb:=kk sb k;clear k;refine p_a (Za ?_);simp only[pv];rw[hszp,PF (k:=2) _ rfl]at rT;generalize h3t:3*t+1=N3 at*;iterate 4 go_step
    refine rp ?_;refine p_m ?_;simp only[pv];refine p_v _ (n_l (some ⟨gT,0,none⟩) N3 N3 D3) ?_;refine p_v (.int .i64 0) (fun _=>rfl) (Za ?_);simp only[pv];have hPT:gP≠gT:=by omega
    have hMT:gM≠gT:=by omega
    go_wp2_with fail
    go_loopg [15,97] N3 (fun x s15 s97 wr=> ∃(i:Nat) (Y:Nat->Nat),i+x=N3/\s97= .int .i64 i/\Row wr gP (vsC n V) 54/\Row wr gM (vsC n (fun j=>.slice (some ⟨R j,0,none⟩) (t+1) (t+1))) 54/\Row wr gT (esC 2 N3 (fun j=>if j<i then ptC ((j+1:Nat):Int) (.slice (some ⟨Y j,0,none⟩) n n)else ptC 0 (.slice none 0 0))) 84/\PolAt wr w.heap.size (t+1) V B (dlF t F1 F2) n/\FamAt wr w.heap.size (t+1) R (fun a b=>G^(pco (dlL Q t F1 F2 a) b).val%P) n/\FamAt wr w.heap.size n Y (fun a b=>(pev (fi (a+1)) (dlL Q t F1 F2 b)).val) i/\(∀j,j<i->Y j≠gT)/\Below w.heap.size w wr)
    case atStart=>exact⟨0,fun _=>0,by omega,rfl,rP,rM,by rw[Rk (D:=fun _=>ptC 0 (.slice none 0 0)) (fun j _=>if_neg (by omega))];exact rT,hP,hM,M3 _ _ _ _ _,fun j hj=>absurd hj (by omega),sb⟩
    case round=>
     clear rP rM rT hP hM sb;obtain⟨i,Y,hi,rfl,rP,rM,rT,hP,hM,hY,hYxT,sb⟩:=hrel
     cases gk with
     |zero=>
      have hin:N3=i:=by omega
      clear hi;subst hin;rw[Rk (D:=(fun j=>ptC ((j+1:Nat):Int) (.slice (some ⟨Y j,0,none⟩) n n))) (fun j hj=>if_pos hj)]at rT
      go_step
      refine rp ?_;refine p_v _ (Xy N3 N3) (Za ?_);simp only[pv];iterate 8 go_step
      refine rp ?_;refine p_m ?_;refine p_m ?_;refine p_a ?_;refine p_a ?_;refine p_v (.int .i64 0) (fun _=>rfl) (Za ?_);simp only[pv];go_wp2
      go_ret3
      rw[h3t];exact⟨gM,R,gT,Y,rfl,bM,bT,rM,hM,rT,hY,sb⟩
     |succ x=>
      have hlt:i<N3:=by omega
      have hpT: ∀gN,Sn (esC 2 N3 (fun j=>if j<i then ptC ((j+1:Nat):Int) (.slice (some ⟨Y j,0,none⟩) n n)else ptC 0 (.slice none 0 0))) (0+i*2) (ptC ((i+1:Nat):Int) (.slice (some ⟨gN,0,none⟩) n n)).toList=esC 2 N3 (fun j=>if j<i+1 then ptC ((j+1:Nat):Int) (.slice (some ⟨upR Y i gN j,0,none⟩) n n)else ptC 0 (.slice none 0 0)):=fun gN=>by
       have:=M0 (k:=2) (n:=N3) (C:=(fun j=>if j<i then ptC ((j+1:Nat):Int) (.slice (some ⟨Y j,0,none⟩) n n)else ptC 0 (.slice none 0 0))) (D:=(fun j=>if j<i+1 then ptC ((j+1:Nat):Int) (.slice (some ⟨upR Y i gN j,0,none⟩) n n)else ptC 0 (.slice none 0 0))) (fun j=>by split<;>rfl) (fun j=>by split<;>rfl) i hlt (0+i*2) (by omega) (fun j hj hne=>by
        by_cases h2:j<i
        ·rw[if_pos h2,if_pos (by omega),XQ Y h2]
        ·rw[if_neg h2,if_neg (by omega)])
       rw[if_pos (by omega),Wb]at this;exact this
      go_step
      refine rp ?_;refine p_v _ (XK i N3) (Za ?_);simp only[pv];iterate 10 go_step
      refine rp ?_;refine p_m ?_;refine p_a (Za ?_);simp only[pv];iterate 2 go_step
      refine rp ?_;refine p_m ?_;refine p_m ?_;refine p_m ?_;refine p_m ?_;refine p_m ?_;simp only[pv];refine p_v _ (x_a i 1) ?_;simp only[pv];refine p_f 203 func203 #[.pointer (some ⟨g,0,none⟩),.slice (some ⟨gP,0,none⟩) n n,.int .i64 ((i+1:Nat):Int)] (HS.out _ gP V B i sb rP hP (by omega)) ?_;rintro _ z16006 ⟨gY,rfl,nY,rY,hb⟩;refine⟨_,rfl,?_⟩;simp only[pv];have dTxY:=l_l rT.lt nY;have hYxY:=fun j hj=>Nat.ne_of_lt (Nat.lt_of_lt_of_le (hY.lt (j:=j) hj) nY)
      have bY:=Nat.le_trans sb.size nY;clear nY;have k:=Kept.ofBelow hb;clear hb;replace rP:=k.ro rP;replace rM:=k.ro rM;replace rT:=k.ro rT;replace hP:=hP.below k.nil;replace hM:=hM.below k.nil;replace hY:=hY.below k.nil;replace sb:=kk sb k;clear k;refine p_x i hlt underlying63 sizeOf84 ?_;simp only[pv];refine X2 (by rfl) 84 _ _ rfl _ (0+i*2) rfl rT (ptC ((i+1:Nat):Int) (.slice (some ⟨gY,0,none⟩) n n)) rfl (by exact Qx) (by rw[Y1];show 0+i*2+2<=_;omega) (Hq _ _ _ _) (esC 2 N3 (fun j=>if j<i+1 then ptC ((j+1:Nat):Int) (.slice (some ⟨upR Y i gY j,0,none⟩) n n)else ptC 0 (.slice none 0 0))) (hpT gY) ?_;clear rT;intro z16008 rT k;simp only[Act.put];replace rP:=k.ro rP;replace rM:=k.ro rM;replace hP:=hP.on k (fun j hj=>by simpa using hPxT j hj);replace hM:=hM.on k (fun j hj=>by simpa using hMxT j hj);replace hY:=hY.on k (fun j hj=>by simpa using hYxT j hj);replace rY:=k.ro rY;replace sb:=kk sb k;clear k;refine Za ?_;have hY2:=hY.add hYxY bY rY
      have hxT: ∀j,j<i+1->upR Y i gY j≠gT:=fun j hj=>by
       by_cases e:j=i
       ·subst e;rw[Wb];omega
       ·rw[XQ Y (show j<i by omega)];exact hYxT j (by omega)
      clear hY hYxT hYxY rY hpT;generalize upR Y i gY=Y2 at*;iterate 2 go_step
      refine rp ?_;refine p_v _ (x_a i 1) ?_;refine p_m (Za ?_);simp only[pv];go_wp2
      go_roundg x
      case measure=>omega
      case rel=>exact⟨i+1,Y2,by omega,rfl,rP,rM,rT,hP,hM,hY2,hxT,sb⟩
 ·kernel_rfl
end
def hsL (I:Nat->Int)(HB:Nat->Bool)(e:Nat):Nat->List Nat
 |0=>[]
 |k+1=>if(!decide ((hsL I HB e k).length=e)&&(!anB (fun j=>decide (I ((hsL I HB e k).getD j 0)=I k)) (hsL I HB e k).length&&HB k))=true then hsL I HB e k++[k]else hsL I HB e k
section
variable {I:Nat->Int}{HB:Nat->Bool}{e:Nat}
end
theorem FamAt.zero {w:World}{base n m:Nat}{R:Nat->Nat}{V:Nat->Nat->Nat}(h:FamAt w base n R V m):FamAt w 0 n R V m:=⟨h.row,h.dis,fun _ _=>Nat.zero_le _⟩
section
variable {Q:Nat}[NeZero Q]{g gr gf P G:Nat}{w:World}
def rcD (Q:Nat)[NeZero Q](X:Nat->Nat)(Y:Nat->Nat->Nat)(N k j:Nat):Nat:=Bp (wtV (Q:=Q) X N N 0 j) (fun i=>Y i k) Q N
end
def aCF:Nat->Nat:=fun k=>leG^(pco coF k).val%1055500680322183127
section
variable {w:World}{g gr gf:Nat}
def aI:Nat->Int:=fun k=>if k=0 then 4 else if k=1 then 1 else 2
def aB:Nat->Bool:=fun k=> !decide (k=1)
def aX:Nat->Nat:=fun j=>if j=0 then 4 else 2
def aY:Nat->Nat->Nat:=fun j _=>if j=0 then 13 else 9
def aL (a b c:Nat):Array Value:=ptC 4 (.slice (some ⟨a,0,none⟩) 1 1)++ptC 1 (.slice (some ⟨b,0,none⟩) 1 1)++ptC 2 (.slice (some ⟨c,0,none⟩) 1 1)
def aBy:List UInt8:=xmB 1 (fun _=>2) (fun _=>aCF)
end
end Go.Proofs.YtcdahmommonnfaaGreatDoor
