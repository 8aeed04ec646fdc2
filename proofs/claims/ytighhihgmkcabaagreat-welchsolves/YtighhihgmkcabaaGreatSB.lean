import Derived.Test.YtighhihgmkcabaaGreatPY
set_option maxRecDepth 100000
set_option maxHeartbeats 2000000
namespace Go.Proofs.YtighhihgmkcabaaGreat
open Go.RowKit
set_option linter.unusedVariables false
set_option linter.unusedSectionVars false
section
variable {Q:Nat}[NeZero Q]
def PlN (w:World)(base:Nat)(v:Value)(L:List (Fin Q)):Prop:= ∃gT N,v= .slice (some ⟨gT,0,none⟩) L.length N/\base<=gT/\L.length<=N/\Row w gT (nsC N (fun i=>(pco L i).val)) 43
theorem PlN.below {w w':World}{base:Nat}{v:Value}{L:List (Fin Q)}(h:PlN w base v L)(hb:Below w.heap.size w w'):PlN w' base v L:=by
 obtain⟨gT,N,h1,h2,h3,h4⟩:=h
 exact⟨gT,N,h1,h2,h3,h4.belowAll hb⟩
theorem PlN.low {w:World}{base base':Nat}{v:Value}{L:List (Fin Q)}(h:PlN w base v L)(hb:base'<=base):PlN w base' v L:=by
 obtain⟨gT,N,h1,h2,h3,h4⟩:=h
 exact⟨gT,N,h1,Nat.le_trans hb h2,h3,h4⟩
theorem PlN.at' {w:World}{base:Nat}{v:Value}{L:List (Fin Q)}(h:PlN w base v L)(hQ:Q<2^256):PlAt w v L:=by
 obtain⟨gT,N,h1,h2,h3,h4⟩:=h
 exact⟨_,_,gT,0,_,_,h1,(nats_row h4 fun i _=>Nat.lt_trans (pco L i).isLt hQ).take h3⟩
theorem pl_row {w:World}{g n:Nat}{L:List (Fin Q)}(r:Row w g (nsC n (fun i=>(pco L i).val)) 43)(hl:L.length<=n)(hQ:Q<2^256)(c:Nat):PlAt w (.slice (some ⟨g,0,none⟩) L.length c) L:=
 ⟨_,_,g,0,_,_,rfl,(nats_row r fun i _=>Nat.lt_trans (pco L i).isLt hQ).take hl⟩
theorem plN_of {w:World}{g n base:Nat}{F:Nat->Nat}{L:List (Fin Q)}(r:Row w g (nsC n F) 43)(hg:base<=g)(hF: ∀i,i<n->F i<Q)(hL: ∀i,pco (fl n F:List (Fin Q)) i=pco L i):PlN w base (.slice (some ⟨g,0,none⟩) (yTn F n) n) (ptrim L):=by
 obtain⟨h1,h2⟩:=tn_of n F L hF hL
 have h3:=yTn_le F n
 rw[nsC_congr n F (fun i=>(pco (ptrim L) i).val) (fun i hi=>by
  show F i=(pco (ptrim L) i).val
  by_cases e:i<yTn F n
  ·exact h2 i e
  ·rw[yTn_out F n i (by omega) hi,pco_out _ i (by omega)];rfl)]at r
 rw[h1]
 exact⟨g,n,rfl,hg,by omega,r⟩
theorem addPN {g gr gf P G:Nat}{w:World}(va vb:Value)(La Lb:List (Fin Q))(q:FdQ Q)(h:GrpAt w g gr gf P Q G)(ha:PlA w va La)(hb:PlA w vb Lb):
  Calls Tryz.prog 120 #[.pointer (some ⟨g,0,none⟩),va,vb] w fun e w'=> ∃v,e= .returned v/\PlN w' w.heap.size v (psum La Lb)/\Below w.heap.size w w':=by
 obtain⟨ab,n,c,F,gb,ob,bcs,tb,rfl,hn,hna,rfl⟩:=ha
 obtain⟨ae,m,ce,E,ge,oe,ecs,te,rfl,hm,hnb,rfl⟩:=hb
 refine(padd_any _ ab ae n c m ce F E (fO Q) gb ob ge oe bcs ecs tb te w (by omega) (by omega) hna hnb (h.fa q)).mono ?_
 rintro e w' ⟨gx,rfl,hgx,r,hb⟩
 exact⟨_,rfl,plN_of r hgx (fun i _=>Nat.mod_lt _ q.pos) fun i=>ySm_of n F m E i,hb⟩
end
theorem thr_new (g gr gf P Q G n ca ce:Nat)[NeZero Q](ab ae:Option Addr)(X Y:Nat->Nat)(gb ob ge oe:Nat)(bcs ecs:Array Value)(tb te:TypeId)(w:World)(q:FdQ Q)(hn:n<=32)(hn0:0<n)(hdd: ∀i j,i<n->j<n->i≠j->(fi (X i):Fin Q)≠fi (X j))(hna:NatsAt w ab n X gb ob bcs tb)(hnb:NatsAt w ae n Y ge oe ecs te)(h:GrpAt w g gr gf P Q G):
  Calls Tryz.prog 91 #[.pointer (some ⟨g,0,none⟩),.slice ab n ca,.slice ae n ce] w fun e w'=> ∃vf,e= .returned (.tuple #[vf,.int .i64 0])/\PlN w' w.heap.size vf (tTh ivF (fun i=>(fi (X i):Fin Q)) (fun i=>(fi (Y i):Fin Q)) n)/\Below w.heap.size w w':=by
 have HB:Hid (NatsAt w ab n X gb ob bcs tb):=hna
 have HE:Hid (NatsAt w ae n Y ge oe ecs te):=hnb
 have HXl:Hid (∀k,k<n->X k<2^256):=hna.lt
 have HYl:Hid (∀k,k<n->Y k<2^256):=hnb.lt
 have HQm:Hid (Q<2^256):=q.m
 have HQ:Hid (∀x:Fin Q,x.val<2^256):=fun x=>Nat.lt_trans x.isLt q.m
 have HD:Hid (∀k,k<n->pev (fi (X k)) (tGo (fun i=>(fi (X i):Fin Q)) k)≠0):=fun k hk=>tGo_nz q.pr _ _ k fun j hj=>hdd j k (by omega) hk (by omega)
 have HN0:Hid (0<n):=hn0
 clear hna hnb hdd hn0
 obtain⟨ie,hie,hz,hsz,_⟩:=info_nat'
 have hs1: ¬1*ie.size>2^24:=by rw[hsz];decide
 have hs2: ¬1*ie.size=0:=by rw[hsz];decide
 have hs3: ¬2*ie.size>2^24:=by rw[hsz];decide
 have hs4: ¬2*ie.size=0:=by rw[hsz];decide
 have hl1:=fun A=>lit_one A ie.size hsz
 have hl2:=fun A B=>lit_two A B ie.size hsz
 have hg:=fun w' (hb:Below w.heap.size w w')=>pgrp_any (some ⟨g,0,none⟩) (some ⟨gf,0,none⟩) P Q G (some ⟨gr,0,none⟩) w' (h.below hb).kn
 go_enter Tryz.func91,Tryz.ntmps91
 have sb:=sbmk w
 iterate 2 go_step
 refine rp ?_;refine p_v (.slice none 0 0) ((fun _=>rfl)) ?_;refine p_v (.int .i64 0) (fun _=>rfl) (pw_nil ?_);simp only[pv]
 iterate 4 go_step
 refine rp ?_;refine p_m ?_;simp only[pv];refine p_c 119 Tryz.func119 #[.pointer (some ⟨g,0,none⟩)] (hg _ sb) ?_;intro z1001 k;simp only[pv];replace sb:=kk sb k;clear k;refine p_v (.bool false) (exec_not _ _ rfl true rfl) ?_;refine p_m ?_;refine p_m ?_;simp only[pv];refine p_v (.int .i64 n) (n_l ab n ca sl_natsX) ?_;refine p_m ?_;simp only[pv];refine p_v (.int .i64 n) (n_l ae n ce sl_natsX) ?_;simp only[pv];refine p_v (.bool false) (exec_neq_k .i64 _ _ _ _ rfl n n rfl rfl false (by rw[decide_eq_true rfl];rfl)) ?_;refine p_k false (.bool false) ?_;refine p_m ?_;refine p_m ?_;simp only[pv];refine p_v (.int .i64 n) (n_l ab n ca sl_natsX) ?_;refine p_v (.bool false) (gt_f n 32) ?_;refine p_k false (.bool false) (pw_nil ?_);simp only[pv]
 iterate 7 go_step
 refine rp ?_;refine p_v (.slice none 0 0) ((fun _=>rfl)) (pw_nil ?_);simp only[pv]
 iterate 3 go_step
 refine rp ?_;refine p_v (.agg (natC 1)) (exec_buildv _ [(0,.const (.int .u64 1))] rfl [(0,.int .u64 1)] rfl (natC 1) built_one) ?_;simp only[pv];refine pw_litr (by rfl) 23 43 1 _ rfl (natC 1) ie _ Tryz.underlying23 hie hz hs1 hs2 [(0,.agg (natC 1))] rfl (hl1 1) ?_;intro gL z4001 n0 rL k;simp only[pv];clear n0;replace sb:=kk sb k;clear k;refine p_a (pw_nil ?_);simp only[pv]
 have hgo:PlA z4001 (.slice (some ⟨gL,0,none⟩) 1 1) (tGo (fun i=>(fi (X i):Fin Q)) 0):=lit1_pl rL (by decide)
 clear rL
 iterate 4 go_step
 refine rp ?_;refine p_m ?_;simp only[pv];refine p_v (.int .i64 n) (n_l ab n ca sl_natsX) ?_;refine p_v (.int .i64 0) (fun _=>rfl) (pw_nil ?_);simp only[pv]
 go_wp2_with fail
 go_loopg [8,9,10,11,12,32] n (fun x s8 s9 s10 s11 s12 s32 wr=> ∃k:Nat,∃vf vg:Value,k+x=n/\vf=s8/\vg=s9/\s32= .int .i64 k/\PlAt wr vf (tTh ivF (fun i=>(fi (X i):Fin Q)) (fun i=>(fi (Y i):Fin Q)) k)/\PlA wr vg (tGo (fun i=>(fi (X i):Fin Q)) k)/\(k=0∨PlN wr w.heap.size vf (tTh ivF (fun i=>(fi (X i):Fin Q)) (fun i=>(fi (Y i):Fin Q)) k))/\Below w.heap.size w wr)
 case atStart=>exact⟨0,_,_,by omega,rfl,rfl,rfl,plAt_nil _,hgo,.inl rfl,sb⟩
 case round=>
  clear hgo sb
  obtain⟨k,vf,vg,hk,rfl,rfl,rfl,hf,hgo,hpn,sb⟩:=hrel
  cases gk with
  |zero=>
   obtain rfl:k=n:=by omega
   clear hk hf
   have hf:PlN _ w.heap.size vf (tTh ivF (fun i=>(fi (X i):Fin Q)) (fun i=>(fi (Y i):Fin Q)) k):=hpn.resolve_left (by have:=HN0.out;omega)
   clear hpn
   go_step
   refine rp ?_;refine p_v (.bool false) (lt_f k k) (pw_nil ?_);simp only[pv]
   iterate 8 go_step
   refine rp ?_;refine p_m ?_;refine p_a ?_;refine p_v (.int .i64 0) (fun _=>rfl) (pw_nil ?_);simp only[pv]
   go_wp2
   go_ret2
   exact⟨_,rfl,hf,sb⟩
  |succ x=>
   have hlt:k<n:=by omega
   clear hpn
   obtain⟨T,hT⟩: ∃T,pev (fi (X k)) (tGo (fun i=>(fi (X i):Fin Q)) k)=T:=⟨_,rfl⟩
   have hfl:=tTh_length ivF (fun i=>(fi (X i):Fin Q)) (fun i=>(fi (Y i):Fin Q)) k
   have hev:=fun w' (hb:Below w.heap.size w w') (hg:PlA w' vg (tGo (fun i=>(fi (X i):Fin Q)) k))=>evalQ vg _ (X k) (HXl.out k hlt) q (h.below hb) hg
   rw[hT]at hev
   have het:=(HQ.out T)
   go_step
   refine rp ?_;refine p_v (.bool true) (lt_t k n) (pw_nil ?_);simp only[pv]
   iterate 10 go_step
   refine rp ?_;refine p_m ?_;refine p_a (pw_nil ?_);simp only[pv]
   obtain h1|⟨rfl,rB,hbt⟩:=(HB.out.below sb).at'
   ·exact absurd h1 (by omega)
   have hbt':=hbt k hlt
   clear hbt
   iterate 3 go_step
   have cb:=below_self sb
   refine rp ?_;refine p_m ?_;refine p_m ?_;refine p_m ?_;refine p_m ?_;simp only[pv];refine p_x k hlt Tryz.underlying23 size_nat4 ?_;simp only[pv];refine pw_loadm (by rfl) 43 _ rfl _ (ob+k*4) rfl rB (natC (X k)) hbt' _ Tryz.underlying43 rfl size_nat ?_;simp only[pv];refine p_c 69 Tryz.func69 #[.pointer (some ⟨g,0,none⟩),vg,.agg (natC (X k))] (hev _ sb (hgo.below cb)) ?_;intro z8006 k;simp only[pv]
   replace cb:=cb.trans (k.below _ cb.size (by simp<;>omega))
   replace sb:=kk sb k;clear k;refine pw_new (by rfl) 43 rfl _ zero_nat ?_;intro g11 z8007 n0 r11 k;simp only[pv]
   have bcbx11:=Nat.le_trans cb.size n0
   have b11:=Nat.le_trans sb.size n0
   clear n0
   replace cb:=cb.trans (k.below _ cb.size (by simp<;>omega))
   replace sb:=kk sb k;clear k;refine p_p r11 (T.val) ?_;clear r11;intro z8008 r11 k;simp only[Act.put]
   replace cb:=cb.trans (k.below _ cb.size (by simp<;>omega))
   replace sb:=kk sb k;clear k;refine pw_nil ?_;replace hf:=hf.below cb;replace hgo:=hgo.below cb;clear cb
   have hz0:T≠0:=hT▸HD.out k hlt
   ·have hd:decide (T.val%2^256=0%2^256)=false:=by
     rw[Nat.mod_eq_of_lt het]
     exact decide_eq_false fun e=>hz0 ((val_z T).1 e)
    clear hz0
    obtain⟨U,hU⟩: ∃U,pev (fi (X k)) (tTh ivF (fun i=>(fi (X i):Fin Q)) (fun i=>(fi (Y i):Fin Q)) k)=U:=⟨_,rfl⟩
    have hev2:=fun w' (hb:Below w.heap.size w w') (hf:PlAt w' vf (tTh ivF (fun i=>(fi (X i):Fin Q)) (fun i=>(fi (Y i):Fin Q)) k))=>evalQ vf _ (X k) (HXl.out k hlt) q (h.below hb) (hf.arg (by omega))
    rw[hU]at hev2
    obtain⟨MI,hMI⟩: ∃MI,sbN (Y k) U.val Q=MI:=⟨_,rfl⟩
    have hMl:MI<2^256:=by rw[<-hMI];exact Nat.lt_trans (Nat.mod_lt _ q.pos) q.m
    have hsu:=fun w' (hb:Below w.heap.size w w')=>fSub_ok (Y k) U.val g gr gf P Q G w' (HYl.out k hlt) (HQ.out U) q (h.below hb)
    rw[hMI]at hsu
    obtain⟨IV,hIV⟩: ∃IV,invZ T.val Q=IV:=⟨_,rfl⟩
    have hIl:IV<2^256:=by rw[<-hIV];exact Nat.lt_trans (inv_lt _ _ q.pr) q.m
    have hiv:=fun w' (hb:Below w.heap.size w w')=>fInv_ok T.val g gr gf P Q G w' het q (h.below hb)
    rw[hIV]at hiv
    obtain⟨CC,hCC⟩: ∃CC,MI*IV%Q=CC:=⟨_,rfl⟩
    have hCl:CC<2^256:=by rw[<-hCC];exact Nat.lt_trans (Nat.mod_lt _ q.pos) q.m
    have hmu:=fun w' (hb:Below w.heap.size w w')=>fMul_ok MI IV g gr gf P Q G w' hMl hIl q (h.below hb)
    rw[hCC]at hmu
    have hcf:(fi CC:Fin Q)=((fi (Y k)-pev (fi (X k)) (tTh ivF (fun i=>(fi (X i):Fin Q)) (fun i=>(fi (Y i):Fin Q)) k))*ivF (pev (fi (X k)) (tGo (fun i=>(fi (X i):Fin Q)) k))):=by
     rw[hU,hT]
     unfold ivF
     rw[hIV,<-hCC,fi_mod,fi_mul,<-hMI]
     unfold sbN
     rw[fi_sub,fi_of]
    obtain⟨SX,hSX⟩: ∃SX,sbN 0 (X k) Q=SX:=⟨_,rfl⟩
    have hSl:SX<2^256:=by rw[<-hSX];exact Nat.lt_trans (Nat.mod_lt _ q.pos) q.m
    have hs0:=fun w' (hb:Below w.heap.size w w')=>fSub_ok 0 (X k) g gr gf P Q G w' (by decide) (HXl.out k hlt) q (h.below hb)
    rw[hSX]at hs0
    have hsf:(fi SX:Fin Q)=0-fi (X k):=by
     rw[<-hSX]
     unfold sbN
     rw[fi_sub]
     rfl
    have hgl:=tGo_length (fun i=>(fi (X i):Fin Q)) k
    have hpm:=fun w' g2 (hb:Below w.heap.size w w') (hg:PlA w' vg (tGo (fun i=>(fi (X i):Fin Q)) k)) (r:Row w' g2 (natC CC) 43)=>mulQ vg (.slice (some ⟨g2,0,none⟩) 1 1) _ [fi CC] q (h.below hb) hg (lit1_pl r hCl)
    have hpa:=fun w' (v2:Value) (hb:Below w.heap.size w w') (hf:PlAt w' vf (tTh ivF (fun i=>(fi (X i):Fin Q)) (fun i=>(fi (Y i):Fin Q)) k)) (h2:PlAt w' v2 (pmul (tGo (fun i=>(fi (X i):Fin Q)) k) [fi CC]))=>(addPN vf v2 _ _ q (h.below hb) (hf.arg (by omega)) (h2.arg (by have:=pmul_length (tGo (fun i=>(fi (X i):Fin Q)) k) [(fi CC:Fin Q)];simp only[List.length_cons,List.length_nil]at this;omega))).mono (R':=fun e w2=> ∃v,e=Ending.returned v/\PlN w2 w.heap.size v (psum (tTh ivF (fun i=>(fi (X i):Fin Q)) (fun i=>(fi (Y i):Fin Q)) k) (pmul (tGo (fun i=>(fi (X i):Fin Q)) k) [fi CC]))/\Below w'.heap.size w' w2) (fun e w2 ⟨v,h1,h2,h3⟩=>⟨v,h1,h2.low hb.size,h3⟩)
    have hpg:=fun w' g2 (hb:Below w.heap.size w w') (hg:PlA w' vg (tGo (fun i=>(fi (X i):Fin Q)) k)) (r:Row w' g2 (natC SX++natC 1) 43)=>mulQ vg (.slice (some ⟨g2,0,none⟩) 2 2) _ [fi SX,fi 1] q (h.below hb) hg (lit2_pl r hSl (by decide))
    have hthr:psum (tTh ivF (fun i=>(fi (X i):Fin Q)) (fun i=>(fi (Y i):Fin Q)) k) (pmul (tGo (fun i=>(fi (X i):Fin Q)) k) [fi CC])=tTh ivF (fun i=>(fi (X i):Fin Q)) (fun i=>(fi (Y i):Fin Q)) (k+1):=by rw[hcf];rfl
    have hgor:pmul (tGo (fun i=>(fi (X i):Fin Q)) k) [fi SX,fi 1]=tGo (fun i=>(fi (X i):Fin Q)) (k+1):=by rw[hsf];rfl
    rw[hthr]at hpa
    rw[hgor]at hpg
    have hgl2:=tGo_length (fun i=>(fi (X i):Fin Q)) (k+1)
    clear hthr hgor hcf hsf hMI hIV hCC hSX hT hU hev
    obtain h1|⟨rfl,rE,het2⟩:=(HE.out.below sb).at'
    ·exact absurd h1 (by omega)
    clear rE rB
    have het2':=het2 k hlt
    clear het2
    iterate 4 go_step
    refine rp ?_;refine p_l r11.r ?_;simp only[pv];refine p_v (.agg (natC 0)) (exec_build0 _ rfl _ built_nat) ?_;simp only[pv];refine p_v (.bool false) (fun w'=>(exec_eql_nat _ _ _ rfl T.val 0 rfl rfl w').trans (by rw[hd])) (pw_nil ?_);simp only[pv]
    obtain h1|⟨_,rB,_⟩:=(HB.out.below sb).at'
    ·exact absurd h1 (by omega)
    obtain h1|⟨_,rE,_⟩:=(HE.out.below sb).at'
    ·exact absurd h1 (by omega)
    iterate 7 go_step
    apply wp_region_mix (by kernel_rfl) [] [_,_,_,_,_,_,_,_,_,_,_,_,_,_,_] trivial List.nodup_nil
    ·intro p;refine m_m ?_;refine m_m ?_;refine m_m ?_;simp only[pv];refine m_x k hlt Tryz.underlying23 size_nat4 ?_;simp only[pv];refine mx_loadmR 43 _ rfl _ (oe+k*4) rfl rE (by simp<;>omega) (natC (Y k)) het2' _ Tryz.underlying43 rfl size_nat ?_;refine m_m ?_;refine m_m ?_;refine m_m ?_;refine m_m ?_;simp only[pv];refine m_x k hlt Tryz.underlying23 size_nat4 ?_;simp only[pv];refine mx_loadmR 43 _ rfl _ (ob+k*4) rfl rB (by simp<;>omega) (natC (X k)) hbt' _ Tryz.underlying43 rfl size_nat ?_;simp only[pv]
     refine m_k 69 Tryz.func69 #[.pointer (some ⟨g,0,none⟩),vf,.agg (natC (X k))] (fun w' hk=>hev2 w' (sb.trans (hk.below w.heap.size sb.size (by simp<;>omega))) (hf.below hk.nil)) ?_
     simp only[pv]
     refine m_k 55 Tryz.func55 #[.pointer (some ⟨g,0,none⟩),.agg (natC (Y k)),.agg (natC U.val)] (fun w' hk=>hsu w' (sb.trans (hk.below w.heap.size sb.size (by simp<;>omega)))) ?_
     simp only[pv];refine m_n ?_;simp only[pv];refine m_p 27 MI ?_;simp only[Act.put];refine mx_end ?_;intro w2 hkw hrw hnew hdis
     have r12:Row w2 (p 13) (natC MI) 43:=hrw 27 (43,natC MI) rfl
     replace r11:=hkw.row r11 (by simp)
     replace hf:=hf.below hkw.nil;replace hgo:=hgo.below hkw.nil
     replace sb:=sb.trans (hkw.below w.heap.size sb.size (by simp))
     clear hkw hrw hnew hdis rB rE
     generalize p 13=g12 at*
     iterate 3 go_step
     refine wp_region_ewb (by kernel_rfl) [] [(0,false),(1,false),(2,false),(3,false),(4,false),(5,false),(6,false),(7,false),(8,false),(9,false),(10,true),(11,true),(12,true),(13,false)] ?_ (by kernel_rfl)
     have or11:=r11
     have or12:=r12
     have cb:=below_self sb
     have osb:=sb
     refine e_m ?_;refine e_m ?_;refine e_m ?_;refine e_m ?_;refine e_m ?_;simp only[pv];refine ew_loadm (by rfl) 43 _ rfl _ 0 rfl (fun _ hb=>(or12.belowAll hb).r) _ (part_all _) _ Tryz.underlying43 rfl size_nat ?_;refine e_m ?_;simp only[pv];refine ew_loadm (by rfl) 43 _ rfl _ 0 rfl (fun _ hb=>(or11.belowAll hb).r) _ (part_all _) _ Tryz.underlying43 rfl size_nat ?_;simp only[pv];refine ew_call (by rfl) 51 _ _ rfl Tryz.func51 (by kernel_rfl) #[.pointer (some ⟨g,0,none⟩),.agg (natC T.val)] rfl _ (fun w' hb=>hiv w' (below_on osb (Nat.le_refl _) hb)) ?_;simp only[pv];refine ew_call (by rfl) 53 _ _ rfl Tryz.func53 (by kernel_rfl) #[.pointer (some ⟨g,0,none⟩),.agg (natC MI),.agg (natC IV)] rfl _ (fun w' hb=>hmu w' (below_on osb (Nat.le_refl _) hb)) ?_;simp only[pv];refine ew_litr (by rfl) 23 43 1 _ rfl (natC CC) ie _ Tryz.underlying23 hie hz hs1 hs2 [(0,.agg (natC CC))] rfl (hl1 CC) ?_;intro wa10 hqb gC wb10 n0 rC hb
     refine⟨fun _=>below_on (below_on cb (Nat.le_refl _) hqb) (Nat.le_refl _) hb,?_⟩
     simp only[pv];replace hf:=hf.below hqb;replace hgo:=hgo.below hqb;replace r11:=r11.belowAll hqb;replace r12:=r12.belowAll hqb;replace sb:=b_o sb hqb;replace cb:=b_o cb hqb;replace hf:=hf.below hb;replace hgo:=hgo.below hb;replace r11:=r11.belowAll hb;replace r12:=r12.belowAll hb;replace sb:=b_o sb hb;replace cb:=b_o cb hb;clear hqb hb n0;refine ew_callE (by rfl) 121 _ _ rfl Tryz.func121 (by kernel_rfl) #[.pointer (some ⟨g,0,none⟩),vg,.slice (some ⟨gC,0,none⟩) 1 1] rfl ?_;intro wa11 hqb;replace hf:=hf.below hqb;replace hgo:=hgo.below hqb;replace r11:=r11.belowAll hqb;replace r12:=r12.belowAll hqb;replace rC:=rC.belowAll hqb;replace sb:=b_o sb hqb;replace cb:=b_o cb hqb;clear hqb;refine(hpm _ gC sb hgo rC).mono ?_
     rintro _ wb11 ⟨vm,rfl,hm,hb⟩
     refine⟨_,rfl,fun _=>below_on cb (Nat.le_refl _) hb,?_⟩
     simp only[pv];replace hf:=hf.below hb;replace hgo:=hgo.below hb;replace r11:=r11.belowAll hb;replace r12:=r12.belowAll hb;replace rC:=rC.belowAll hb;replace sb:=b_o sb hb;replace cb:=b_o cb hb;clear hb;refine ew_callE (by rfl) 120 _ _ rfl Tryz.func120 (by kernel_rfl) #[.pointer (some ⟨g,0,none⟩),vf,vm] rfl ?_;intro wa12 hqb;replace hf:=hf.below hqb;replace hgo:=hgo.below hqb;replace r11:=r11.belowAll hqb;replace r12:=r12.belowAll hqb;replace rC:=rC.belowAll hqb;replace hm:=hm.below hqb;replace sb:=b_o sb hqb;replace cb:=b_o cb hqb;clear hqb;refine(hpa _ vm sb hf hm).mono ?_
     rintro _ wb12 ⟨vn,rfl,hn2,hb⟩
     refine⟨_,rfl,fun _=>below_on cb (Nat.le_refl _) hb,?_⟩
     simp only[pv];replace hf:=hf.below hb;replace hgo:=hgo.below hb;replace r11:=r11.belowAll hb;replace r12:=r12.belowAll hb;replace rC:=rC.belowAll hb;replace hm:=hm.below hb;replace sb:=b_o sb hb;replace cb:=b_o cb hb;clear hb;refine ew_as (by rfl) rfl rfl ?_;simp only[pv];refine ew_nil ?_;intro wz hqb;replace hf:=hf.below hqb;replace hgo:=hgo.below hqb;replace r11:=r11.belowAll hqb;replace r12:=r12.belowAll hqb;replace rC:=rC.belowAll hqb;replace hm:=hm.below hqb;replace hn2:=hn2.below hqb;replace sb:=b_o sb hqb;clear hqb cb osb or11 or12
     obtain h1|⟨_,rB,_⟩:=(HB.out.below sb).at'
     ·exact absurd h1 (by omega)
     iterate 2 go_step
     refine rp ?_;refine p_m ?_;refine p_m ?_;refine p_m ?_;simp only[pv];refine p_v (.agg (natC 0)) (exec_build0 _ rfl _ built_nat) ?_;refine p_m ?_;refine p_m ?_;simp only[pv];refine p_x k hlt Tryz.underlying23 size_nat4 ?_;simp only[pv];refine pw_loadm (by rfl) 43 _ rfl _ (ob+k*4) rfl rB (natC (X k)) hbt' _ Tryz.underlying43 rfl size_nat ?_;simp only[pv];refine p_c 55 Tryz.func55 #[.pointer (some ⟨g,0,none⟩),.agg (natC 0),.agg (natC (X k))] (hs0 _ sb) ?_;intro z13008 k;simp only[pv];replace hgo:=hgo.below k.nil;replace hn2:=hn2.below k.nil;replace sb:=kk sb k;clear k;refine p_v (.agg (natC 1)) (exec_buildv _ [(0,.const (.int .u64 1))] rfl [(0,.int .u64 1)] rfl (natC 1) built_one) ?_;simp only[pv];refine pw_litr (by rfl) 23 43 2 _ rfl (natC SX++natC 1) ie _ Tryz.underlying23 hie hz hs3 hs4 [(0,.agg (natC SX)),(1,.agg (natC 1))] rfl (hl2 SX 1) ?_;intro gL z13010 n0 rL k;simp only[pv];clear n0;replace hgo:=hgo.below k.nil;replace hn2:=hn2.below k.nil;replace sb:=kk sb k;clear k;refine p_f 121 Tryz.func121 #[.pointer (some ⟨g,0,none⟩),vg,.slice (some ⟨gL,0,none⟩) 2 2] (hpg _ gL sb hgo rL) ?_
     rintro _ z13011 ⟨vh,rfl,hh,hb⟩
     refine⟨_,rfl,?_⟩
     simp only[pv]
     have k:=Kept.ofBelow hb
     clear hb;replace hgo:=hgo.below k.nil;replace hn2:=hn2.below k.nil;replace rL:=k.ro rL;replace sb:=kk sb k;clear k;refine p_a (pw_nil ?_);simp only[pv]
     iterate 2 go_step
     refine rp ?_;refine p_v (.int .i64 ((k+1:Nat):Int)) (x_a k 1) ?_;refine p_m (pw_nil ?_);simp only[pv]
     go_wp2
     go_roundg x
     case measure=>omega
     case rel=>exact⟨k+1,_,_,by omega,rfl,rfl,rfl,hn2.at' HQm.out,hh.arg (by omega),.inr hn2,sb⟩
    ·kernel_rfl
theorem sgrp_any (v f:Option Addr)(P Q G:Nat)(r:Option Addr)(w:World)(h:KnAt w v P Q G r f):
  Calls Tryz.prog 60 #[.pointer v] w fun e w'=>e= .returned (.bool (!f.isNone))/\Below w.heap.size w w':=by
 have hf:=fun w' (hb:Below w.heap.size w w')=>grpField_any v P Q G r f w' (h.below hb)
 go_enter Tryz.func60,Tryz.ntmps60
 have sb:=sbmk w
 iterate 2 go_step
 refine rp ?_;refine p_v (.bool false) (fun _=>rfl) (pw_nil ?_);simp only[pv]
 iterate 3 go_step
 refine rp ?_;refine p_m ?_;simp only[pv];refine p_c 43 Tryz.func43 #[.pointer v] (hf _ sb) ?_;intro z1001 k;simp only[pv];replace sb:=kk sb k;clear k;refine p_v (.bool (!f.isNone)) (exec_neq_nilp _ _ _ _ rfl f rfl rfl ptr_ring8) ?_;refine p_a (pw_nil ?_);simp only[pv]
 go_wp2
 go_ret
 exact⟨rfl,sb⟩
theorem apart_any {fn:Func}(n:Nat)(least:Int)(f:FuncId)(caps:Array Value)(Z:Nat->Int)(w:World)(hf:Tryz.prog.funcs[f]?=some fn)(hb0:(fn.name== "runtime.NumGoroutine" ||fn.body.isNone)=false)(hn:n<9223372036854775808)(hl:0<=least)
  (hc: ∀k:Nat,k<n-> ∀w',Below w.heap.size w w'->Calls Tryz.prog f (#[.int .i64 k]++caps) w' (Rt (.int .i64 (Z k)) w')):
  Calls Tryz.prog 61 #[.int .i64 n,.int .i64 least,.func (.func f) #[] caps] w fun e w'=>e= .returned (.bool (apB least Z n))/\Below w.heap.size w w':=by
 go_enter Tryz.func61,Tryz.ntmps61
 have sb:=sbmk w
 iterate 2 go_step
 refine rp ?_;refine p_v (.bool false) (fun _=>rfl) (pw_nil ?_);simp only[pv]
 iterate 3 go_step
 refine rp ?_;refine pw_new (by rfl) 128 rfl _ zero_b8 ?_;intro g7 z1000 n0 r7 k;simp only[pv]
 have b7:=Nat.le_trans sb.size n0
 clear n0;replace sb:=kk sb k;clear k;refine pw_nil ?_
 iterate 4 go_step
 refine rp ?_;refine p_m ?_;refine p_v (.int .i64 0) (fun _=>rfl) (pw_nil ?_);simp only[pv]
 go_wp2_with fail
 go_loopg [8,9,11] n (fun x s8 s9 s11 wr=> ∃k:Nat,k+x=n/\s11= .int .i64 k/\apB least Z k=true/\Row wr g7 (vsC 8 (fun v=>.bool (snB Z (k) v))) 128/\Below w.heap.size w wr)
 case atStart=>exact⟨0,by omega,rfl,rfl,r7,sb⟩
 case round=>
  clear r7 sb
  obtain⟨k,hk,rfl,hap,r7,sb⟩:=hrel
  cases gk with
  |zero=>
   obtain rfl:k=n:=by omega
   have HF:Hid (apB least Z k=true):=hap
   clear hk hc hap
   go_step
   refine rp ?_;refine p_v (.bool false) (lt_f k k) (pw_nil ?_);simp only[pv]
   iterate 8 go_step
   refine rp ?_;refine p_v (.bool true) (fun _=>rfl) (pw_nil ?_);simp only[pv]
   go_wp2
   go_ret
   exact⟨by rw[HF.out];rfl,sb⟩
  |succ x=>
   have hlt:k<n:=by omega
   have hck:=hc k hlt
   have hst:=apB_step least Z k
   clear hc
   by_cases h1:Z k<least
   ·have HF:Hid (apB least Z n=false):=apB_up (k:=k+1) (Bool.eq_false_iff.2 fun h=>absurd (hst.1 h).2.1 (by omega)) n (by omega)
    clear hst hap
    go_step
    refine rp ?_;refine p_v (.bool true) (lt_t k n) (pw_nil ?_);simp only[pv]
    iterate 10 go_step
    refine rp ?_;refine p_m ?_;refine p_a (pw_nil ?_);simp only[pv]
    iterate 3 go_step
    refine rp ?_;refine p_m ?_;refine p_m ?_;simp only[pv];refine pw_callC (by rfl) (f) _ _ _ rfl (caps) rfl (hf) (hb0) #[.int .i64 (k:Nat)] rfl _ (hck _ sb) ?_;intro z5002 k;simp only[pv];replace r7:=k.ro r7;replace sb:=kk sb k;clear k;refine p_a (pw_nil ?_);simp only[pv]
    iterate 4 go_step
    refine rp ?_;refine p_m ?_;refine p_m ?_;simp only[pv];refine p_v (.bool true) (exec_lt_b _ _ _ _ rfl (Z k) least rfl rfl true (decide_eq_true h1)) ?_;refine p_m ?_;refine p_s ?_;refine p_s ?_;refine p_k true (.bool true) ?_;simp only[pv];refine p_m ?_;refine p_s ?_;refine p_s ?_;refine p_s ?_;refine p_k true (.bool true) (pw_nil ?_);simp only[pv]
    iterate 4 go_step
    refine rp ?_;refine p_v (.bool false) (fun _=>rfl) (pw_nil ?_);simp only[pv]
    go_wp2
    go_ret
    exact⟨by rw[HF.out];rfl,sb⟩
   ·by_cases h2:7<Z k
    ·have HF:Hid (apB least Z n=false):=apB_up (k:=k+1) (Bool.eq_false_iff.2 fun h=>absurd (hst.1 h).2.2.1 (by omega)) n (by omega)
     clear hst hap
     go_step
     refine rp ?_;refine p_v (.bool true) (lt_t k n) (pw_nil ?_);simp only[pv]
     iterate 10 go_step
     refine rp ?_;refine p_m ?_;refine p_a (pw_nil ?_);simp only[pv]
     iterate 3 go_step
     refine rp ?_;refine p_m ?_;refine p_m ?_;simp only[pv];refine pw_callC (by rfl) (f) _ _ _ rfl (caps) rfl (hf) (hb0) #[.int .i64 (k:Nat)] rfl _ (hck _ sb) ?_;intro z5002 k;simp only[pv];replace r7:=k.ro r7;replace sb:=kk sb k;clear k;refine p_a (pw_nil ?_);simp only[pv]
     iterate 4 go_step
     refine rp ?_;refine p_m ?_;refine p_m ?_;simp only[pv];refine p_v (.bool false) (exec_lt_b _ _ _ _ rfl (Z k) least rfl rfl false (decide_eq_false h1)) ?_;refine p_m ?_;refine p_m ?_;simp only[pv];refine p_v (.bool true) (exec_gt_i _ _ _ _ rfl (Z k) 7 rfl rfl true (decide_eq_true h2)) ?_;refine p_k false (.bool true) ?_;refine p_m ?_;refine p_s ?_;refine p_s ?_;simp only[pv];refine p_s ?_;refine p_k true (.bool true) (pw_nil ?_);simp only[pv]
     iterate 4 go_step
     refine rp ?_;refine p_v (.bool false) (fun _=>rfl) (pw_nil ?_);simp only[pv]
     go_wp2
     go_ret
     exact⟨by rw[HF.out];rfl,sb⟩
    ·obtain⟨v,hv⟩: ∃v:Nat,Z k=v:=⟨(Z k).toNat,by omega⟩
     have hv8:v<8:=by omega
     rw[hv]at hck h1 h2 hst
     cases hs:snB Z k v with
     |true=>
      have HF:Hid (apB least Z n=false):=apB_up (k:=k+1) (Bool.eq_false_iff.2 fun h=>absurd (hst.1 h).2.2.2 (by rw[hs];decide)) n (by omega)
      clear hst hap
      go_step
      refine rp ?_;refine p_v (.bool true) (lt_t k n) (pw_nil ?_);simp only[pv]
      iterate 10 go_step
      refine rp ?_;refine p_m ?_;refine p_a (pw_nil ?_);simp only[pv]
      iterate 3 go_step
      refine rp ?_;refine p_m ?_;refine p_m ?_;simp only[pv];refine pw_callC (by rfl) (f) _ _ _ rfl (caps) rfl (hf) (hb0) #[.int .i64 (k:Nat)] rfl _ (hck _ sb) ?_;intro z5002 k;simp only[pv];replace r7:=k.ro r7;replace sb:=kk sb k;clear k;refine p_a (pw_nil ?_);simp only[pv]
      iterate 4 go_step
      refine rp ?_;refine p_m ?_;refine p_m ?_;simp only[pv];refine p_v (.bool false) (exec_lt_b _ _ _ _ rfl (v:Nat) least rfl rfl false (decide_eq_false h1)) ?_;refine p_m ?_;refine p_m ?_;simp only[pv];refine p_v (.bool false) (exec_gt_i _ _ _ _ rfl (v:Nat) 7 rfl rfl false (decide_eq_false h2)) ?_;refine p_k false (.bool false) ?_;refine p_m ?_;refine p_m ?_;simp only[pv];refine p_v (.pointer (some ⟨g7,v,none⟩)) (exec_index 128 _ _ rfl g7 rfl v 8 rfl hv8 _ Tryz.underlying128 Tryz.sizeOf4) ?_;simp only[pv];refine p_d v r7.r (.bool true) ((vsC_get _ hv8).trans (by rw[hs])) Tryz.isAgg4 ?_;refine p_k false (.bool true) (pw_nil ?_);simp only[pv]
      iterate 4 go_step
      refine rp ?_;refine p_v (.bool false) (fun _=>rfl) (pw_nil ?_);simp only[pv]
      go_wp2
      go_ret
      exact⟨by rw[HF.out];rfl,sb⟩
     |false=>
      have hap2:apB least Z (k+1)=true:=hst.2 ⟨hap,by omega,by omega,hs⟩
      have hput:(vsC 8 (fun v=>.bool (snB Z (k) v))).setIfInBounds v (.bool true)=vsC 8 (fun v=>.bool (snB Z (k+1) v)):=vsC_put hv8 (by show Value.bool (snB Z k _||decide (Z k=_))=_;rw[hv,decide_eq_true rfl,Bool.or_true]) (fun j hj hne=>by show Value.bool (snB Z k _||decide (Z k=_))=_;rw[hv,decide_eq_false (by omega),Bool.or_false])
      clear hst hap
      go_step
      refine rp ?_;refine p_v (.bool true) (lt_t k n) (pw_nil ?_);simp only[pv]
      iterate 10 go_step
      refine rp ?_;refine p_m ?_;refine p_a (pw_nil ?_);simp only[pv]
      iterate 3 go_step
      refine rp ?_;refine p_m ?_;refine p_m ?_;simp only[pv];refine pw_callC (by rfl) (f) _ _ _ rfl (caps) rfl (hf) (hb0) #[.int .i64 (k:Nat)] rfl _ (hck _ sb) ?_;intro z5002 k;simp only[pv];replace r7:=k.ro r7;replace sb:=kk sb k;clear k;refine p_a (pw_nil ?_);simp only[pv]
      iterate 4 go_step
      refine rp ?_;refine p_m ?_;refine p_m ?_;simp only[pv];refine p_v (.bool false) (exec_lt_b _ _ _ _ rfl (v:Nat) least rfl rfl false (decide_eq_false h1)) ?_;refine p_m ?_;refine p_m ?_;simp only[pv];refine p_v (.bool false) (exec_gt_i _ _ _ _ rfl (v:Nat) 7 rfl rfl false (decide_eq_false h2)) ?_;refine p_k false (.bool false) ?_;refine p_m ?_;refine p_m ?_;simp only[pv];refine p_v (.pointer (some ⟨g7,v,none⟩)) (exec_index 128 _ _ rfl g7 rfl v 8 rfl hv8 _ Tryz.underlying128 Tryz.sizeOf4) ?_;simp only[pv];refine p_d v r7.r (.bool false) ((vsC_get _ hv8).trans (by rw[hs])) Tryz.isAgg4 ?_;refine p_k false (.bool false) (pw_nil ?_);simp only[pv]
      iterate 6 go_step
      refine rp ?_;refine p_m ?_;simp only[pv];refine p_v (.pointer (some ⟨g7,v,none⟩)) (exec_index 128 _ _ rfl g7 rfl v 8 rfl hv8 _ Tryz.underlying128 Tryz.sizeOf4) ?_;simp only[pv];refine pw_putv (by rfl) 4 _ _ rfl _ (v) rfl r7 (.bool true) rfl rfl rfl size1tbool (by rw[vsC_size];omega) (vsC 8 (fun v=>.bool (snB Z (k+1) v))) hput ?_;clear r7;intro z8002 r7 k;simp only[Act.put];replace sb:=kk sb k;clear k;refine pw_nil ?_;clear hput
      iterate 2 go_step
      refine rp ?_;refine p_v (.int .i64 ((k+1:Nat):Int)) (x_a k 1) ?_;refine p_m (pw_nil ?_);simp only[pv]
      go_wp2
      go_roundg x
      case measure=>omega
      case rel=>exact⟨k+1,by omega,rfl,hap2,r7,sb⟩
section
variable {Q:Nat}[NeZero Q]{g gr gf P G:Nat}{w:World}
theorem shareOf_any (va:Value)(La:List (Fin Q))(i:Nat)(hi:i<1000)(q:FdQ Q)(h:GrpAt w g gr gf P Q G)(ha:PlA w va La):
  Calls Tryz.prog 66 #[.pointer (some ⟨g,0,none⟩),va,.int .i64 i] w fun e w'=>e= .returned (.agg (shC i (pev (fi i) La).val))/\Below w.heap.size w w':=by
 have hof:=fun w'=>nof_any (i:Int) w' (by omega)
 rw[Int.toNat_natCast]at hof
 have hev:=fun w' (hb:Below w.heap.size w w')=>evalQ va La i (by omega) q (h.below hb) (ha.below hb)
 generalize (pev (fi i) La).val=Y at*
 go_enter Tryz.func66,Tryz.ntmps66
 iterate 2 go_step
 refine rp ?_;refine pw_new (by rfl) 46 rfl _ zero_sh ?_;intro g6 z0 n0 r6 k;simp only[pv]
 have b6:w.heap.size<=g6:=n0
 clear n0
 have sb:=k_b k
 clear k;refine pw_nil ?_
 iterate 3 go_step
 refine rp ?_;refine p_m ?_;refine p_m ?_;refine p_m ?_;refine p_m ?_;simp only[pv];refine p_c 40 Tryz.func40 #[.int .i64 i] (hof _) ?_;intro z1004 k;simp only[pv];replace r6:=k.ro r6;replace sb:=kk sb k;clear k;refine p_c 69 Tryz.func69 #[.pointer (some ⟨g,0,none⟩),va,.agg (natC i)] (hev _ sb) ?_;intro z1005 k;simp only[pv];replace r6:=k.ro r6;replace sb:=kk sb k;clear k;refine p_v (.agg (shC i Y)) (exec_buildv _ [(0,.tmp 7),(1,.tmp 12)] rfl [(0,.int .i64 i),(1,.agg (natC Y))] rfl (shC i Y) (built_sh _ _)) ?_;simp only[pv];refine pw_put (by rfl) 46 _ _ rfl _ rfl r6 (shC i Y) rfl (by exact size_sh) (by rfl) (sh_one _ _) ?_;clear r6;intro z1007 r6 k;simp only[Act.put];replace sb:=kk sb k;clear k;refine pw_nil ?_
 go_wp2
 exact ret_rowd rfl _ rfl r6 _ Tryz.underlying46 size_sh rfl ⟨rfl,sb⟩
end
def anB (B:Nat->Bool):Nat->Bool
 |0=>false
 |n+1=>anB B n||B n
theorem anB_iff (B:Nat->Bool): ∀n,anB B n=true↔ ∃k,k<n/\B k=true
 |0=>⟨fun h=>(by cases h),fun⟨k,hk,_⟩=>absurd hk (by omega)⟩
 |n+1=>by
  show(anB B n||B n)=true↔_
  rw[Bool.or_eq_true,anB_iff B n]
  constructor
  ·rintro(⟨k,hk,e⟩|e)
   ·exact⟨k,by omega,e⟩
   ·exact⟨n,by omega,e⟩
  ·rintro⟨k,hk,e⟩
   by_cases h:k=n
   ·exact .inr (h▸e)
   ·exact .inl ⟨k,by omega,e⟩
theorem idxf_any {fn:Func}(ab:Option Addr)(n c:Nat)(I:Nat->Int)(Y:Nat->Nat)(gb ob:Nat)(bcs:Array Value)(tb:TypeId)(f:FuncId)(caps:Array Value)(B:Nat->Bool)(w:World)(hf:Tryz.prog.funcs[f]?=some fn)(hb0:(fn.name== "runtime.NumGoroutine" ||fn.body.isNone)=false)(hn:n<4611686018427387904)(hna:ElsAt 5 w ab n (fun k=>shC (I k) (Y k)) gb ob bcs tb)
  (hc: ∀k:Nat,k<n-> ∀w',Below w.heap.size w w'->Calls Tryz.prog f (#[.agg (shC (I k) (Y k))]++caps) w' (Rt (.bool (B k)) w')):
  Calls Tryz.prog 92 #[.slice ab n c,.func (.func f) #[] caps] w fun e w'=> ∃z:Int,e= .returned (.int .i64 z)/\decide (0<=z)=anB B n/\Below w.heap.size w w':=by
 have HB:Hid (ElsAt 5 w ab n (fun k=>shC (I k) (Y k)) gb ob bcs tb):=hna
 clear hna
 go_enter Tryz.func92,Tryz.ntmps92
 have sb:=sbmk w
 iterate 2 go_step
 refine rp ?_;refine p_v (.int .i64 0) (fun _=>rfl) (pw_nil ?_);simp only[pv]
 iterate 4 go_step
 refine rp ?_;refine p_m ?_;simp only[pv];refine p_v (.int .i64 n) (n_l ab n c sl_shs) ?_;refine p_v (.int .i64 0) (fun _=>rfl) (pw_nil ?_);simp only[pv]
 go_wp2_with fail
 go_loopg [5,8] n (fun x s5 s8 wr=> ∃k:Nat,k+x=n/\s8= .int .i64 k/\anB B k=false/\Below w.heap.size w wr)
 case atStart=>exact⟨0,by omega,rfl,rfl,sb⟩
 case round=>
  clear sb
  obtain⟨k,hk,rfl,han,sb⟩:=hrel
  cases gk with
  |zero=>
   obtain rfl:k=n:=by omega
   have HF:Hid (anB B k=false):=han
   clear hk hc han
   go_step
   refine rp ?_;refine p_v (.bool false) (lt_f k k) (pw_nil ?_);simp only[pv]
   iterate 8 go_step
   refine rp ?_;refine p_v (.int .i64 (-1)) ((fun _=>rfl)) (pw_nil ?_);simp only[pv]
   go_wp2
   go_ret
   exact⟨_,rfl,by rw[HF.out];rfl,sb⟩
  |succ x=>
   have hlt:k<n:=by omega
   have hck:=hc k hlt
   clear hc
   obtain h0|⟨rfl,rB,hbt⟩:=(HB.out.below sb).at'
   ·exact absurd h0 (by omega)
   have hbt':=hbt k hlt
   clear hbt
   go_step
   refine rp ?_;refine p_v (.bool true) (lt_t k n) (pw_nil ?_);simp only[pv]
   iterate 10 go_step
   refine rp ?_;refine p_m ?_;refine p_a (pw_nil ?_);simp only[pv]
   cases hBk:B k with
   |true=>
    have HF:Hid (anB B n=true):=(anB_iff B n).2 ⟨k,hlt,hBk⟩
    rw[hBk]at hck
    iterate 3 go_step
    refine rp ?_;refine p_m ?_;refine p_m ?_;refine p_m ?_;simp only[pv];refine p_x k hlt Tryz.underlying47 size_sh5 ?_;simp only[pv];refine pw_loadm (by rfl) 46 _ rfl _ (ob+k*5) rfl rB (shC (I k) (Y k)) hbt' _ Tryz.underlying46 rfl size_sh ?_;simp only[pv];refine pw_callC (by rfl) (f) _ _ _ rfl (caps) rfl (hf) (hb0) #[.agg (shC (I k) (Y k))] rfl _ (hck _ sb) ?_;intro z4005 k;simp only[pv];replace sb:=kk sb k;clear k;refine pw_nil ?_;clear rB
    iterate 4 go_step
    refine rp ?_;refine p_m ?_;refine p_a (pw_nil ?_);simp only[pv]
    go_wp2
    go_ret
    exact⟨_,rfl,by rw[HF.out];exact decide_eq_true (by omega),sb⟩
   |false=>
    have hnx:anB B (k+1)=false:=by
     show(anB B k||B k)=false
     rw[han,hBk];rfl
    rw[hBk]at hck
    iterate 3 go_step
    refine rp ?_;refine p_m ?_;refine p_m ?_;refine p_m ?_;simp only[pv];refine p_x k hlt Tryz.underlying47 size_sh5 ?_;simp only[pv];refine pw_loadm (by rfl) 46 _ rfl _ (ob+k*5) rfl rB (shC (I k) (Y k)) hbt' _ Tryz.underlying46 rfl size_sh ?_;simp only[pv];refine pw_callC (by rfl) (f) _ _ _ rfl (caps) rfl (hf) (hb0) #[.agg (shC (I k) (Y k))] rfl _ (hck _ sb) ?_;intro z4005 k;simp only[pv];replace sb:=kk sb k;clear k;refine pw_nil ?_;clear rB
    iterate 6 go_step
    refine rp ?_;refine p_v (.int .i64 ((k+1:Nat):Int)) (x_a k 1) ?_;refine p_m (pw_nil ?_);simp only[pv]
    go_wp2
    go_roundg x
    case measure=>omega
    case rel=>exact⟨k+1,by omega,rfl,hnx,sb⟩
theorem conf_any {fn:Func}(ab:Option Addr)(n c:Nat)(I:Nat->Int)(Y:Nat->Nat)(gb ob:Nat)(bcs:Array Value)(tb:TypeId)(f:FuncId)(caps:Array Value)(B:Nat->Bool)(w:World)(hf:Tryz.prog.funcs[f]?=some fn)(hb0:(fn.name== "runtime.NumGoroutine" ||fn.body.isNone)=false)(hn:n<4611686018427387904)(hna:ElsAt 5 w ab n (fun k=>shC (I k) (Y k)) gb ob bcs tb)
  (hc: ∀k:Nat,k<n-> ∀w',Below w.heap.size w w'->Calls Tryz.prog f (#[.agg (shC (I k) (Y k))]++caps) w' (Rt (.bool (B k)) w')):
  Calls Tryz.prog 64 #[.slice ab n c,.func (.func f) #[] caps] w fun e w'=>e= .returned (.bool (anB B n))/\Below w.heap.size w w':=by
 have hix:=fun w' (hb:Below w.heap.size w w')=>idxf_any ab n c I Y gb ob bcs tb f caps B w' hf hb0 hn (hna.below hb) (fun k hk w2 h2=>hc k hk w2 (below_on hb (Nat.le_refl _) h2))
 clear hna hc
 go_enter Tryz.func64,Tryz.ntmps64
 have sb:=sbmk w
 iterate 2 go_step
 refine rp ?_;refine p_v (.bool false) (fun _=>rfl) (pw_nil ?_);simp only[pv]
 iterate 3 go_step
 refine rp ?_;refine p_m ?_;refine p_m ?_;simp only[pv];refine p_f 92 Tryz.func92 #[.slice ab n c,.func (.func f) #[] caps] (hix _ sb) ?_
 rintro _ z1002 ⟨z,rfl,hz,hb⟩
 refine⟨_,rfl,?_⟩
 simp only[pv]
 have k:=Kept.ofBelow hb
 clear hb;replace sb:=kk sb k;clear k;refine p_v (.bool (anB B n)) (exec_geq_i _ _ _ _ rfl z 0 rfl rfl (anB B n) hz) ?_;refine p_a (pw_nil ?_);simp only[pv]
 go_wp2
 go_ret
 exact⟨rfl,sb⟩
theorem rec1_any (ab:Option Addr)(n c k:Nat)(I:Nat->Int)(Y:Nat->Nat)(g1 gb ob:Nat)(bcs:Array Value)(tb:TypeId)(w:World)(hk:k<n)(r1:Row w g1 #[.slice ab n c] 47)(hna:ElsAt 5 w ab n (fun k=>shC (I k) (Y k)) gb ob bcs tb):
  Calls Tryz.prog 62 #[.int .i64 k,.pointer (some ⟨g1,0,none⟩)] w fun e w'=>e= .returned (.int .i64 (I k))/\Below w.heap.size w w':=by
 go_enter Tryz.func62,Tryz.ntmps62
 have sb:=sbmk w
 iterate 2 go_step
 refine rp ?_;refine p_v (.int .i64 0) (fun _=>rfl) (pw_nil ?_);simp only[pv]
 obtain h0|⟨rfl,rB,hbt⟩:=hna.at'
 ·exact absurd h0 (by omega)
 have hbt':=shp_i (hbt k hk)
 clear hbt hna
 iterate 3 go_step
 refine rp ?_;refine p_d 0 r1.r (.slice (some ⟨gb,ob,none⟩) n c) rfl Tryz.isAgg47 ?_;refine p_m ?_;simp only[pv];refine p_x k hk Tryz.underlying47 size_sh5 ?_;simp only[pv];refine p_v (.pointer (some ⟨gb,ob+k*5,none⟩)) (exec_field 46 _ 0 rfl gb (ob+k*5) rfl _ Tryz.underlying46 _ rfl 0 Tryz.sizeOf3) ?_;simp only[pv];refine p_d (ob+k*5) rB (.int .i64 (I k)) hbt' Tryz.isAgg3 ?_;refine p_a (pw_nil ?_);simp only[pv]
 go_wp2
 go_ret
 exact⟨rfl,sb⟩
section
variable {Q:Nat}[NeZero Q]{g gr gf P G:Nat}{w:World}
theorem rec2_any (vf:Value)(L:List (Fin Q))(i Y g1 g2:Nat)(hi:i<1000)(hY:Y<2^256)(q:FdQ Q)(h:GrpAt w g gr gf P Q G)(r1:Row w g1 #[.pointer (some ⟨g,0,none⟩)] 25)(r2:Row w g2 #[vf] 23)(ha:PlA w vf L):
  Calls Tryz.prog 65 #[.agg (shC i Y),.pointer (some ⟨g1,0,none⟩),.pointer (some ⟨g2,0,none⟩)] w fun e w'=>e= .returned (.bool (!decide (Y=(pev (fi i) L).val)))/\Below w.heap.size w w':=by
 have hso:=fun w' (hb:Below w.heap.size w w')=>shareOf_any vf L i hi q (h.below hb) (ha.below hb)
 have hT:(pev (fi i) L).val<2^256:=Nat.lt_trans (pev (fi i) L).isLt q.m
 clear ha h
 generalize (pev (fi i) L).val=T at*
 have hb2:(!decide (Y%2^256=T%2^256))= !decide (Y=T):=by rw[Nat.mod_eq_of_lt hY,Nat.mod_eq_of_lt hT]
 go_enter Tryz.func65,Tryz.ntmps65
 iterate 2 go_step
 refine rp ?_;refine pw_boxr (by rfl) 46 _ rfl (shC i Y) rfl ?_;intro g3 z0 n0 r3 k;simp only[pv];clear n0;replace r1:=k.ro r1;replace r2:=k.ro r2
 have sb:=k_b k
 clear k;refine p_v (.bool false) (fun _=>rfl) (pw_nil ?_);simp only[pv]
 iterate 3 go_step
 apply wp_region_mix (by kernel_rfl) [] [_,_,_,_,_,_,_,_] trivial List.nodup_nil
 ·intro p;refine mx_loadm 46 _ rfl _ (0) rfl r3 (by simp<;>omega) (shC i Y) (part_all _) _ Tryz.underlying46 rfl size_sh ?_;simp only[pv];refine mx_loadc 25 _ rfl _ (0) rfl r1 (by simp<;>omega) (.pointer (some ⟨g,0,none⟩)) rfl Tryz.isAgg25 ?_;simp only[pv];refine mx_loadc 23 _ rfl _ (0) rfl r2 (by simp<;>omega) (vf) rfl Tryz.isAgg23 ?_;simp only[pv];refine mx_val (.pointer (some ⟨g3,0,none⟩)) (exec_field 46 _ 0 rfl g3 0 rfl _ Tryz.underlying46 _ rfl 0 Tryz.sizeOf3) ?_;simp only[pv];refine mx_loadc 3 _ rfl _ (0) rfl r3 (by simp<;>omega) (.int .i64 i) rfl Tryz.isAgg3 ?_;simp only[pv]
  refine m_k 66 Tryz.func66 #[.pointer (some ⟨g,0,none⟩),vf,.int .i64 i] (fun w' hk=>hso w' (sb.trans (hk.below w.heap.size sb.size (by simp<;>omega)))) ?_
  simp only[pv];refine mx_val (.bool (!decide (Y=T))) (exec_neq_sh _ _ _ rfl i Y T rfl rfl _ hb2) ?_;refine m_a ?_;simp only[pv];refine mx_end ?_;intro w2 hkw hrw hnew hdis;replace sb:=kk sb hkw;clear hkw hrw hnew hdis
  go_wp2
  go_ret
  exact⟨rfl,sb⟩
 ·kernel_rfl
end
section
variable {Q:Nat}[NeZero Q]{g gr gf P G:Nat}{w:World}
theorem sthr_any (n c:Nat)(ab:Option Addr)(I Y:Nat->Nat)(gb ob:Nat)(bcs:Array Value)(tb:TypeId)(q:FdQ Q)(hn:n<=7)(hn0:0<n)(hI: ∀k,k<n->I k<1000)(hY: ∀k,k<n->Y k<2^256)(hdd: ∀i j,i<n->j<n->i≠j->(fi (I i):Fin Q)≠fi (I j))(hna:ElsAt 5 w ab n (fun k=>shC ((I k:Nat):Int) (Y k)) gb ob bcs tb)(h:GrpAt w g gr gf P Q G):
  Calls Tryz.prog 63 #[.pointer (some ⟨g,0,none⟩),.slice ab n c] w fun e w'=> ∃v,e= .returned v/\PlN w' w.heap.size v (tTh ivF (fun i=>(fi (I i):Fin Q)) (fun i=>(fi (Y i):Fin Q)) n)/\Below w.heap.size w w':=by
 obtain⟨ie,hie,hze,hsz,hby⟩:=info_nat'
 have hth:=fun w' (hb:Below w.heap.size w w') g1 g2 (r1:Row w' g1 (nsC n I) 43) (r2:Row w' g2 (nsC n Y) 43)=>(thr_new g gr gf P Q G n n n (some ⟨g1,0,none⟩) (some ⟨g2,0,none⟩) I Y g1 0 g2 0 _ _ _ _ w' q (by omega) hn0 hdd (nats_row r1 (fun i hi=>by have:=hI i hi;omega)) (nats_row r2 hY) (h.below hb)).mono (R':=fun e w2=> ∃vf,e=Ending.returned (.tuple #[vf,.int .i64 0])/\PlN w2 w.heap.size vf (tTh ivF (fun i=>(fi (I i):Fin Q)) (fun i=>(fi (Y i):Fin Q)) n)/\Below w'.heap.size w' w2) (fun e w2 ⟨v,h1,h2,h3⟩=>⟨v,h1,h2.low hb.size,h3⟩)
 have HI:Hid (∀k,k<n->I k<1000):=hI
 have HB:Hid (ElsAt 5 w ab n (fun k=>shC ((I k:Nat):Int) (Y k)) gb ob bcs tb):=hna
 clear hna hI hY hdd
 go_enter Tryz.func63,Tryz.ntmps63
 have sb:=sbmk w
 iterate 2 go_step
 refine rp ?_;refine p_v (.slice none 0 0) ((fun _=>rfl)) (pw_nil ?_);simp only[pv]
 iterate 3 go_step
 apply wp_region_mix (by kernel_rfl) [] [_,_,_,_,_,_,_,_] trivial List.nodup_nil
 ·intro p;refine m_m ?_;simp only[pv];refine mx_val (.int .i64 n) (n_l ab n c sl_shs) ?_;simp only[pv];refine mx_make 23 43 _ _ rfl ie _ Tryz.underlying23 hie hze n rfl rfl (by rw[hsz];omega) (by rw[hby];omega) (by omega) ?_;refine m_m ?_;simp only[pv];refine mx_val (.int .i64 n) (n_l ab n c sl_shs) ?_;simp only[pv];refine mx_make 23 43 _ _ rfl ie _ Tryz.underlying23 hie hze n rfl rfl (by rw[hsz];omega) (by rw[hby];omega) (by omega) ?_;simp only[pv];refine mx_asgP 2 (fun g=>.slice (some ⟨g,0,none⟩) n n) (.inl rfl) (by omega) rfl ?_;simp only[pv];refine mx_asgP 5 (fun g=>.slice (some ⟨g,0,none⟩) n n) (.inl rfl) (by omega) rfl ?_;simp only[pv];refine mx_end ?_;intro w2 hkw hrw hnew hdis
  have n12:=hnew 2 rfl
  have n15:=hnew 5 rfl
  have zr12:Row w2 (p 2) (madeCells (Value.agg #[.int .u64 0,.int .u64 0,.int .u64 0,.int .u64 0]).cells (n*ie.size)) 43:=hrw 5 (43,madeCells (Value.agg #[.int .u64 0,.int .u64 0,.int .u64 0,.int .u64 0]).cells (n*ie.size)) rfl
  have zr15:Row w2 (p 5) (madeCells (Value.agg #[.int .u64 0,.int .u64 0,.int .u64 0,.int .u64 0]).cells (n*ie.size)) 43:=hrw 11 (43,madeCells (Value.agg #[.int .u64 0,.int .u64 0,.int .u64 0,.int .u64 0]).cells (n*ie.size)) rfl
  have d12x15:=hdis 2 5 (by omega) rfl rfl
  have b12:=Nat.le_trans sb.size n12
  have b15:=Nat.le_trans sb.size n15
  replace sb:=kk sb hkw;clear hkw hrw hnew hdis n12 n15
  generalize p 2=g12 at*
  generalize p 5=g15 at*
  have r12:=zr12
  clear zr12
  have r15:=zr15
  clear zr15
  rw[hsz,made_nats]at r12 r15
  iterate 4 go_step
  refine rp ?_;refine p_m ?_;simp only[pv];refine p_v (.int .i64 n) (n_l ab n c sl_shs) ?_;refine p_v (.int .i64 0) (fun _=>rfl) (pw_nil ?_);simp only[pv]
  go_wp2_with fail
  go_loopg [7,18] n (fun x s7 s18 wr=> ∃k:Nat,k+x=n/\s18= .int .i64 k/\Row wr g12 (nsC n (fun j=>if j<k then I j else 0)) 43/\Row wr g15 (nsC n (fun j=>if j<k then Y j else 0)) 43/\Below w.heap.size w wr)
  case atStart=>exact⟨0,by omega,rfl,by rw[show(fun j=>if j<0 then I j else 0)=fun _=>0 from funext fun j=>if_neg (by omega)];exact r12,by rw[show(fun j=>if j<0 then Y j else 0)=fun _=>0 from funext fun j=>if_neg (by omega)];exact r15,sb⟩
  case round=>
   clear r12 r15 sb
   obtain⟨k,hk,rfl,r12,r15,sb⟩:=hrel
   cases gk with
   |zero=>
    obtain rfl:k=n:=by omega
    clear hk
    rw[nsC_congr k _ I (fun j hj=>if_pos hj)]at r12
    rw[nsC_congr k _ Y (fun j hj=>if_pos hj)]at r15
    go_step
    refine rp ?_;refine p_v (.bool false) (lt_f k k) (pw_nil ?_);simp only[pv]
    iterate 8 go_step
    refine rp ?_;refine p_m ?_;refine p_m ?_;refine p_m ?_;simp only[pv];refine p_f 91 Tryz.func91 #[.pointer (some ⟨g,0,none⟩),.slice (some ⟨g12,0,none⟩) k k,.slice (some ⟨g15,0,none⟩) k k] (hth _ sb g12 g15 r12 r15) ?_
    rintro _ z7003 ⟨vf,rfl,hf,hb⟩
    refine⟨_,rfl,?_⟩
    simp only[pv]
    have k:=Kept.ofBelow hb
    clear hb;replace r12:=k.ro r12;replace r15:=k.ro r15;replace sb:=kk sb k;clear k;refine p_m ?_;refine p_e ?_;refine p_e ?_;refine p_a ?_;refine p_a (pw_nil ?_);simp only[pv]
    iterate 3 go_step
    refine rp ?_;refine p_m ?_;refine p_a (pw_nil ?_);simp only[pv]
    go_wp2
    go_ret
    exact⟨vf,rfl,hf,sb⟩
   |succ x=>
    have hlt:k<n:=by omega
    have hIk:=HI.out k hlt
    have hof:=fun w'=>nof_any ((I k:Nat):Int) w' (by omega)
    rw[Int.toNat_natCast]at hof
    clear hth
    have hpI:=nsC_put n (fun j=>if j<k then I j else 0) (fun j=>if j<k+1 then I j else 0) k hlt (0+k*4) (by omega) (I k) (fun j hj=>by
     by_cases hjk:j=k
     ·subst hjk
      rw[if_pos (by omega),if_pos rfl]
     ·rw[if_neg hjk]
      by_cases h2:j<k
      ·rw[if_pos h2,if_pos (by omega)]
      ·rw[if_neg h2,if_neg (by omega)])
    have hpY:=nsC_put n (fun j=>if j<k then Y j else 0) (fun j=>if j<k+1 then Y j else 0) k hlt (0+k*4) (by omega) (Y k) (fun j hj=>by
     by_cases hjk:j=k
     ·subst hjk
      rw[if_pos (by omega),if_pos rfl]
     ·rw[if_neg hjk]
      by_cases h2:j<k
      ·rw[if_pos h2,if_pos (by omega)]
      ·rw[if_neg h2,if_neg (by omega)])
    obtain h0|⟨rfl,rB0,hbt⟩:=HB.out.at'
    ·exact absurd h0 (by omega)
    have hbi:=shp_i (hbt k hlt)
    have hby2:=shp_y (hbt k hlt)
    have hBl:=rB0.lt
    clear hbt rB0
    go_step
    refine rp ?_;refine p_v (.bool true) (lt_t k n) (pw_nil ?_);simp only[pv]
    iterate 10 go_step
    refine rp ?_;refine p_m ?_;refine p_a (pw_nil ?_);simp only[pv]
    obtain h0|⟨_,rB,_⟩:=(HB.out.below sb).at'
    ·exact absurd h0 (by omega)
    iterate 2 go_step
    apply wp_region_mix (by kernel_rfl) [(g12,43,nsC n (fun j=>if j<k then I j else 0)),(g15,43,nsC n (fun j=>if j<k then Y j else 0))] [_,_,_,_,_,_,_,_,_,_,_,_,_,_,_,_,_,_,_] ⟨r12,r15,trivial⟩ (by simp<;>omega)
    ·intro p;refine m_m ?_;refine m_m ?_;refine m_m ?_;refine m_m ?_;refine m_m ?_;simp only[pv];refine m_m ?_;simp only[pv];refine m_x k hlt Tryz.underlying47 size_sh5 ?_;simp only[pv];refine mx_val (.pointer (some ⟨gb,ob+k*5,none⟩)) (exec_field 46 _ 0 rfl gb (ob+k*5) rfl _ Tryz.underlying46 _ rfl 0 Tryz.sizeOf3) ?_;simp only[pv];refine mx_loadkR 3 _ rfl gb (ob+k*5) rfl rB (by simp<;>omega) (.int .i64 ((I k:Nat):Int)) hbi Tryz.isAgg3 ?_;simp only[pv];refine m_c 40 Tryz.func40 #[.int .i64 ((I k:Nat):Int)] hof ?_;refine m_m ?_;refine m_m ?_;simp only[pv];refine m_x k hlt Tryz.underlying47 size_sh5 ?_;simp only[pv];refine mx_val (.pointer (some ⟨gb,ob+k*5+1,none⟩)) (exec_field 46 _ 1 rfl gb (ob+k*5) rfl _ Tryz.underlying46 _ rfl 3 Tryz.sizeOf43) ?_;simp only[pv];refine mx_loadmR 43 _ rfl _ (ob+k*5+1) rfl rB (by simp<;>omega) (natC (Y k)) hby2 _ Tryz.underlying43 rfl size_nat ?_;simp only[pv];refine m_x k hlt Tryz.underlying23 size_nat4 ?_;simp only[pv];refine mx_putm 0 43 _ _ rfl (0+k*4) rfl rfl (natC (I k)) rfl (by exact size_nat) (by rw[nsC_size,natC_size];omega) (natC_one _) (nsC n (fun j=>if j<k+1 then I j else 0)) hpI ?_;simp only[Act.put];refine m_x k hlt Tryz.underlying23 size_nat4 ?_;simp only[pv];refine mx_putm 2 43 _ _ rfl (0+k*4) rfl rfl (natC (Y k)) rfl (by exact size_nat) (by rw[nsC_size,natC_size];omega) (natC_one _) (nsC n (fun j=>if j<k+1 then Y j else 0)) hpY ?_;simp only[Act.put];refine mx_end ?_;intro w2 hkw hrw hnew hdis
     have zr12:Row w2 (g12) (nsC n (fun j=>if j<k+1 then I j else 0)) 43:=hrw 0 (43,nsC n (fun j=>if j<k+1 then I j else 0)) rfl
     have zr15:Row w2 (g15) (nsC n (fun j=>if j<k+1 then Y j else 0)) 43:=hrw 2 (43,nsC n (fun j=>if j<k+1 then Y j else 0)) rfl
     replace sb:=kk sb hkw;clear hkw hrw hnew hdis r12 r15
     have r12:=zr12
     clear zr12
     have r15:=zr15
     clear zr15;clear rB hpI hpY
     iterate 2 go_step
     refine rp ?_;refine p_v (.int .i64 ((k+1:Nat):Int)) (x_a k 1) ?_;refine p_m (pw_nil ?_);simp only[pv]
     go_wp2
     go_roundg x
     case measure=>omega
     case rel=>exact⟨k+1,by omega,rfl,r12,r15,sb⟩
    ·kernel_rfl
 ·kernel_rfl
theorem zero_sln (w:World):(zeroValue 23).run Tryz.prog w= .ok (.slice none 0 0) w:=by kernel_rfl
def e4 (b:Bool):Int:=if b then 4 else 0
def RcP (b:Bool)(w:World)(v:Value)(L:List (Fin Q)):Prop:=(b=false->PlAt w v L)/\(b=true->v= .slice none 0 0)
theorem rec_all (d n c:Nat)(ab:Option Addr)(I Y:Nat->Nat)(gb ob:Nat)(bcs:Array Value)(tb:TypeId)(hd:d<=6)(hn:n<=1000)(hnc:n<=c)(hnd:d<n)(q:FdQ Q)(hI: ∀k,k<n->I k<1000)(hY: ∀k,k<n->Y k<2^256)(hdd: ∀i j,i<n->j<n->i≠j->(fi (I i):Fin Q)≠fi (I j))(hna:ElsAt 5 w ab n (fun k=>shC ((I k:Nat):Int) (Y k)) gb ob bcs tb)(h:GrpAt w g gr gf P Q G)(hA:apB 1 (fun k=>((I k:Nat):Int)) n=true)(b:Bool)(hAN:anB (fun k=> !decide (Y k=(pev (fi (I k)) (tTh ivF (fun i=>(fi (I i):Fin Q)) (fun i=>(fi (Y i):Fin Q)) (d+1))).val)) n=b):
  Calls Tryz.prog 30 #[.pointer (some ⟨g,0,none⟩),.int .i64 d,.slice ab n c] w fun e w'=> ∃vf,e= .returned (.tuple #[vf,.int .i64 (e4 b)])/\RcP b w' vf (tTh ivF (fun i=>(fi (I i):Fin Q)) (fun i=>(fi (Y i):Fin Q)) (d+1))/\Below w.heap.size w w':=by
 have hln:=tTh_length ivF (fun i=>(fi (I i):Fin Q)) (fun i=>(fi (Y i):Fin Q)) (d+1)
 have hst:=fun w' (hb:Below w.heap.size w w')=>(sthr_any (d+1) c ab I Y gb ob bcs tb q (by omega) (by omega) (fun k hk=>hI k (by omega)) (fun k hk=>hY k (by omega)) (fun i j hi hj=>hdd i j (by omega) (by omega)) ((hna.below hb).take (by omega)) (h.below hb)).mono (R':=fun e w2=> ∃v,e=Ending.returned v/\PlN w2 w'.heap.size v (tTh ivF (fun i=>(fi (I i):Fin Q)) (fun i=>(fi (Y i):Fin Q)) (d+1))/\Below w'.heap.size w' w2) (fun e w2 hh=>hh)
 have hcf:=fun w' (hb:Below w.heap.size w w') g3 g8 gT N (hN:(tTh ivF (fun i=>(fi (I i):Fin Q)) (fun i=>(fi (Y i):Fin Q)) (d+1)).length<=N) (r3:Row w' g3 #[.pointer (some ⟨g,0,none⟩)] 25) (r8:Row w' g8 #[.slice (some ⟨gT,0,none⟩) (tTh ivF (fun i=>(fi (I i):Fin Q)) (fun i=>(fi (Y i):Fin Q)) (d+1)).length N] 23) (rT:Row w' gT (nsC N (fun i=>(pco (tTh ivF (fun i=>(fi (I i):Fin Q)) (fun i=>(fi (Y i):Fin Q)) (d+1)) i).val)) 43)=>conf_any ab n c (fun k=>((I k:Nat):Int)) Y gb ob bcs tb 65 #[.pointer (some ⟨g3,0,none⟩),.pointer (some ⟨g8,0,none⟩)] (fun k=> !decide (Y k=(pev (fi (I k)) (tTh ivF (fun i=>(fi (I i):Fin Q)) (fun i=>(fi (Y i):Fin Q)) (d+1))).val)) w' Tryz.func65 (by kernel_rfl) (by omega) (hna.below hb) (fun k hk w2 h2=>rec2_any (.slice (some ⟨gT,0,none⟩) (tTh ivF (fun i=>(fi (I i):Fin Q)) (fun i=>(fi (Y i):Fin Q)) (d+1)).length N) (tTh ivF (fun i=>(fi (I i):Fin Q)) (fun i=>(fi (Y i):Fin Q)) (d+1)) (I k) (Y k) g3 g8 (hI k hk) (hY k hk) q ((h.below hb).below h2) (r3.belowAll h2) (r8.belowAll h2) ((pl_row (rT.belowAll h2) hN q.m N).arg (by omega)))
 rw[hAN]at hcf
 have HP:Hid (∀w' gT N,(tTh ivF (fun i=>(fi (I i):Fin Q)) (fun i=>(fi (Y i):Fin Q)) (d+1)).length<=N->Row w' gT (nsC N (fun i=>(pco (tTh ivF (fun i=>(fi (I i):Fin Q)) (fun i=>(fi (Y i):Fin Q)) (d+1)) i).val)) 43->PlAt w' (.slice (some ⟨gT,0,none⟩) (tTh ivF (fun i=>(fi (I i):Fin Q)) (fun i=>(fi (Y i):Fin Q)) (d+1)).length N) (tTh ivF (fun i=>(fi (I i):Fin Q)) (fun i=>(fi (Y i):Fin Q)) (d+1))):=fun w' gT N hN r=>pl_row r hN q.m N
 have HB:Hid (ElsAt 5 w ab n (fun k=>shC ((I k:Nat):Int) (Y k)) gb ob bcs tb):=hna
 have HA:Hid (apB 1 (fun k=>((I k:Nat):Int)) n=true):=hA
 clear hna hA hAN hI hY hdd
 have hg:=fun w' (hb:Below w.heap.size w w')=>sgrp_any (some ⟨g,0,none⟩) (some ⟨gf,0,none⟩) P Q G (some ⟨gr,0,none⟩) w' (h.below hb).kn
 unfold PlN at hst
 generalize (tTh ivF (fun i=>(fi (I i):Fin Q)) (fun i=>(fi (Y i):Fin Q)) (d+1))=TT at*
 generalize TT.length=TL at*
 go_enter Tryz.func30,Tryz.ntmps30
 have sb:=sbmk w
 iterate 2 go_step
 refine rp ?_;refine pw_box1 (by rfl) 25 _ rfl (.pointer (some ⟨g,0,none⟩)) rfl rfl ?_;intro g3 z0 n0 r3 k;simp only[pv];clear n0;replace sb:=kk sb k;clear k;refine pw_box1 (by rfl) 47 _ rfl (.slice ab n c) rfl rfl ?_;intro g5 z1 n0 r5 k;simp only[pv];clear n0;replace r3:=k.ro r3;replace sb:=kk sb k;clear k;refine p_v (.slice none 0 0) ((fun _=>rfl)) ?_;refine p_v (.int .i64 0) (fun _=>rfl) (pw_nil ?_);simp only[pv]
 iterate 4 go_step
 refine rp ?_;refine p_d 0 r3.r (.pointer (some ⟨g,0,none⟩)) rfl Tryz.isAgg25 ?_;simp only[pv];refine p_c 60 Tryz.func60 #[.pointer (some ⟨g,0,none⟩)] (hg _ sb) ?_;intro z1001 k;simp only[pv];replace r3:=k.ro r3;replace r5:=k.ro r5;replace sb:=kk sb k;clear k;refine p_v (.bool false) (exec_not _ _ rfl true rfl) ?_;refine p_m ?_;refine p_m ?_;refine p_v (.bool false) (lt_f d 0) ?_;refine p_k false (.bool false) ?_;simp only[pv];refine p_m ?_;refine p_m ?_;simp only[pv];refine p_v (.bool false) (exec_geq_i _ _ _ _ rfl d 7 rfl rfl false (decide_eq_false (by omega))) ?_;refine p_k false (.bool false) (pw_nil ?_);simp only[pv]
 have hap:=fun w' (hb:Below w.heap.size w w') (r5:Row w' g5 #[.slice ab n c] 47)=>apart_any n 1 62 #[.pointer (some ⟨g5,0,none⟩)] (fun k=>((I k:Nat):Int)) w' Tryz.func62 (by kernel_rfl) (by omega) (by decide) (fun k hk w2 h2=>rec1_any ab n c k (fun k=>((I k:Nat):Int)) Y g5 gb ob bcs tb w2 hk (r5.belowAll h2) ((HB.out.below hb).below h2))
 rw[HA.out]at hap
 iterate 8 go_step
 refine rp ?_;refine p_d 0 r5.r (.slice ab n c) rfl Tryz.isAgg47 ?_;simp only[pv];refine p_v (.int .i64 n) (n_l ab n c sl_shs) ?_;simp only[pv];refine p_v (.func (.func 62) #[] #[.pointer (some ⟨g5,0,none⟩)]) (exec_func _ _ rfl _ rfl) ?_;simp only[pv];refine p_c 61 Tryz.func61 #[.int .i64 n,.int .i64 1,.func (.func 62) #[] #[.pointer (some ⟨g5,0,none⟩)]] (hap _ sb r5) ?_;intro z3003 k;simp only[pv];replace r3:=k.ro r3;replace r5:=k.ro r5;replace sb:=kk sb k;clear k;refine p_v (.bool false) (exec_not _ _ rfl true rfl) (pw_nil ?_);simp only[pv];clear hap
 iterate 8 go_step
 refine rp ?_;refine p_d 0 r5.r (.slice ab n c) rfl Tryz.isAgg47 ?_;simp only[pv];refine p_v (.int .i64 n) (n_l ab n c sl_shs) ?_;refine p_m ?_;simp only[pv];refine p_v (.bool false) (exec_leq_i _ _ _ _ rfl n d rfl rfl false (decide_eq_false (by omega))) (pw_nil ?_);simp only[pv]
 iterate 7 go_step
 refine wp_region_ewb2 (by kernel_rfl) [7] 6 5 (by decide) [(0,false),(1,false),(2,false),(3,false),(4,false),(6,true),(5,true),(7,true)] [(0,false),(1,false),(2,false),(3,false),(4,false),(5,true),(6,true),(7,true)] (by kernel_rfl) (by kernel_rfl) (by kernel_rfl) ?_ ?_
 ·skip
  have or3:=r3
  have or5:=r5
  have cb:=below_self sb
  refine ew_loadk (by rfl) 25 _ rfl _ (0) rfl (fun _ hb=>(or3.belowAll hb).r) (.pointer (some ⟨g,0,none⟩)) rfl Tryz.isAgg25 ?_;simp only[pv];refine ew_loadk (by rfl) 47 _ rfl _ (0) rfl (fun _ hb=>(or5.belowAll hb).r) (.slice ab n c) rfl Tryz.isAgg47 ?_;refine e_m ?_;simp only[pv];refine e_v (.int .i64 ((d+1:Nat):Int)) (x_a d 1) ?_;simp only[pv];refine e_v (.slice ab (d+1) c) (y_first _ _ _ rfl sl_shs 5 size_els ab n c (d+1) rfl rfl (by omega)) ?_;simp only[pv];refine ew_newv (by rfl) 23 rfl (.slice none 0 0) (zero_sln) rfl ?_;intro wa6 hqb g8 wb6 n0 r8 hb
  refine⟨fun _=>below_on (below_on cb (Nat.le_refl _) hqb) (Nat.le_refl _) hb,?_⟩
  simp only[pv];replace r3:=r3.belowAll hqb;replace r5:=r5.belowAll hqb;replace sb:=b_o sb hqb;replace cb:=b_o cb hqb
  have d3x8:=l_l r3.lt n0
  have d5x8:=l_l r5.lt n0
  have b8:=Nat.le_trans sb.size n0
  replace r3:=r3.belowAll hb;replace r5:=r5.belowAll hb;replace sb:=b_o sb hb;replace cb:=b_o cb hb;clear hqb hb n0;refine ew_callE (by rfl) 63 _ _ rfl Tryz.func63 (by kernel_rfl) #[.pointer (some ⟨g,0,none⟩),.slice ab (d+1) c] rfl ?_;intro wa5 hqb;replace r3:=r3.belowAll hqb;replace r5:=r5.belowAll hqb;replace r8:=r8.belowAll hqb;replace sb:=b_o sb hqb;replace cb:=b_o cb hqb;clear hqb;refine(hst _ sb).mono ?_
  rintro _ wb5 ⟨v,rfl,⟨gT,N,rfl,nT,hN,rT⟩,hb⟩
  refine⟨_,rfl,fun _=>below_on cb (Nat.le_refl _) hb,?_⟩
  simp only[pv]
  have d8xT:=l_l r8.lt nT
  clear nT;replace r3:=r3.belowAll hb;replace r5:=r5.belowAll hb;replace r8:=r8.belowAll hb;replace sb:=b_o sb hb;replace cb:=b_o cb hb;clear hb;refine ew_putv (by rfl) 23 _ _ rfl _ (0) rfl r8 (.slice (some ⟨gT,0,none⟩) TL N) rfl rfl rfl size1tapiat (by exact Nat.one_pos) (#[.slice (some ⟨gT,0,none⟩) TL N]) rfl ?_;intro wa7 hqb;replace r3:=r3.belowAll hqb;replace r5:=r5.belowAll hqb;replace r8:=r8.belowAll hqb;replace rT:=rT.belowAll hqb;replace sb:=b_o sb hqb;clear hqb r8;intro wb7 r8 k
  refine⟨fun h=>(by cases h),?_⟩
  simp only[Act.put];replace r3:=k.ro r3;replace r5:=k.ro r5;replace rT:=k.ro rT
  replace sb:=sb.trans (k.below _ sb.size (by simp<;>omega))
  clear k;refine ew_nil ?_;intro wz hqb;replace r3:=r3.belowAll hqb;replace r5:=r5.belowAll hqb;replace r8:=r8.belowAll hqb;replace rT:=rT.belowAll hqb;replace sb:=b_o sb hqb;clear hqb cb or3 or5
  iterate 4 go_step
  refine rp ?_;refine p_d 0 r5.r (.slice ab n c) rfl Tryz.isAgg47 ?_;simp only[pv];refine p_v (.func (.func 65) #[] #[.pointer (some ⟨g3,0,none⟩),.pointer (some ⟨g8,0,none⟩)]) (exec_func _ _ rfl _ rfl) ?_;simp only[pv];refine p_c 64 Tryz.func64 #[.slice ab n c,.func (.func 65) #[] #[.pointer (some ⟨g3,0,none⟩),.pointer (some ⟨g8,0,none⟩)]] (hcf _ sb g3 g8 gT N hN r3 r8 rT) ?_;intro z8002 k;simp only[pv];replace r3:=k.ro r3;replace r5:=k.ro r5;replace r8:=k.ro r8;replace rT:=k.ro rT;replace sb:=kk sb k;clear k;refine pw_nil ?_
  cases b with
  |false=>
   iterate 7 go_step
   refine rp ?_;refine p_d 0 r8.r (.slice (some ⟨gT,0,none⟩) TL N) rfl Tryz.isAgg23 ?_;refine p_a ?_;refine p_v (.int .i64 0) (fun _=>rfl) (pw_nil ?_);simp only[pv]
   go_wp2
   go_ret2
   exact⟨_,rfl,⟨fun _=>HP.out _ gT N hN rT,nofun⟩,sb⟩
  |true=>
   iterate 4 go_step
   refine rp ?_;refine p_v (.slice none 0 0) ((fun _=>rfl)) ?_;refine p_v (.int .i64 4) (fun _=>rfl) (pw_nil ?_);simp only[pv]
   go_wp2
   go_ret2
   exact⟨_,rfl,⟨nofun,fun _=>rfl⟩,sb⟩
 ·skip
  have or3:=r3
  have or5:=r5
  have cb:=below_self sb
  refine ew_loadk (by rfl) 25 _ rfl _ (0) rfl (fun _ hb=>(or3.belowAll hb).r) (.pointer (some ⟨g,0,none⟩)) rfl Tryz.isAgg25 ?_;simp only[pv];refine ew_loadk (by rfl) 47 _ rfl _ (0) rfl (fun _ hb=>(or5.belowAll hb).r) (.slice ab n c) rfl Tryz.isAgg47 ?_;refine e_m ?_;simp only[pv];refine e_v (.int .i64 ((d+1:Nat):Int)) (x_a d 1) ?_;simp only[pv];refine e_v (.slice ab (d+1) c) (y_first _ _ _ rfl sl_shs 5 size_els ab n c (d+1) rfl rfl (by omega)) ?_;simp only[pv];refine ew_callE (by rfl) 63 _ _ rfl Tryz.func63 (by kernel_rfl) #[.pointer (some ⟨g,0,none⟩),.slice ab (d+1) c] rfl ?_;intro wa5 hqb;replace r3:=r3.belowAll hqb;replace r5:=r5.belowAll hqb;replace sb:=b_o sb hqb;replace cb:=b_o cb hqb;clear hqb;refine(hst _ sb).mono ?_
  rintro _ wb5 ⟨v,rfl,⟨gT,N,rfl,nT,hN,rT⟩,hb⟩
  refine⟨_,rfl,fun _=>below_on cb (Nat.le_refl _) hb,?_⟩
  simp only[pv];clear nT;replace r3:=r3.belowAll hb;replace r5:=r5.belowAll hb;replace sb:=b_o sb hb;replace cb:=b_o cb hb;clear hb;refine ew_newv (by rfl) 23 rfl (.slice none 0 0) (zero_sln) rfl ?_;intro wa6 hqb g8 wb6 n0 r8 hb
  refine⟨fun _=>below_on (below_on cb (Nat.le_refl _) hqb) (Nat.le_refl _) hb,?_⟩
  simp only[pv];replace r3:=r3.belowAll hqb;replace r5:=r5.belowAll hqb;replace rT:=rT.belowAll hqb;replace sb:=b_o sb hqb;replace cb:=b_o cb hqb
  have d3x8:=l_l r3.lt n0
  have d5x8:=l_l r5.lt n0
  have dTx8:=l_l rT.lt n0
  have b8:=Nat.le_trans sb.size n0
  replace r3:=r3.belowAll hb;replace r5:=r5.belowAll hb;replace rT:=rT.belowAll hb;replace sb:=b_o sb hb;replace cb:=b_o cb hb;clear hqb hb n0;refine ew_putv (by rfl) 23 _ _ rfl _ (0) rfl r8 (.slice (some ⟨gT,0,none⟩) TL N) rfl rfl rfl size1tapiat (by exact Nat.one_pos) (#[.slice (some ⟨gT,0,none⟩) TL N]) rfl ?_;intro wa7 hqb;replace r3:=r3.belowAll hqb;replace r5:=r5.belowAll hqb;replace rT:=rT.belowAll hqb;replace r8:=r8.belowAll hqb;replace sb:=b_o sb hqb;clear hqb r8;intro wb7 r8 k
  refine⟨fun h=>(by cases h),?_⟩
  simp only[Act.put];replace r3:=k.ro r3;replace r5:=k.ro r5;replace rT:=k.ro rT
  replace sb:=sb.trans (k.below _ sb.size (by simp<;>omega))
  clear k;refine ew_nil ?_;intro wz hqb;replace r3:=r3.belowAll hqb;replace r5:=r5.belowAll hqb;replace rT:=rT.belowAll hqb;replace r8:=r8.belowAll hqb;replace sb:=b_o sb hqb;clear hqb cb or3 or5
  iterate 4 go_step
  refine rp ?_;refine p_d 0 r5.r (.slice ab n c) rfl Tryz.isAgg47 ?_;simp only[pv];refine p_v (.func (.func 65) #[] #[.pointer (some ⟨g3,0,none⟩),.pointer (some ⟨g8,0,none⟩)]) (exec_func _ _ rfl _ rfl) ?_;simp only[pv];refine p_c 64 Tryz.func64 #[.slice ab n c,.func (.func 65) #[] #[.pointer (some ⟨g3,0,none⟩),.pointer (some ⟨g8,0,none⟩)]] (hcf _ sb g3 g8 gT N hN r3 r8 rT) ?_;intro z8002 k;simp only[pv];replace r3:=k.ro r3;replace r5:=k.ro r5;replace r8:=k.ro r8;replace rT:=k.ro rT;replace sb:=kk sb k;clear k;refine pw_nil ?_
  cases b with
  |false=>
   iterate 7 go_step
   refine rp ?_;refine p_d 0 r8.r (.slice (some ⟨gT,0,none⟩) TL N) rfl Tryz.isAgg23 ?_;refine p_a ?_;refine p_v (.int .i64 0) (fun _=>rfl) (pw_nil ?_);simp only[pv]
   go_wp2
   go_ret2
   exact⟨_,rfl,⟨fun _=>HP.out _ gT N hN rT,nofun⟩,sb⟩
  |true=>
   iterate 4 go_step
   refine rp ?_;refine p_v (.slice none 0 0) ((fun _=>rfl)) ?_;refine p_v (.int .i64 4) (fun _=>rfl) (pw_nil ?_);simp only[pv]
   go_wp2
   go_ret2
   exact⟨_,rfl,⟨nofun,fun _=>rfl⟩,sb⟩
theorem rec_yes (d n c:Nat)(ab:Option Addr)(I Y:Nat->Nat)(gb ob:Nat)(bcs:Array Value)(tb:TypeId)(hd:d<=6)(hn:n<=1000)(hnc:n<=c)(hnd:d<n)(q:FdQ Q)(hI: ∀k,k<n->I k<1000)(hY: ∀k,k<n->Y k<2^256)(hdd: ∀i j,i<n->j<n->i≠j->(fi (I i):Fin Q)≠fi (I j))(hna:ElsAt 5 w ab n (fun k=>shC ((I k:Nat):Int) (Y k)) gb ob bcs tb)(h:GrpAt w g gr gf P Q G)(hA:apB 1 (fun k=>((I k:Nat):Int)) n=true)(hAN:anB (fun k=> !decide (Y k=(pev (fi (I k)) (tTh ivF (fun i=>(fi (I i):Fin Q)) (fun i=>(fi (Y i):Fin Q)) (d+1))).val)) n=false):
  Calls Tryz.prog 30 #[.pointer (some ⟨g,0,none⟩),.int .i64 d,.slice ab n c] w fun e w'=> ∃vf,e= .returned (.tuple #[vf,.int .i64 0])/\PlAt w' vf (tTh ivF (fun i=>(fi (I i):Fin Q)) (fun i=>(fi (Y i):Fin Q)) (d+1))/\Below w.heap.size w w':=
 (rec_all d n c ab I Y gb ob bcs tb hd hn hnc hnd q hI hY hdd hna h hA false hAN).mono fun e w' ⟨vf,h1,h2,h3⟩=>⟨vf,h1,h2.1 rfl,h3⟩
theorem rec_bad (d n c:Nat)(ab:Option Addr)(I Y:Nat->Nat)(gb ob:Nat)(bcs:Array Value)(tb:TypeId)(hd:d<=6)(hn:n<=1000)(hnc:n<=c)(hnd:d<n)(q:FdQ Q)(hI: ∀k,k<n->I k<1000)(hY: ∀k,k<n->Y k<2^256)(hdd: ∀i j,i<n->j<n->i≠j->(fi (I i):Fin Q)≠fi (I j))(hna:ElsAt 5 w ab n (fun k=>shC ((I k:Nat):Int) (Y k)) gb ob bcs tb)(h:GrpAt w g gr gf P Q G)(hA:apB 1 (fun k=>((I k:Nat):Int)) n=true)(hAN:anB (fun k=> !decide (Y k=(pev (fi (I k)) (tTh ivF (fun i=>(fi (I i):Fin Q)) (fun i=>(fi (Y i):Fin Q)) (d+1))).val)) n=true):
  Calls Tryz.prog 30 #[.pointer (some ⟨g,0,none⟩),.int .i64 d,.slice ab n c] w fun e w'=>e= .returned (.tuple #[.slice none 0 0,.int .i64 4])/\Below w.heap.size w w':=
 (rec_all d n c ab I Y gb ob bcs tb hd hn hnc hnd q hI hY hdd hna h hA true hAN).mono fun e w' ⟨vf,h1,h2,h3⟩=>⟨by rw[h1,h2.2 rfl];rfl,h3⟩
end
structure ZsAt (w:World)(ab:Option Addr)(n:Nat)(Z:Nat->Int)(gb ob:Nat)(bcs:Array Value)(tb:TypeId):Prop where
 at':n=0∨(ab=some ⟨gb,ob,none⟩/\RowR w gb bcs tb/\ ∀i,i<n->bcs[ob+i*1]?=some (.int .i64 (Z i)))
theorem ZsAt.below {w w2:World}{ab:Option Addr}{n:Nat}{Z:Nat->Int}{gb ob:Nat}{bcs:Array Value}{tb:TypeId}(h:ZsAt w ab n Z gb ob bcs tb)(hb:Below w.heap.size w w2):ZsAt w2 ab n Z gb ob bcs tb:=
 ⟨h.at'.imp id fun⟨h1,h2,h3⟩=>⟨h1,h2.belowAll hb,h3⟩⟩
theorem ZsAt.congr {w:World}{ab:Option Addr}{n:Nat}{Z Z':Nat->Int}{gb ob:Nat}{bcs:Array Value}{tb:TypeId}(h:ZsAt w ab n Z gb ob bcs tb)(he: ∀i,i<n->Z i=Z' i):ZsAt w ab n Z' gb ob bcs tb:=
 ⟨h.at'.imp id fun⟨h1,h2,h3⟩=>⟨h1,h2,fun i hi=>by rw[<-he i hi];exact h3 i hi⟩⟩
section
variable {Q:Nat}[NeZero Q]{g gr gf P G:Nat}{w:World}
def onK (k i:Nat):Nat:=if i=k then 1 else 0
def wtP (I:Nat->Nat)(n k:Nat):List (Fin Q):=tTh ivF (fun i=>(fi (I i):Fin Q)) (fun i=>(fi (onK k i):Fin Q)) n
def wtV (I:Nat->Nat)(n k j:Nat):Nat->Nat->Nat:=fun a b=>if b<k∨(b=k/\a<j)then(pco (wtP I n b:List (Fin Q)) a).val else 0
end
end Go.Proofs.YtighhihgmkcabaaGreat
