import Derived.Test.YtighhihgmkcabaaGreatWeRef
namespace Go.Proofs.YtighhihgmkcabaaGreat
open Go.RowKit
set_option linter.unusedVariables false
set_option linter.unusedSectionVars false
set_option linter.unusedSimpArgs false
structure FamC (w:World)(base n:Nat)(R:Nat->Nat)(V:Nat->Nat->Nat)(m:Nat):Prop where
 row: ∀j,j<m-> ∃cur,Row w (R j) cur 3/\ ∀k,k<n->cur[k]?=some (.int .i64 (V j k:Nat))
 dis: ∀i j,i<m->j<m->R i=R j->i=j
 low: ∀j,j<m->base<=R j
section
variable {w w2:World}{base n m:Nat}{R:Nat->Nat}{V V':Nat->Nat->Nat}
theorem FamC.below (h:FamC w base n R V m)(hb:Below w.heap.size w w2):FamC w2 base n R V m:=
 ⟨fun j hj=>by
  obtain⟨c,r,hc⟩:=h.row j hj
  exact⟨c,r.belowAll hb,hc⟩,h.dis,h.low⟩
theorem FamC.on (h:FamC w base n R V m){S:List Nat}(k:Kept S w w2)(hS: ∀j,j<m->R j∉S):FamC w2 base n R V m:=
 ⟨fun j hj=>by
  obtain⟨c,r,hc⟩:=h.row j hj
  exact⟨c,k.row r (hS j hj),hc⟩,h.dis,h.low⟩
theorem FamC.congr (h:FamC w base n R V m)(he: ∀j,j<m-> ∀k,k<n->V j k=V' j k):FamC w base n R V' m:=
 ⟨fun j hj=>by
  obtain⟨c,r,hc⟩:=h.row j hj
  exact⟨c,r,fun k hk=>by rw[<-he j hj k hk];exact hc k hk⟩,h.dis,h.low⟩
theorem FamC.lt (h:FamC w base n R V m){j:Nat}(hj:j<m):R j<w.heap.size:=by
 obtain⟨c,r,_⟩:=h.row j hj
 exact r.lt
theorem FamC.put (h:FamC w base n R V m){j:Nat}(hj:j<m)(k:Kept [R j] w w2)(r: ∃cur,Row w2 (R j) cur 3/\ ∀k,k<n->cur[k]?=some (.int .i64 (V' j k:Nat)))(he: ∀i,i<m->i≠j-> ∀k,k<n->V' i k=V i k):FamC w2 base n R V' m:=by
 refine⟨fun i hi=>?_,h.dis,h.low⟩
 by_cases e:i=j
 ·rw[e];exact r
 ·obtain⟨c,r2,hc⟩:=h.row i hi
  refine⟨c,k.row r2 ?_,fun x hx=>by rw[he i hi e x hx];exact hc x hx⟩
  intro hm
  exact e (h.dis i j hi hj (by simpa using hm))
theorem FamC.swap {a b:Nat}(h:FamC w base n R V m)(ha:a<m)(hb:b<m):FamC w base n (fun i=>R (swi a b i)) (fun i=>V (swi a b i)) m:=
 ⟨fun j hj=>h.row _ (swi_lt ha hb hj),fun i j hi hj e=>swi_inj (h.dis _ _ (swi_lt ha hb hi) (swi_lt ha hb hj) e),fun j hj=>h.low _ (swi_lt ha hb hj)⟩
theorem FamC.add (h:FamC w base n R V m){g:Nat}(hg: ∀j,j<m->R j≠g)(hb:base<=g)(r: ∃cur,Row w g cur 3/\ ∀k,k<n->cur[k]?=some (.int .i64 (V m k:Nat))):FamC w base n (upR R m g) V (m+1):=by
 refine⟨fun j hj=>?_,fun i j hi hj e=>?_,fun j hj=>?_⟩
 ·by_cases e:j=m
  ·subst e
   rw[upR_at];exact r
  ·rw[upR_lt R (show j<m by omega)]
   exact h.row j (by omega)
 ·by_cases e1:i=m
  ·by_cases e2:j=m
   ·omega
   ·rw[e1,upR_at,upR_lt R (show j<m by omega)]at e
    exact absurd e.symm (hg j (by omega))
  ·by_cases e2:j=m
   ·rw[e2,upR_at,upR_lt R (show i<m by omega)]at e
    exact absurd e (hg i (by omega))
   ·rw[upR_lt R (show i<m by omega),upR_lt R (show j<m by omega)]at e
    exact h.dis i j (by omega) (by omega) e
 ·by_cases e:j=m
  ·subst e
   rw[upR_at];exact hb
  ·rw[upR_lt R (show j<m by omega)]
   exact h.low j (by omega)
theorem famC_nil (w:World)(base n:Nat)(R:Nat->Nat)(V:Nat->Nat->Nat):FamC w base n R V 0:=
 ⟨fun j hj=>absurd hj (by omega),fun i j hi=>absurd hi (by omega),fun j hj=>absurd hj (by omega)⟩
end
section
variable {ops:Array Oper}{Q:Exit->Act->World->Prop}{rest:List Oper}{o:Oper}{a:Act}{w:World}
theorem run_cpI {ρ:Operand->Value}(w:World)(s x:Operand)(ho:o.op= .call {callee:=.builtin .append,args:=#[s,x],argTypes:=#[32,32]})(g0:Nat)(hs:ρ s= .slice (some ⟨g0,0,none⟩) 0 0)(ad:Addr)(n c:Nat)(u:Nat->Nat)(hx:ρ x= .slice (some ad) n c)(hn1:1<=n)(hn:n<=1000)(hnews: ∀j v,(isC n u).toList[j]?=some v->w.cell? (ad.add j)=some v):
  ∃cp,n<=cp/\cp<=maxLen/\(execOp ρ o).run Tryz.prog w= .ok (.value (.slice (some ⟨w.heap.size,0,none⟩) n cp)) (w.drew.alloc (.cells (([]:List Value).toArray++(isC n u).toList.toArray++Builtin.zeroCells (Value.int .i64 0).cells (cp-n)) 3)):=by
 obtain⟨ie,hie,hz,hsz,hby⟩:=info_int'
 have hl:(isC n u).toList.length=n*ie.size:=by rw[Array.length_toList,isC_size,hsz,Nat.mul_one]
 have hr:=run_append_grow (P:=Tryz.prog) w 32 o.type 3 ie _ Tryz.underlying32 hie hz ⟨g0,0,none⟩ 0 0 [] (by simp) (by simp) ad n c _ hl hnews (by omega) (by omega) (growslice_fits (by omega) (by rw[hby];omega))
 have hge:=grownCap_ge w (0+n) 0 3
 have hcm:=grownCap_le_maxLen w (0+n) 0 3 (by simp only[maxLen];omega)
 generalize grownCap w (0+n) 0 3=cp at hr hge hcm
 rw[Nat.zero_add]at hr hge
 refine⟨cp,hge,hcm,?_⟩
 unfold execOp
 simp only[ho,resolve,invoke,builtin,Sem.run_bind,Sem.run_pure,Result.andThen_ok,List.map_toArray,List.map_cons,List.map_nil,hs,hx,hr]
theorem pw_cpI (hw:Region.wanted o (yielded ops a.tmps)=true)(s x:Operand)(ho:o.op= .call {callee:=.builtin .append,args:=#[s,x],argTypes:=#[32,32]})(g0:Nat)(hs:a.eval s= .slice (some ⟨g0,0,none⟩) 0 0)(gb ob n c:Nat)(u:Nat->Nat)(hx:a.eval x= .slice (some ⟨gb,ob,none⟩) n c)(hn1:1<=n)(hn:n<=1000)
  {bcs:Array Value}{tb:TypeId}(rB:RowR w gb bcs tb)(hb: ∀i,i<n->bcs[ob+i*1]?=some (.int .i64 (u i:Nat)))
  (h: ∀g cp cur w',w.heap.size<=g->Row w' g cur 3->n<=cp->(∀k,k<n->cur[k]?=some (.int .i64 (u k:Nat)))->Kept [] w w'->PW Tryz.prog ops Q rest (a.put o.dst (.slice (some ⟨g,0,none⟩) n cp)) w'):PW Tryz.prog ops Q (o::rest) a w:=by
 have hnews: ∀j v,(isC n u).toList[j]?=some v->w.cell? ((⟨gb,ob,none⟩:Addr).add j)=some v:=by
  intro j v hj
  rw[Array.getElem?_toList]at hj
  have hjn:j<n:=by
   have:=(Array.getElem?_eq_some_iff.1 hj).1
   rwa [isC_size]at this
  rw[isC_get n u j hjn]at hj
  rw[Addr.add_mid,rB.cell,<-hj]
  have:=hb j hjn
  rw[Nat.mul_one]at this
  exact this
 obtain⟨cp,hge,_,hd⟩:=run_cpI w s x ho g0 hs ⟨gb,ob,none⟩ n c u hx hn1 hn hnews
 refine pw_run hw _ _ hd (h w.heap.size cp _ _ (Nat.le_refl _) (heap_alloc_new w.drew _) hge (fun k hk=>?_) ⟨rfl,rfl,rfl,by simp,fun k hk _=>heap_alloc_old w.drew _ hk⟩)
 rw[<-isC_get n u k hk]
 rw[Array.getElem?_append_left (by simp[isC_size];omega)]
 simp
end
section
variable {Q:Nat}[NeZero Q]
theorem mAt_eq (A:Mx Q)(col r m a:Nat)(h1:r<=a)(h2:a<=m)(h3: ∀i,r<=i->i<a->A i col=0)(h4:a=m∨A a col≠0):mAt A col r (m-r)=a:=by
 obtain⟨l1,l2⟩:=mAt_le A col (m-r) r
 rcases Nat.lt_trichotomy (mAt A col r (m-r)) a with h|h|h
 ·exact absurd (h3 _ l1 h) (mAt_ne A col (m-r) r (by omega))
 ·exact h
 ·rcases h4 with h4|h4
  ·omega
  ·exact absurd (mAt_zero A col (m-r) r a h1 h) h4
def rkD (B:Mx Q)(r c i:Nat):Mx Q:=fun a k=>if r<a/\a<i then B a k-B a c*ivF (B r c)*B r k else B a k
def rkE (B:Mx Q)(r c i kk:Nat):Mx Q:=fun a k=>if a=i/\k<kk then B i k-B i c*ivF (B r c)*B r k else rkD B r c i a k
theorem rkD_0 (B:Mx Q)(r c a k:Nat):rkD B r c (r+1) a k=B a k:=if_neg (by omega)
theorem rkE_0 (B:Mx Q)(r c i a k:Nat):rkE B r c i 0 a k=rkD B r c i a k:=if_neg (by omega)
theorem rkE_end (B:Mx Q){r c i n:Nat}(hri:r<i)(a k:Nat)(hk:k<n):rkE B r c i n a k=rkD B r c (i+1) a k:=by
 unfold rkE rkD
 by_cases e:a=i
 ·subst e
  rw[if_pos ⟨rfl,hk⟩,if_pos (by omega)]
 ·rw[if_neg (fun h=>e h.1)]
  by_cases e2:r<a/\a<i
  ·rw[if_pos e2,if_pos (by omega)]
  ·rw[if_neg e2,if_neg (by omega)]
theorem rkD_end (B:Mx Q){r c m:Nat}(a k:Nat)(ha:a<m):rkD B r c m a k=mElim B r c ivF a k:=by
 unfold rkD mElim
 by_cases e:r<a
 ·rw[if_pos ⟨e,ha⟩,if_pos e]
 ·rw[if_neg (fun h=>e h.1),if_neg e]
theorem rkD_low (B:Mx Q){r c i a:Nat}(h: ¬(r<a/\a<i))(k:Nat):rkD B r c i a k=B a k:=if_neg h
theorem rkE_other (B:Mx Q){r c i kk a:Nat}(h:a≠i)(k:Nat):rkE B r c i kk a k=rkD B r c i a k:=if_neg (fun x=>h x.1)
theorem rkE_up (B:Mx Q){r c i kk:Nat}(k:Nat):rkE B r c i (kk+1) i k=if k=kk then B i kk-B i c*ivF (B r c)*B r kk else rkE B r c i kk i k:=by
 unfold rkE
 by_cases e:k=kk
 ·subst e
  rw[if_pos ⟨rfl,by omega⟩,if_pos rfl]
 ·rw[if_neg e]
  by_cases e2:k<kk
  ·rw[if_pos ⟨rfl,by omega⟩,if_pos ⟨rfl,e2⟩]
  ·rw[if_neg (by omega),if_neg (by omega)]
end
theorem info_sli: ∃i,Tryz.prog.info? 32=some i/\i.zero=some (.slice none 0 0)/\i.size=1/\i.bytes=24:=by
 have h:(Tryz.prog.info? 32).map (fun i=>(i.zero,i.size,i.bytes))=some (some (.slice none 0 0),1,24):=by kernel_rfl
 cases hi:Tryz.prog.info? 32 with
 |none=>rw[hi]at h;cases h
 |some i=>
  rw[hi]at h
  simp only[Option.map_some,Option.some.injEq,Prod.mk.injEq]at h
  exact⟨i,rfl,h.1,h.2.1,h.2.2⟩
theorem lit_si (a:Option Addr)(n c k:Nat)(hk:k=1):Instr.fill (fun i=>some (i*k,k)) ((Array.range (1*k)).map ((Value.slice none 0 0).cells[· %(Value.slice none 0 0).cells.size]!)) [(0,.slice a n c)]=some #[.slice a n c]:=by
 subst hk
 kernel_rfl
theorem one_si (a:Option Addr)(n c:Nat):(#[Value.slice a n c]:Array Value).all (·.oneCell')=true:=by simp[Value.oneCell']
theorem ownE_cong {k:Nat}{e:TypeId}{w:World}{bs:Nat}{v:Value}{n:Nat}{C D:Nat->Array Value}(h:OwnE k e w bs v n C)(he: ∀i,i<n->C i=D i):OwnE k e w bs v n D:=by
 unfold OwnE
 rw[<-esC_congr he]
 exact h
theorem ownE_row {e:TypeId}{w:World}{bs:Nat}{v:Value}{n:Nat}{S:Nat->Value}(h:OwnE 1 e w bs v n (fun j=>#[S j]))(hn:0<n): ∃g cap cur,v= .slice (some ⟨g,0,none⟩) n cap/\bs<=g/\Row w g cur e/\ ∀j,j<n->cur[j]?=some (S j):=by
 rcases h.2 with ⟨_,rfl⟩|⟨g,cap,cur,rfl,hb,hg,hnc,_,hcs,htk⟩
 ·exact absurd hn (by decide)
 refine⟨g,cap,cur,rfl,hb,hg,fun j hj=>?_⟩
 have h1:=esC_part (k:=1) (C:=fun j=>#[S j]) (fun _=>rfl) j hj j (by omega) 0 (S j) rfl
 rw[Nat.add_zero,<-Array.getElem?_toList,<-htk,List.getElem?_take,if_pos (by omega),Array.getElem?_toList]at h1
 exact h1
set_option maxRecDepth 100000 in
set_option maxHeartbeats 4000000 in
theorem rank_any {Q:Nat}[NeZero Q](ab:Option Addr)(m c0 n:Nat)(S:Nat->Value)(A:Mx Q)(gb ob:Nat)(bcs:Array Value)(tb:TypeId)(w:World)(q:FdQ Q)(hq:Q<4611686018427387904)(hm1:1<=m)(hm:m<=100)(hn1:1<=n)(hn:n<=100)(hna:VsAt w ab m S gb ob bcs tb)(hS: ∀i,i<m->NiAt w (S i) n (fun k=>(A i k).val)):
  Calls Tryz.prog 8 #[.slice ab m c0,.int .i64 (Q:Nat)] w fun e w'=>e= .returned (.int .i64 ((rkC ivF m A n).2:Nat))/\Below w.heap.size w w':=by
 obtain⟨ie,hie,hz,hsz,hby⟩:=info_int'
 obtain⟨is',his,hzs,hszs,hbys⟩:=info_sli
 have hs1: ¬1*is'.size>2^24:=by rw[hszs];decide
 have hs2: ¬1*is'.size=0:=by rw[hszs];decide
 have hls:=fun a n c=>lit_si a n c is'.size hszs
 have h0q:=q.pos
 have hmu:=fun(u v:Fin Q) w'=>rmul8_any u.val v.val Q w' h0q hq
 simp only[<-Fin.val_mul]at hmu
 have hsu:=fun(u v:Fin Q) w'=>rsub8_any u.val v.val Q w' h0q u.isLt v.isLt hq
 simp only[sbN_val]at hsu
 have hiv:=fun(u:Fin Q) w'=>rinv8_any u.val Q w' q.two hq
 simp only[ivN_val q.pr]at hiv
 have HB:Hid (VsAt w ab m S gb ob bcs tb):=hna
 have HS:Hid (∀i,i<m->NiAt w (S i) n (fun k=>(A i k).val)):=hS
 have hon:=fun(R cp:Nat->Nat) (j:Nat)=>(show(#[Value.slice (some ⟨R j,0,none⟩) n (cp j)]:Array Value).size=1 from rfl)
 clear hna hS
 go_enter Tryz.func8,Tryz.ntmps8
 have sb:=sbmk w
 iterate 2 go_step
 refine rp ?_;refine p_v (.int .i64 0) (fun _=>rfl) (pw_nil ?_);simp only[pv]
 iterate 3 go_step
 refine rp ?_;refine p_v (.slice none 0 0) ((fun _=>rfl)) (pw_nil ?_);simp only[pv]
 iterate 4 go_step
 refine rp ?_;refine p_v (.int .i64 0) (fun _=>rfl) (pw_nil ?_);simp only[pv]
 go_wp2_with fail
 go_loopg [5,6] m (fun y s5 s6 wr=> ∃(i:Nat) (R cp:Nat->Nat),i+y=m/\s6= .int .i64 i/\OwnE 1 32 wr w.heap.size s5 i (fun j=>#[.slice (some ⟨R j,0,none⟩) n (cp j)])/\FamC wr w.heap.size n R (fun ia ka=>(A ia ka:Fin Q).val) i/\(∀j,j<i->s5.ownBlock≠some (R j))/\Below w.heap.size w wr)
 case atStart=>exact⟨0,fun _=>0,fun _=>0,by omega,rfl,ownE_nil _ _ _ _,famC_nil _ _ _ _ _,nofun,sb⟩
 case round=>
  clear sb
  obtain⟨i,R,cp,hi,rfl,hP,hF,ehPxhF,sb⟩:=hrel
  cases gk with
  |succ y=>
   have hlt:i<m:=by omega
   obtain⟨ai,ci,gi,oi,bi,ti,hSi,hni⟩:=HS.out i hlt
   have HN:Hid (NumsAt w ai n (fun k=>(A i k).val) gi oi bi ti):=hni
   clear hni
   obtain h0|⟨rfl,rB,hbt⟩:=(HB.out.below sb).at'
   ·exact absurd h0 (by omega)
   have hbt':=hbt i hlt
   rw[hSi]at hbt'
   clear hbt
   iterate 2 go_step
   refine rp ?_;refine p_m ?_;refine p_m ?_;simp only[pv];refine p_v (.int .i64 m) (n_l (some ⟨gb,ob,none⟩) m c0 sl_lli) ?_;refine p_v (.bool true) (lt_t i m) (pw_nil ?_);simp only[pv];clear rB
   obtain h0|⟨_,rB,_⟩:=(HB.out.below sb).at'
   ·exact absurd h0 (by omega)
   obtain h0|⟨rfl,rN,hnt⟩:=(HN.out.below sb).at'
   ·exact absurd h0 (by omega)
   iterate 8 go_step
   refine rp ?_;refine p_m ?_;simp only[pv];refine pw_lit0 (by rfl) 32 3 rfl ie Tryz.underlying32 hie ?_;intro gZ z5001 n0 rZ k;simp only[pv]
   have ehPxZ:=hP.new n0
   have hFxZ:=fun j hj=>Nat.ne_of_lt (Nat.lt_of_lt_of_le (hF.lt (j:=j) hj) n0)
   clear n0
   replace hP:=hP.on k (own_ne0 _)
   replace hF:=hF.below k.nil;replace sb:=kk sb k;clear k;refine p_m ?_;refine p_m ?_;simp only[pv];refine p_x i hlt Tryz.underlying31 Tryz.sizeOf32 ?_;simp only[pv]
   replace rB:RowR _ gb bcs tb:=((HB.out.below sb).at'.resolve_left (by omega)).2.1
   refine p_d (ob+i*1) rB (.slice (some ⟨gi,oi,none⟩) n ci) hbt' Tryz.isAgg32 ?_;simp only[pv]
   replace rN:RowR _ gi bi ti:=((HN.out.below sb).at'.resolve_left (by omega)).2.1
   refine pw_cpI (by rfl) _ _ rfl gZ rfl gi oi n ci (fun k=>(A i k).val) rfl hn1 (by omega) rN hnt ?_;intro gX pX cX z5006 n0 rX hpX hcX k;simp only[pv]
   have ehPxX:=hP.new n0
   have hFxX:=fun j hj=>Nat.ne_of_lt (Nat.lt_of_lt_of_le (hF.lt (j:=j) hj) n0)
   have bX:=Nat.le_trans sb.size n0
   clear n0
   replace hP:=hP.on k (own_ne0 _)
   replace hF:=hF.below k.nil;replace rZ:=k.ro rZ;replace sb:=kk sb k;clear k;refine pw_litr (by rfl) 31 32 1 _ rfl (#[.slice (some ⟨gX,0,none⟩) n pX]) is' _ Tryz.underlying31 his hzs hs1 hs2 [(0,.slice (some ⟨gX,0,none⟩) n pX)] rfl (hls _ _ _) ?_;intro gY z5007 n0 rY k;simp only[pv]
   have ehPxY:=hP.new n0
   have hFxY:=fun j hj=>Nat.ne_of_lt (Nat.lt_of_lt_of_le (hF.lt (j:=j) hj) n0)
   clear n0
   replace hP:=hP.on k (own_ne0 _)
   replace hF:=hF.below k.nil;replace rZ:=k.ro rZ;replace rX:=k.ro rX;replace sb:=kk sb k;clear k
   replace hP:=ownE_cong (D:=(fun j=>#[.slice (some ⟨upR R i gX j,0,none⟩) n (upR cp i pX j)])) hP (fun j hj=>by show #[_]=#[_];rw[upR_lt R hj,upR_lt cp hj])
   refine pw_appE (by rfl) _ _ (31) rfl (w.heap.size) 32 is' _ 1 24 Tryz.underlying31 his hzs hszs hbys rfl (by decide) (by decide) (_) (i) ((fun j=>#[.slice (some ⟨upR R i gX j,0,none⟩) n (upR cp i pX j)])) ((hon _ _)) rfl hP gY _ rfl (by show Row _ gY #[.slice (some ⟨upR R i gX i,0,none⟩) n (upR cp i pX i)] _;rw[upR_at,upR_at];exact rY) ((one_si _ _ _)) ((by omega)) sb.size ?_
   have h0:=hP
   clear hP;intro v1 z5008 hP k hp;simp only[pv]
   have chF:=fun j hj=>hF.lt (j:=j) hj
   replace hF:=hF.on k (fun j hj=>own_nin (ehPxhF j hj))
   replace ehPxhF:=fun j hj=>own_apart hp (chF j hj) (ehPxhF j hj)
   clear chF
   have crZ:=rZ.lt
   replace rZ:=k.row rZ (by first|exact own_nin ehPxZ|exact own_nin (h0.low (by omega)))
   have crX:=rX.lt
   replace rX:=k.row rX (by first|exact own_nin ehPxX|exact own_nin (h0.low (by omega)))
   have crY:=rY.lt
   replace rY:=k.row rY (by first|exact own_nin ehPxY|exact own_nin (h0.low (by omega)))
   (try replace ehPxZ:=own_apart hp crZ ehPxZ)
   clear crZ
   (try replace ehPxX:=own_apart hp crX ehPxX)
   clear crX
   (try replace ehPxY:=own_apart hp crY ehPxY)
   clear crY;clear hp
   replace sb:=sb.trans (k.below w.heap.size sb.size h0.base)
   clear h0;clear k;refine p_a (pw_nil ?_);simp only[pv]
   have hF2:=hF.add hFxX bX ⟨cX,rX,hcX⟩
   have eh2: ∀j,j<i+1->v1.ownBlock≠some (upR R i gX j):=fun j hj=>by
    by_cases e:j=i
    ·subst e;rw[upR_at];exact ehPxX
    ·rw[upR_lt R (show j<i by omega)];exact ehPxhF j (by omega)
   clear hF hFxX rX rY rZ rB rN
   generalize upR R i gX=R2 at*
   generalize upR cp i pX=cp2 at*
   iterate 2 go_step
   refine rp ?_;refine p_m ?_;simp only[pv];refine p_v (.int .i64 ((i+1:Nat):Int)) (x_a (i) 1) ?_;refine p_a (pw_nil ?_);simp only[pv]
   go_wp2
   go_roundg y
   case measure=>omega
   case rel=>exact⟨i+1,R2,cp2,by omega,rfl,hP,hF2,eh2,sb⟩
  |zero=>
   obtain rfl:i=m:=by omega
   obtain⟨gL,kp,cT,rfl,bL,rT,hcT⟩:=ownE_row (S:=fun j=>.slice (some ⟨R j,0,none⟩) n (cp j)) hP (by omega)
   have hFxT: ∀j,j<i->R j≠gL:=fun j hj e=>ehPxhF j hj (by rw[e];rfl)
   rename_i hm1' 
   clear hP ehPxhF hi
   iterate 2 go_step
   refine rp ?_;refine p_m ?_;refine p_m ?_;simp only[pv];refine p_v (.int .i64 i) (n_l ab i c0 sl_lli) ?_;refine p_v (.bool false) (lt_f i i) (pw_nil ?_);simp only[pv]
   iterate 7 go_step
   refine rp ?_;refine p_v (.int .i64 0) (fun _=>rfl) (pw_nil ?_);simp only[pv]
   iterate 4 go_step
   refine rp ?_;refine p_v (.int .i64 0) (fun _=>rfl) (pw_nil ?_);simp only[pv]
   go_wp2_with fail
   go_loopg [7,8,9,10,11,12,13] n (fun z s7 s8 s9 s10 s11 s12 s13 wr=> ∃(c r:Nat) (B:Mx Q) (R cp:Nat->Nat) (cT:Array Value),c+z=n/\s8= .int .i64 c/\s7= .int .i64 r/\(rkC ivF i A c)=(B,r)/\Row wr gL cT 32/\(∀j,j<i->cT[j]?=some (.slice (some ⟨R j,0,none⟩) n (cp j)))/\FamC wr w.heap.size n R (fun ia ka=>(B ia ka:Fin Q).val) i/\(∀j,j<i->R j≠gL)/\Below w.heap.size w wr)
   case atStart=>exact⟨0,0,A,R,cp,cT,by omega,rfl,rfl,rfl,rT,hcT,hF,hFxT,sb⟩
   case round=>
    clear rT hcT hF hFxT sb
    obtain⟨c,r,B,R,cp,cT,hc,rfl,rfl,hRK,rT,hcT,hF,hFxT,sb⟩:=hrel
    have HRK:Hid ((rkC ivF i A c)=(B,r)):=hRK
    have hri:r<=i:=by
     have:=rkC_le ivF i A c
     rw[hRK]at this
     exact this
    clear hRK
    cases gk with
    |zero=>
     obtain rfl:n=c:=by omega
     iterate 2 go_step
     refine rp ?_;refine p_m ?_;simp only[pv];refine p_v (.int .i64 i) (n_l (some ⟨gL,0,none⟩) i kp sl_lli) ?_;refine p_v (.bool true) (gt_t i 0) ?_;refine p_m ?_;refine p_m ?_;refine p_m ?_;simp only[pv];refine p_v (.pointer (some ⟨gL,0+0*1,none⟩)) ((exec_index_s 31 _ _ rfl (gL) (0) (i) (kp) rfl (0) rfl (by omega) _ Tryz.underlying31 1 Tryz.sizeOf32)) ?_;simp only[pv];refine p_d (0+0*1) rT.r (.slice (some ⟨R 0,0,none⟩) n (cp 0)) (hcT 0 (by omega)) Tryz.isAgg32 ?_;simp only[pv];refine p_v (.int .i64 n) (n_l (some ⟨R 0,0,none⟩) n ((cp 0)) sl_intsX) ?_;refine p_v (.bool false) (lt_f n n) ?_;refine p_k true (.bool false) (pw_nil ?_);simp only[pv]
     iterate 7 go_step
     refine rp ?_;refine p_m ?_;refine p_a (pw_nil ?_);simp only[pv]
     go_wp2
     go_ret
     exact⟨by rw[HRK.out];rfl,sb⟩
    |succ z=>
     have hcn:c<n:=by omega
     iterate 2 go_step
     refine rp ?_;refine p_m ?_;simp only[pv];refine p_v (.int .i64 i) (n_l (some ⟨gL,0,none⟩) i kp sl_lli) ?_;refine p_v (.bool true) (gt_t i 0) ?_;refine p_m ?_;refine p_m ?_;refine p_m ?_;simp only[pv];refine p_v (.pointer (some ⟨gL,0+0*1,none⟩)) ((exec_index_s 31 _ _ rfl (gL) (0) (i) (kp) rfl (0) rfl (by omega) _ Tryz.underlying31 1 Tryz.sizeOf32)) ?_;simp only[pv];refine p_d (0+0*1) rT.r (.slice (some ⟨R 0,0,none⟩) n (cp 0)) (hcT 0 (by omega)) Tryz.isAgg32 ?_;simp only[pv];refine p_v (.int .i64 n) (n_l (some ⟨R 0,0,none⟩) n ((cp 0)) sl_intsX) ?_;refine p_v (.bool true) (lt_t c n) ?_;refine p_k true (.bool true) (pw_nil ?_);simp only[pv]
     iterate 9 go_step
     refine rp ?_;refine p_m ?_;refine p_a (pw_nil ?_);simp only[pv]
     go_wp2_with fail
     go_loopg [9] (i-r) (fun y s9 wr=> ∃a:Nat,a+y=i/\r<=a/\s9= .int .i64 a/\(∀x,r<=x->x<a->B x c=0)/\Row wr gL cT 32/\FamC wr w.heap.size n R (fun ia ka=>(B ia ka:Fin Q).val) i/\Below w.heap.size w wr)
     case atStart=>exact⟨r,by omega,Nat.le_refl r,rfl,fun x h1 h2=>absurd h2 (by omega),rT,hF,sb⟩
     case round=>
      clear rT hF sb
      obtain⟨a,ha,hra,rfl,haz,rT,hF,sb⟩:=hrel
      cases gk with
      |zero=>
       obtain rfl:a=i:=by omega
       have hnx:(rkC ivF a A (c+1))=(B,r):=by
        show rkS ivF a c (rkC ivF a A c)=_
        rw[HRK.out]
        unfold rkS
        rw[mAt_eq B c r a a hra (Nat.le_refl a) haz (.inl rfl)]
        exact if_pos (Nat.le_refl a)
       iterate 2 go_step
       refine rp ?_;refine p_m ?_;refine p_m ?_;simp only[pv];refine p_v (.int .i64 a) (n_l (some ⟨gL,0,none⟩) a kp sl_lli) ?_;refine p_v (.bool false) (lt_f a a) ?_;refine p_m ?_;refine p_s ?_;refine p_s ?_;simp only[pv];refine p_s ?_;refine p_s ?_;refine p_s ?_;refine p_s ?_;refine p_s ?_;simp only[pv];refine p_s ?_;refine p_k false (.bool false) (pw_nil ?_);simp only[pv]
       iterate 8 go_step
       refine rp ?_;refine p_m ?_;refine p_m ?_;simp only[pv];refine p_v (.int .i64 a) (n_l (some ⟨gL,0,none⟩) a kp sl_lli) ?_;simp only[pv];refine p_v (.bool true) (exec_geq_i _ _ _ _ rfl a a rfl rfl true (decide_eq_true (Int.le_refl _))) (pw_nil ?_);simp only[pv]
       iterate 6 go_step
       refine rp ?_;refine p_m ?_;simp only[pv];refine p_v (.int .i64 ((c+1:Nat):Int)) (x_a (c) 1) ?_;refine p_a (pw_nil ?_);simp only[pv]
       go_wp2
       go_roundg z
       case measure=>omega
       case rel=>exact⟨c+1,r,B,R,cp,cT,by omega,rfl,rfl,hnx,rT,hcT,hF,hFxT,sb⟩
      |succ y=>
       have hai:a<i:=by omega
       obtain⟨cA,rA,hcA⟩:=hF.row a hai
       have hcA':=hcA c hcn
       by_cases hz0:B a c=0
       ·have haz2: ∀x,r<=x->x<a+1->B x c=0:=fun x h1 h2=>by
         by_cases e:x=a
         ·rw[e];exact hz0
         ·exact haz x h1 (by omega)
        iterate 2 go_step
        refine rp ?_;refine p_m ?_;refine p_m ?_;simp only[pv];refine p_v (.int .i64 i) (n_l (some ⟨gL,0,none⟩) i kp sl_lli) ?_;refine p_v (.bool true) (lt_t a i) ?_;refine p_m ?_;refine p_m ?_;refine p_m ?_;simp only[pv];refine p_x a hai Tryz.underlying31 Tryz.sizeOf32 ?_;simp only[pv];refine p_d (0+a*1) rT.r (.slice (some ⟨R a,0,none⟩) n (cp a)) (by rw[show 0+a*1=a by omega];exact hcT a (by omega)) Tryz.isAgg32 ?_;refine p_m ?_;simp only[pv];refine p_x c hcn Tryz.underlying32 Tryz.sizeOf3 ?_;simp only[pv];refine p_d (0+c*1) rA.r (.int .i64 ((B a c).val:Nat)) (by rw[show 0+c*1=c by omega];exact hcA') Tryz.isAgg3 ?_;simp only[pv];refine p_v (.bool true) (exec_eql_k .i64 _ _ _ _ rfl ((B a c).val:Nat) 0 rfl rfl true (by rw[hz0];exact decide_eq_true (by show(((0:Fin Q).val:Nat):Int)=0;rw[show(0:Fin Q).val=0%Q from rfl,Nat.zero_mod];rfl))) ?_;refine p_k true (.bool true) (pw_nil ?_);simp only[pv];clear rA hcA hcA'
        iterate 7 go_step
        refine rp ?_;refine p_m ?_;simp only[pv];refine p_v (.int .i64 ((a+1:Nat):Int)) (x_a (a) 1) ?_;refine p_a (pw_nil ?_);simp only[pv]
        go_wp2
        go_roundg y
        case measure=>omega
        case rel=>exact⟨a+1,by omega,by omega,rfl,haz2,rT,hF,sb⟩
       ·have hnx:(rkC ivF i A (c+1))=(mElim (mSwp B r a) r c ivF,r+1):=by
         show rkS ivF i c (rkC ivF i A c)=_
         rw[HRK.out]
         unfold rkS
         rw[mAt_eq B c r i a hra (by omega) haz (.inr hz0)]
         exact if_neg (by show ¬i<=a;omega)
        have HNX:Hid ((rkC ivF i A (c+1))=(mElim (mSwp B r a) r c ivF,r+1)):=hnx
        have hzv: ¬(((B a c).val:Nat):Int)=0:=fun e=>hz0 (Fin.ext (by rw[show(0:Fin Q).val=0%Q from rfl,Nat.zero_mod];omega))
        clear hnx
        iterate 2 go_step
        refine rp ?_;refine p_m ?_;refine p_m ?_;simp only[pv];refine p_v (.int .i64 i) (n_l (some ⟨gL,0,none⟩) i kp sl_lli) ?_;refine p_v (.bool true) (lt_t a i) ?_;refine p_m ?_;refine p_m ?_;refine p_m ?_;simp only[pv];refine p_x a hai Tryz.underlying31 Tryz.sizeOf32 ?_;simp only[pv];refine p_d (0+a*1) rT.r (.slice (some ⟨R a,0,none⟩) n (cp a)) (by rw[show 0+a*1=a by omega];exact hcT a (by omega)) Tryz.isAgg32 ?_;refine p_m ?_;simp only[pv];refine p_x c hcn Tryz.underlying32 Tryz.sizeOf3 ?_;simp only[pv];refine p_d (0+c*1) rA.r (.int .i64 ((B a c).val:Nat)) (by rw[show 0+c*1=c by omega];exact hcA') Tryz.isAgg3 ?_;simp only[pv];refine p_v (.bool false) (exec_eql_k .i64 _ _ _ _ rfl ((B a c).val:Nat) 0 rfl rfl false (decide_eq_false hzv)) ?_;refine p_k true (.bool false) (pw_nil ?_);simp only[pv];clear rA hcA hcA' hzv haz
        iterate 8 go_step
        refine rp ?_;refine p_m ?_;refine p_m ?_;simp only[pv];refine p_v (.int .i64 i) (n_l (some ⟨gL,0,none⟩) i kp sl_lli) ?_;simp only[pv];refine p_v (.bool false) (exec_geq_i _ _ _ _ rfl a i rfl rfl false (decide_eq_false (by omega))) (pw_nil ?_);simp only[pv]
        iterate 7 go_step
        refine rp ?_;refine p_m ?_;refine p_m ?_;simp only[pv];refine p_v (.pointer (some ⟨gL,0+r*1,none⟩)) ((exec_index_s 31 _ _ rfl (gL) (0) (i) (kp) rfl (r) rfl (by omega) _ Tryz.underlying31 1 Tryz.sizeOf32)) ?_;simp only[pv];refine p_d (0+r*1) rT.r (.slice (some ⟨R r,0,none⟩) n (cp r)) (by rw[show 0+r*1=r by omega];exact hcT r (by omega)) Tryz.isAgg32 ?_;refine p_a (pw_nil ?_);simp only[pv]
        have hsT:=(Array.getElem?_eq_some_iff.1 (hcT r (by omega))).1
        have hsA:=(Array.getElem?_eq_some_iff.1 (hcT a hai)).1
        iterate 3 go_step
        refine rp ?_;refine p_m ?_;refine p_m ?_;refine p_m ?_;refine p_m ?_;simp only[pv];refine p_x a hai Tryz.underlying31 Tryz.sizeOf32 ?_;simp only[pv];refine p_d (0+a*1) rT.r (.slice (some ⟨R a,0,none⟩) n (cp a)) (by rw[show 0+a*1=a by omega];exact hcT a (by omega)) Tryz.isAgg32 ?_;simp only[pv];refine p_v (.pointer (some ⟨gL,0+r*1,none⟩)) ((exec_index_s 31 _ _ rfl (gL) (0) (i) (kp) rfl (r) rfl (by omega) _ Tryz.underlying31 1 Tryz.sizeOf32)) ?_;simp only[pv];refine pw_putv (by rfl) 32 _ _ rfl _ (0+r*1) rfl rT (.slice (some ⟨R a,0,none⟩) n (cp a)) rfl rfl rfl size1tint (by omega) ((cT.setIfInBounds (0+r*1) (.slice (some ⟨R a,0,none⟩) n (cp a)))) rfl ?_;clear rT;intro z15007 rT k;simp only[Act.put]
        replace hF:=hF.on k (fun j hj=>by simpa using hFxT j hj)
        replace sb:=kk sb k;clear k;refine pw_nil ?_
        iterate 3 go_step
        refine rp ?_;refine p_m ?_;refine p_m ?_;refine p_m ?_;simp only[pv];refine p_x a hai Tryz.underlying31 Tryz.sizeOf32 ?_;simp only[pv];refine pw_putv (by rfl) 32 _ _ rfl _ (0+a*1) rfl rT (.slice (some ⟨R r,0,none⟩) n (cp r)) rfl rfl rfl size1tint (by rw[Array.size_setIfInBounds];omega) (((cT.setIfInBounds (0+r*1) (.slice (some ⟨R a,0,none⟩) n (cp a))).setIfInBounds (0+a*1) (.slice (some ⟨R r,0,none⟩) n (cp r)))) rfl ?_;clear rT;intro z16004 rT k;simp only[Act.put]
        replace hF:=hF.on k (fun j hj=>by simpa using hFxT j hj)
        replace sb:=kk sb k;clear k;refine pw_nil ?_
        have hc2: ∀j,j<i->((cT.setIfInBounds (0+r*1) (.slice (some ⟨R a,0,none⟩) n (cp a))).setIfInBounds (0+a*1) (.slice (some ⟨R r,0,none⟩) n (cp r)))[j]?=some (.slice (some ⟨R (swi r a j),0,none⟩) n (cp (swi r a j))):=fun j hj=>by
         rw[Array.getElem?_setIfInBounds,Array.getElem?_setIfInBounds,Array.size_setIfInBounds]
         unfold swi
         by_cases e1:j=a
         ·rw[if_pos (by omega),if_pos (by omega)]
          by_cases e2:j=r
          ·rw[if_pos e2,<-e1,e2]
          ·rw[if_neg e2,if_pos e1]
         ·rw[if_neg (by omega)]
          by_cases e2:j=r
          ·rw[if_pos (by omega),if_pos (by omega),if_pos e2]
          ·rw[if_neg (by omega),if_neg e2,if_neg e1,hcT j hj]
        generalize ((cT.setIfInBounds (0+r*1) (.slice (some ⟨R a,0,none⟩) n (cp a))).setIfInBounds (0+a*1) (.slice (some ⟨R r,0,none⟩) n (cp r)))=cU at*
        have hF2:FamC _ w.heap.size n (fun j=>R (swi r a j)) (fun ia ka=>(mSwp B r a ia ka:Fin Q).val) i:=(hF.swap (show r<i by omega) hai).congr fun x _ k _=>by rw[mSwp_sw]
        have hfT: ∀j,j<i->R (swi r a j)≠gL:=fun j hj=>hFxT _ (swi_lt (by omega) hai hj)
        clear hF hFxT hsT hsA
        obtain⟨R2,hR2⟩: ∃R2:Nat->Nat,∀j,R (swi r a j)=R2 j:=⟨_,fun _=>rfl⟩
        obtain⟨cp2,hcp2⟩: ∃cp2:Nat->Nat,∀j,cp (swi r a j)=cp2 j:=⟨_,fun _=>rfl⟩
        simp only[hR2,hcp2]at hc2 hF2 hfT
        have hcU:=hc2
        have hF:=hF2
        have hFxT:=hfT
        clear hc2 hF2 hfT hR2 hcp2 hcT
        obtain⟨M,hM⟩: ∃M:Mx Q,mSwp B r a=M:=⟨_,rfl⟩
        rw[hM]at hF HNX
        clear hM
        have hri2:r<i:=by omega
        iterate 4 go_step
        refine rp ?_;refine p_m ?_;simp only[pv];refine p_v (.int .i64 ((r+1:Nat):Int)) (x_a (r) 1) ?_;refine p_a (pw_nil ?_);simp only[pv]
        replace hF:FamC _ w.heap.size n R2 (fun ia ka=>((rkD M r c (r+1)) ia ka:Fin Q).val) i:=hF.congr fun x _ k _=>by rw[rkD_0]
        go_wp2_with fail
        go_loopg [11,12,13] (i-(r+1)) (fun y s11 s12 s13 wr=> ∃b:Nat,b+y=i/\r<b/\s11= .int .i64 b/\Row wr gL cU 32/\FamC wr w.heap.size n R2 (fun ia ka=>((rkD M r c b) ia ka:Fin Q).val) i/\Below w.heap.size w wr)
        case atStart=>exact⟨r+1,by omega,by omega,rfl,rT,hF,sb⟩
        case round=>
         clear rT hF sb
         obtain⟨b,hb,hrb,rfl,rT,hF,sb⟩:=hrel
         cases gk with
         |zero=>
          obtain rfl:b=i:=by omega
          replace hF:FamC _ w.heap.size n R2 (fun ia ka=>((mElim M r c ivF) ia ka:Fin Q).val) b:=hF.congr fun x hx k _=>by rw[rkD_end M x k hx]
          iterate 2 go_step
          refine rp ?_;refine p_m ?_;refine p_m ?_;simp only[pv];refine p_v (.int .i64 b) (n_l (some ⟨gL,0,none⟩) b kp sl_lli) ?_;refine p_v (.bool false) (lt_f b b) (pw_nil ?_);simp only[pv]
          iterate 6 go_step
          refine rp ?_;refine p_m ?_;simp only[pv];refine p_v (.int .i64 ((r+1:Nat):Int)) (x_a (r) 1) ?_;refine p_a (pw_nil ?_);simp only[pv]
          iterate 2 go_step
          refine rp ?_;refine p_m ?_;simp only[pv];refine p_v (.int .i64 ((c+1:Nat):Int)) (x_a (c) 1) ?_;refine p_a (pw_nil ?_);simp only[pv]
          go_wp2
          go_roundg z
          case measure=>omega
          case rel=>exact⟨c+1,r+1,_,R2,cp2,cU,by omega,rfl,rfl,HNX.out,rT,hcU,hF,hFxT,sb⟩
         |succ y=>
          have hbi:b<i:=by omega
          obtain⟨cB,rB,hcB⟩:=hF.row b hbi
          obtain⟨cR,rR,hcR⟩:=hF.row r hri2
          have hcB':=hcB c hcn
          have hcR':=hcR c hcn
          rw[rkD_low M (show ¬(r<b/\b<b) by omega)]at hcB'
          rw[rkD_low M (show ¬(r<r/\r<b) by omega)]at hcR'
          have hi2:=hiv (M r c)
          have hm2:=hmu (M b c) (ivF (M r c))
          iterate 2 go_step
          refine rp ?_;refine p_m ?_;refine p_m ?_;simp only[pv];refine p_v (.int .i64 i) (n_l (some ⟨gL,0,none⟩) i kp sl_lli) ?_;refine p_v (.bool true) (lt_t b i) (pw_nil ?_);simp only[pv]
          iterate 9 go_step
          refine wp_region_qw (by kernel_rfl) (by kernel_rfl) ?_;refine q_m ?_;refine q_m ?_;simp only[pv];refine q_x b hbi Tryz.underlying31 Tryz.sizeOf32 ?_;simp only[pv];refine qw_loadc (by rfl) 32 _ rfl _ (0+b*1) rfl rT (.slice (some ⟨R2 b,0,none⟩) n (cp2 b)) (by rw[show 0+b*1=b by omega];exact hcU b hbi) Tryz.isAgg32 ?_;refine q_m ?_;simp only[pv];refine q_x c hcn Tryz.underlying32 Tryz.sizeOf3 ?_;simp only[pv];refine qw_loadc (by rfl) 3 _ rfl _ (0+c*1) rfl rB (.int .i64 ((M b c).val:Nat)) (by rw[show 0+c*1=c by omega];exact hcB') Tryz.isAgg3 ?_;refine q_m ?_;refine q_m ?_;simp only[pv];refine q_x r hri2 Tryz.underlying31 Tryz.sizeOf32 ?_;simp only[pv];refine qw_loadc (by rfl) 32 _ rfl _ (0+r*1) rfl rT (.slice (some ⟨R2 r,0,none⟩) n (cp2 r)) (by rw[show 0+r*1=r by omega];exact hcU r hri2) Tryz.isAgg32 ?_;refine q_m ?_;simp only[pv];refine q_x c hcn Tryz.underlying32 Tryz.sizeOf3 ?_;simp only[pv];refine qw_loadc (by rfl) 3 _ rfl _ (0+c*1) rfl rR (.int .i64 ((M r c).val:Nat)) (by rw[show 0+c*1=c by omega];exact hcR') Tryz.isAgg3 ?_;refine q_m ?_;simp only[pv];refine q_c 26 Tryz.func26 #[.int .i64 ((M r c).val:Nat),.int .i64 (Q:Nat)] hi2 ?_;refine q_m ?_;simp only[pv];refine q_c 25 Tryz.func25 #[.int .i64 ((M b c).val:Nat),.int .i64 ((ivF (M r c)).val:Nat),.int .i64 (Q:Nat)] hm2 ?_;refine q_a ?_;simp only[pv];refine qw_nil ?_;intro w20 hqb;replace rT:=rT.belowAll hqb;replace hF:=hF.below hqb;replace sb:=b_o sb hqb;clear hqb;clear rB rR hcB hcR hcB' hcR' hi2 hm2
          replace hF:FamC _ w.heap.size n R2 (fun ia ka=>((rkE M r c b 0) ia ka:Fin Q).val) i:=hF.congr fun x _ k _=>by rw[rkE_0]
          iterate 3 go_step
          refine rp ?_;refine p_v (.int .i64 0) (fun _=>rfl) (pw_nil ?_);simp only[pv]
          go_wp2_with fail
          go_loopg [13] n (fun v s13 wr=> ∃k:Nat,k+v=n/\s13= .int .i64 k/\Row wr gL cU 32/\FamC wr w.heap.size n R2 (fun ia ka=>((rkE M r c b k) ia ka:Fin Q).val) i/\Below w.heap.size w wr)
          case atStart=>exact⟨0,by omega,rfl,rT,hF,sb⟩
          case round=>
           clear rT hF sb
           obtain⟨k,hk,rfl,rT,hF,sb⟩:=hrel
           cases gk with
           |zero=>
            obtain rfl:k=n:=by omega
            replace hF:FamC _ w.heap.size k R2 (fun ia ka=>((rkD M r c (b+1)) ia ka:Fin Q).val) i:=hF.congr fun x _ k2 hk2=>by rw[rkE_end M hrb x k2 hk2]
            iterate 2 go_step
            refine rp ?_;refine p_m ?_;refine p_m ?_;refine p_m ?_;simp only[pv];refine p_x b hbi Tryz.underlying31 Tryz.sizeOf32 ?_;simp only[pv];refine p_d (0+b*1) rT.r (.slice (some ⟨R2 b,0,none⟩) k (cp2 b)) (by rw[show 0+b*1=b by omega];exact hcU b hbi) Tryz.isAgg32 ?_;simp only[pv];refine p_v (.int .i64 k) (n_l (some ⟨R2 b,0,none⟩) k ((cp2 b)) sl_intsX) ?_;refine p_v (.bool false) (lt_f k k) ?_;refine p_m ?_;refine p_s ?_;refine p_s ?_;simp only[pv];refine p_s ?_;refine p_s ?_;refine p_s ?_;refine p_s ?_;refine p_s ?_;simp only[pv];refine p_k false (.bool false) (pw_nil ?_);simp only[pv]
            iterate 6 go_step
            refine rp ?_;refine p_m ?_;simp only[pv];refine p_v (.int .i64 ((b+1:Nat):Int)) (x_a (b) 1) ?_;refine p_a (pw_nil ?_);simp only[pv]
            go_wp2
            go_roundg y
            case measure=>omega
            case rel=>exact⟨b+1,by omega,by omega,rfl,rT,hF,sb⟩
           |succ v=>
            have hkn:k<n:=by omega
            obtain⟨cB,rB,hcB⟩:=hF.row b hbi
            obtain⟨cR,rR,hcR⟩:=hF.row r hri2
            have hcB':=hcB k hkn
            have hcR':=hcR k hkn
            have hbk:rkE M r c b k b k=M b k:=(if_neg (by omega)).trans (if_neg (by omega))
            have hrk:rkE M r c b k r k=M r k:=(if_neg (by omega)).trans (if_neg (by omega))
            rw[hbk]at hcB'
            rw[hrk]at hcR'
            have hbr:R2 b≠R2 r:=fun e=>by have:=hF.dis b r hbi hri2 e;omega
            have hbL:=hFxT b hbi
            have hlow:=hF.low b hbi
            have hm2:=hmu (M b c*ivF (M r c)) (M r k)
            have hs2:=hsu (M b k) (M b c*ivF (M r c)*M r k)
            have hsz0:=(Array.getElem?_eq_some_iff.1 hcB').1
            have hnew: ∀k2,k2<n->(cB.setIfInBounds (0+k*1) (.int .i64 ((M b k-M b c*ivF (M r c)*M r k).val:Nat)))[k2]?=some (.int .i64 ((rkE M r c b (k+1) b k2).val:Nat)):=fun k2 hk2=>by
             rw[rkE_up,Array.getElem?_setIfInBounds]
             by_cases e:k2=k
             ·rw[if_pos (by omega),if_pos (by omega),if_pos e]
             ·rw[if_neg (by omega),if_neg e]
              exact hcB k2 hk2
            have hrest: ∀x,x<i->x≠b-> ∀k2,k2<n->(rkE M r c b (k+1) x k2).val=(rkE M r c b k x k2).val:=fun x _ hne k2 _=>by rw[rkE_other M hne,rkE_other M hne]
            iterate 2 go_step
            refine rp ?_;refine p_m ?_;refine p_m ?_;refine p_m ?_;simp only[pv];refine p_x b hbi Tryz.underlying31 Tryz.sizeOf32 ?_;simp only[pv];refine p_d (0+b*1) rT.r (.slice (some ⟨R2 b,0,none⟩) n (cp2 b)) (by rw[show 0+b*1=b by omega];exact hcU b hbi) Tryz.isAgg32 ?_;simp only[pv];refine p_v (.int .i64 n) (n_l (some ⟨R2 b,0,none⟩) n ((cp2 b)) sl_intsX) ?_;refine p_v (.bool true) (lt_t k n) ?_;refine p_m ?_;refine p_m ?_;refine p_m ?_;simp only[pv];refine p_m ?_;simp only[pv];refine p_x r hri2 Tryz.underlying31 Tryz.sizeOf32 ?_;simp only[pv];refine p_d (0+r*1) rT.r (.slice (some ⟨R2 r,0,none⟩) n (cp2 r)) (by rw[show 0+r*1=r by omega];exact hcU r hri2) Tryz.isAgg32 ?_;simp only[pv];refine p_v (.int .i64 n) (n_l (some ⟨R2 r,0,none⟩) n ((cp2 r)) sl_intsX) ?_;refine p_v (.bool true) (lt_t k n) ?_;refine p_k true (.bool true) (pw_nil ?_);simp only[pv]
            iterate 8 go_step
            apply wp_region_mix (by kernel_rfl) [(R2 b,3,cB)] [_,_,_,_,_,_,_,_,_,_,_,_,_,_,_,_,_,_,_,_,_,_,_,_,_,_] ⟨rB,trivial⟩ (by simp<;>omega)
            ·intro p;refine m_m ?_;refine m_m ?_;simp only[pv];refine m_x b hbi Tryz.underlying31 Tryz.sizeOf32 ?_;simp only[pv];refine mx_loadc 32 _ rfl _ (0+b*1) rfl rT (by simp<;>omega) (.slice (some ⟨R2 b,0,none⟩) n (cp2 b)) (by rw[show 0+b*1=b by omega];exact hcU b hbi) Tryz.isAgg32 ?_;refine m_m ?_;refine m_m ?_;refine m_m ?_;simp only[pv];refine m_x b hbi Tryz.underlying31 Tryz.sizeOf32 ?_;simp only[pv];refine mx_loadc 32 _ rfl _ (0+b*1) rfl rT (by simp<;>omega) (.slice (some ⟨R2 b,0,none⟩) n (cp2 b)) (by rw[show 0+b*1=b by omega];exact hcU b hbi) Tryz.isAgg32 ?_;refine m_m ?_;simp only[pv];refine m_x k hkn Tryz.underlying32 Tryz.sizeOf3 ?_;simp only[pv];refine mx_loadcT 0 3 _ rfl (0+k*1) rfl rfl (.int .i64 ((M b k).val:Nat)) (by rw[show 0+k*1=k by omega];exact hcB') Tryz.isAgg3 ?_;refine m_m ?_;refine m_m ?_;refine m_m ?_;simp only[pv];refine m_x r hri2 Tryz.underlying31 Tryz.sizeOf32 ?_;simp only[pv];refine mx_loadc 32 _ rfl _ (0+r*1) rfl rT (by simp<;>omega) (.slice (some ⟨R2 r,0,none⟩) n (cp2 r)) (by rw[show 0+r*1=r by omega];exact hcU r hri2) Tryz.isAgg32 ?_;refine m_m ?_;simp only[pv];refine m_x k hkn Tryz.underlying32 Tryz.sizeOf3 ?_;simp only[pv];refine mx_loadc 3 _ rfl _ (0+k*1) rfl rR (by simp<;>omega) (.int .i64 ((M r k).val:Nat)) (by rw[show 0+k*1=k by omega];exact hcR') Tryz.isAgg3 ?_;refine m_m ?_;simp only[pv];refine m_c 25 Tryz.func25 #[.int .i64 ((M b c*ivF (M r c)).val:Nat),.int .i64 ((M r k).val:Nat),.int .i64 (Q:Nat)] hm2 ?_;refine m_m ?_;simp only[pv];refine m_c 27 Tryz.func27 #[.int .i64 ((M b k).val:Nat),.int .i64 ((M b c*ivF (M r c)*M r k).val:Nat),.int .i64 (Q:Nat)] hs2 ?_;simp only[pv];refine m_x k hkn Tryz.underlying32 Tryz.sizeOf3 ?_;simp only[pv];refine mx_putv 0 3 _ _ rfl (0+k*1) rfl rfl (.int .i64 ((M b k-M b c*ivF (M r c)*M r k).val:Nat)) rfl rfl rfl size1tint (by omega) _ rfl ?_;simp only[Act.put];refine mx_end ?_;intro w2 hkw hrw hnw hdis
             have rJ:Row w2 (R2 b) (cB.setIfInBounds (0+k*1) (.int .i64 ((M b k-M b c*ivF (M r c)*M r k).val:Nat))) 3:=hrw 0 (3,(cB.setIfInBounds (0+k*1) (.int .i64 ((M b k-M b c*ivF (M r c)*M r k).val:Nat)))) rfl
             replace rT:=hkw.row rT (fun hm=>hbL (List.mem_singleton.1 hm).symm)
             replace hF:FamC w2 w.heap.size n R2 (fun ia ka=>((rkE M r c b (k+1)) ia ka:Fin Q).val) i:=hF.put hbi hkw ⟨_,rJ,hnew⟩ hrest
             replace sb:=sb.trans (hkw.below w.heap.size sb.size (fun x hx=>by rw[List.mem_singleton.1 hx];exact hlow))
             clear hkw hrw hnw hdis rB rR rJ hcB hcR hcB' hcR' hnew hrest hm2 hs2
             iterate 2 go_step
             refine rp ?_;refine p_m ?_;simp only[pv];refine p_v (.int .i64 ((k+1:Nat):Int)) (x_a (k) 1) ?_;refine p_a (pw_nil ?_);simp only[pv]
             go_wp2
             go_roundg v
             case measure=>omega
             case rel=>exact⟨k+1,by omega,rfl,rT,hF,sb⟩
            ·kernel_rfl
end Go.Proofs.YtighhihgmkcabaaGreat
