import Derived.Test.YtighhihgmkcabaaGreatPyFun
import Derived.OwnWalk
set_option maxRecDepth 100000
set_option maxHeartbeats 2000000
namespace Go.Proofs.YtighhihgmkcabaaGreat
open Go.RowKit
set_option linter.unusedVariables false
set_option linter.unusedSectionVars false
section
variable {Q:Nat}[NeZero Q]
def PlA (w:World)(v:Value)(L:List (Fin Q)):Prop:= ∃ab n c F gb ob bcs tb,v= .slice ab n c/\n<=1000/\NatsAt w ab n F gb ob bcs tb/\fl n F=L
def PlAt (w:World)(v:Value)(L:List (Fin Q)):Prop:= ∃ab c gb ob bcs tb,v= .slice ab L.length c/\NatsAt w ab L.length (fun i=>(pco L i).val) gb ob bcs tb
theorem PlA.below {w w':World}{v:Value}{L:List (Fin Q)}(h:PlA w v L)(hb:Below w.heap.size w w'):PlA w' v L:=by
 obtain⟨ab,n,c,F,gb,ob,bcs,tb,h1,h2,h3,h4⟩:=h
 exact⟨ab,n,c,F,gb,ob,bcs,tb,h1,h2,h3.below hb,h4⟩
theorem PlAt.below {w w':World}{v:Value}{L:List (Fin Q)}(h:PlAt w v L)(hb:Below w.heap.size w w'):PlAt w' v L:=by
 obtain⟨ab,c,gb,ob,bcs,tb,h1,h3⟩:=h
 exact⟨ab,c,gb,ob,bcs,tb,h1,h3.below hb⟩
theorem PlAt.arg {w:World}{v:Value}{L:List (Fin Q)}(h:PlAt w v L)(hl:L.length<=1000):PlA w v L:=by
 obtain⟨ab,c,gb,ob,bcs,tb,h1,h3⟩:=h
 exact⟨ab,_,c,_,gb,ob,bcs,tb,h1,hl,h3,fl_of L⟩
theorem NatsAt.pl {w:World}{ab:Option Addr}{n c:Nat}{F:Nat->Nat}{gb ob:Nat}{bcs:Array Value}{tb:TypeId}(h:NatsAt w ab n F gb ob bcs tb)(hn:n<=1000):PlA w (.slice ab n c) (fl n F:List (Fin Q)):=
 ⟨ab,n,c,F,gb,ob,bcs,tb,rfl,hn,h,rfl⟩
theorem plAt_nil (w:World):PlAt w (.slice none 0 0) ([]:List (Fin Q)):=⟨none,0,0,0,#[],0,rfl,⟨.inl rfl,fun i hi=>by simp at hi⟩⟩
theorem plAt_of {w:World}{g n:Nat}{F:Nat->Nat}{L:List (Fin Q)}(r:Row w g (nsC n F) 43)(hQ:Q<2^256)(hF: ∀i,i<n->F i<Q)(hL: ∀i,pco (fl n F:List (Fin Q)) i=pco L i):PlAt w (.slice (some ⟨g,0,none⟩) (yTn F n) n) (ptrim L):=by
 obtain⟨h1,h2⟩:=tn_of n F L hF hL
 have h:=(nats_row r fun i hi=>Nat.lt_trans (hF i hi) hQ).take (yTn_le F n)
 rw[h1]at h h2
 rw[h1]
 exact⟨_,_,_,_,_,_,rfl,h.congr fun i hi=>h2 i hi⟩
section
variable {g gr gf P G:Nat}{w:World}
theorem mulQ (va vb:Value)(La Lb:List (Fin Q))(q:FdQ Q)(h:GrpAt w g gr gf P Q G)(ha:PlA w va La)(hb:PlA w vb Lb):
  Calls Tryz.prog 121 #[.pointer (some ⟨g,0,none⟩),va,vb] w fun e w'=> ∃v,e= .returned v/\PlAt w' v (pmul La Lb)/\Below w.heap.size w w':=by
 obtain⟨ab,n,c,F,gb,ob,bcs,tb,rfl,hn,hna,rfl⟩:=ha
 obtain⟨ae,m,ce,E,ge,oe,ecs,te,rfl,hm,hnb,rfl⟩:=hb
 refine(pmul_any _ ab ae n c m ce F E (fO Q) gb ob ge oe bcs ecs tb te w hn hm hna hnb (h.fa q)).mono ?_
 rintro e w' ⟨gx,rfl,_,r,hb⟩
 have ea:(fl (yTn (yTm (fO Q) F) n) (yTm (fO Q) F):List (Fin Q))=ptrim (fl n F):=by
  have h1:=tn_of n (yTm (fO Q) F) (fl n F:List (Fin Q)) (fun i _=>yTm_lt F i) (fun i=>by rw[yTm_of])
  exact fl_pco _ _ _ h1.1 h1.2
 have eb:(fl (yTn (yTm (fO Q) E) m) (yTm (fO Q) E):List (Fin Q))=ptrim (fl m E):=by
  have h1:=tn_of m (yTm (fO Q) E) (fl m E:List (Fin Q)) (fun i _=>yTm_lt E i) (fun i=>by rw[yTm_of])
  exact fl_pco _ _ _ h1.1 h1.2
 have hp:=plAt_of (L:=pmul (fl n F) (fl m E)) r q.m (fun i _=>yCv_lt _ _ _ _ _) fun i=>by rw[yMl_of,ea,eb,pmul_trims]
 rw[pmul_trim]at hp
 exact⟨_,rfl,hp,hb⟩
theorem evalQ (va:Value)(La:List (Fin Q))(x:Nat)(hx:x<2^256)(q:FdQ Q)(h:GrpAt w g gr gf P Q G)(ha:PlA w va La):
  Calls Tryz.prog 69 #[.pointer (some ⟨g,0,none⟩),va,.agg (natC x)] w fun e w'=>e= .returned (.agg (natC (pev (fi x) La).val))/\Below w.heap.size w w':=by
 obtain⟨ab,n,c,F,gb,ob,bcs,tb,rfl,hn,hna,rfl⟩:=ha
 have:=peval_any (some ⟨g,0,none⟩) ab n c x F (fO Q) gb ob bcs tb w (by omega) hx hna (h.fa q)
 rw[yHv_of]at this
 exact this
end
end
theorem y_part {P:Program}{o:Oper}{ρ:Operand->Value}(t:TypeId)(x lo hi:Operand)(ho:o.op= .slice t x (some lo) (some hi) none)(hu:P.underlying t=some (.slice (P.elem t)))(z:Nat)(hz: ∀w,(sizeOf (P.elem t)).run P w= .ok z w)(g off n c l h:Nat)(hx:ρ x= .slice (some ⟨g,off,none⟩) n c)(hl:ρ lo= .int .i64 l)(hh:ρ hi= .int .i64 h)(h1:l<=h)(h2:h<=c)(h3:l<c)(w:World):
  (execOp ρ o).run P w= .ok (.value (.slice (some ⟨g,off+l*z,none⟩) (h-l) (c-l))) w:=by
 have hr:(Instr.sliceAt t (.slice (some ⟨g,off,none⟩) n c) (some (.int .i64 l)) (some (.int .i64 h)) none).run P w= .ok (.slice (some ⟨g,off+l*z,none⟩) (h-l) (c-l)) w:=by
  rw[run_sliceAt_slice w t _ _ _ _ hu,run_slice_lh w t _ n c hu .i64 .i64 l h (by omega) (by omega) (by omega),hz,Result.andThen_ok,Int.toNat_natCast,Int.toNat_natCast]
  unfold sliced
  rw[if_neg (by omega)]
  simp[Addr.add]
 unfold execOp
 simp only[ho,hx,hl,hh,Option.map_some,Option.map_none,Sem.run_bind,hr,Result.andThen_ok]
 rfl
def yTk (q:Nat)(lo:Nat)(B:Nat->Nat)(c:Nat)(R:Nat->Nat)(k i:Nat):Nat:=if lo<=i/\i<lo+k then sbN (R i) (B (i-lo)*c%q) q else R i
theorem yTk_0 (q lo:Nat)(B:Nat->Nat)(c:Nat)(R:Nat->Nat):yTk q lo B c R 0=R:=funext fun i=>if_neg (by omega)
theorem takeOff_any (v ae:Option Addr)(Q gR na lo m cf ce c:Nat)(R B:Nat->Nat)(ge oe:Nat)(ecs:Array Value)(te:TypeId)(w:World)(hQ:Q<2^256)(h0:0<Q)(hm:m<=4000)(hna:na<=4000)(hlo:lo+m<=na)(hc:c<2^256)(hR: ∀i,R i<Q)(hge:m≠0->ge≠gR)
  (rR:Row w gR (nsC na R) 43)(hnb:NatsAt w ae m B ge oe ecs te)(hmu: ∀A B w',A<2^256->B<2^256->Kept [gR] w w'->Calls Tryz.prog 53 #[.pointer v,.agg (natC A),.agg (natC B)] w' (Rt (.agg (natC (A*B%Q))) w'))(hsu: ∀A B w',A<2^256->B<2^256->Kept [gR] w w'->Calls Tryz.prog 55 #[.pointer v,.agg (natC A),.agg (natC B)] w' (Rt (.agg (natC (sbN A B Q))) w')):
  Calls Tryz.prog 94 #[.pointer v,.slice (some ⟨gR,0+lo*4,none⟩) m cf,.slice ae m ce,.agg (natC c)] w fun e w'=>e= .returned (.tuple #[])/\Row w' gR (nsC na (yTk Q lo B c R m)) 43/\Kept [gR] w w':=by
 have HE:Hid (NatsAt w ae m B ge oe ecs te):=hnb
 have HR:Hid (∀k i,yTk Q lo B c R k i<2^256):=fun k i=>by
  unfold yTk
  split
  ·exact Nat.lt_trans (Nat.mod_lt _ h0) hQ
  ·exact Nat.lt_trans (hR i) hQ
 have HC:Hid (c<2^256):=hc
 have sk:=Kept.refl [gR] w
 clear hnb hR hc
 go_enter Tryz.func94,Tryz.ntmps94
 iterate 2 go_step
 refine rp ?_;refine pw_boxr (by rfl) 43 _ rfl (_) rfl ?_;intro g7 z0 n0 r7 k;simp only[pv]
 have dRx7:=l_l rR.lt n0
 have b7:=Nat.le_trans sk.size n0
 clear n0;replace rR:=k.ro rR
 replace sk:=sk.trans k (by simp<;>omega)
 clear k;refine pw_nil ?_
 iterate 3 go_step
 refine rp ?_;refine p_m ?_;simp only[pv];refine p_v (.int .i64 m) (n_l ae m ce sl_natsX) ?_;refine p_v (.int .i64 0) (fun _=>rfl) (pw_nil ?_);simp only[pv]
 go_wp2_with fail
 go_loopg [8,11] m (fun g s8 s11 wr=> ∃k:Nat,k+g=m/\s11= .int .i64 k/\Row wr gR (nsC na (yTk Q lo B c R k)) 43/\Row wr g7 (natC c) 43/\Kept [gR] w wr)
 case atStart=>exact⟨0,by omega,rfl,by rw[yTk_0];exact rR,r7,sk⟩
 case round=>
  clear rR r7 sk
  obtain⟨k,hk,rfl,rR,r7,sk⟩:=hrel
  cases gk with
  |zero=>
   obtain rfl:k=m:=by omega
   clear hk HR
   go_step
   refine rp ?_;refine p_v (.bool false) (lt_f k k) (pw_nil ?_);simp only[pv]
   go_wp2
   go_end0
   exact⟨rfl,rR,sk⟩
  |succ g=>
   have hlt:k<m:=by omega
   go_step
   refine rp ?_;refine p_v (.bool true) (lt_t k m) (pw_nil ?_);simp only[pv]
   iterate 10 go_step
   refine rp ?_;refine p_m ?_;refine p_a (pw_nil ?_);simp only[pv]
   obtain h1|⟨rfl,rE,het⟩:=HE.out.at'
   ·exact absurd h1 (by omega)
   have het':=het k hlt
   have hgeR:=hge (by omega)
   replace rE:=sk.rowR rE (by simpa using hgeR)
   have hlt7:ge≠g7:=fun e=>by
    rcases HE.out.at' with h1|⟨_,q,_⟩
    ·omega
    ·have:=q.lt
     omega
   have hpart: ∀j u,(natC (yTk Q lo B c R k (lo+k))).toList[j]?=some u->(nsC na (yTk Q lo B c R k))[0+lo*4+k*4+j]?=some u:=nsC_part na _ (lo+k) (by omega) (0+lo*4+k*4) (by omega)
   have hold:yTk Q lo B c R k (lo+k)=R (lo+k):=if_neg (by omega)
   have hput:=nsC_put na (yTk Q lo B c R k) (yTk Q lo B c R (k+1)) (lo+k) (by omega) (0+lo*4+k*4) (by omega) (yTk Q lo B c R (k+1) (lo+k)) (fun j hj=>by
    by_cases hjk:j=lo+k
    ·rw[if_pos hjk,hjk]
    ·rw[if_neg hjk]
     unfold yTk
     by_cases h2:lo<=j/\j<lo+k
     ·rw[if_pos h2,if_pos (by omega)]
     ·rw[if_neg h2,if_neg (by omega)])
   have hval:yTk Q lo B c R (k+1) (lo+k)=sbN (R (lo+k)) (B k*c%Q) Q:=by
    unfold yTk
    rw[if_pos (by omega),show lo+k-lo=k by omega]
   have hm2:=fun w' (hk:Kept [gR] w w')=>hmu (B k) c w' (HE.out.lt k hlt) HC.out hk
   have hs2:=fun w' (hk:Kept [gR] w w')=>hsu (yTk Q lo B c R k (lo+k)) (B k*c%Q) w' (HR.out _ _) (Nat.lt_trans (Nat.mod_lt _ h0) hQ) hk
   rw[hold,<-hval,<-hold]at hs2
   rw[hold]at hpart hs2
   clear hval hold
   generalize yTk Q lo B c R (k+1) (lo+k)=X at*
   clear het
   iterate 2 go_step
   apply wp_region_mix (by kernel_rfl) [(gR,43,nsC na (yTk Q lo B c R k))] [_,_,_,_,_,_,_,_,_,_,_,_,_,_,_,_,_] ⟨rR,trivial⟩ (by simp<;>omega)
   ·intro p;refine m_m ?_;refine m_m ?_;refine m_m ?_;refine m_m ?_;refine m_m ?_;simp only[pv];refine m_x k hlt Tryz.underlying23 size_nat4 ?_;simp only[pv];refine mx_loadmT 0 43 _ rfl (0+lo*4+k*4) rfl rfl (natC (R (lo+k))) hpart _ Tryz.underlying43 rfl size_nat ?_;refine m_m ?_;refine m_m ?_;refine m_m ?_;simp only[pv];refine m_x k hlt Tryz.underlying23 size_nat4 ?_;simp only[pv];refine mx_loadmR 43 _ rfl _ (oe+k*4) rfl rE (by simp<;>omega) (natC (B k)) het' _ Tryz.underlying43 rfl size_nat ?_;simp only[pv];refine m_l r7 ?_;simp only[pv];refine m_k 53 Tryz.func53 #[.pointer v,.agg (natC (B k)),.agg (natC c)] (fun w' hk=>hm2 w' (sk.trans hk (by simp))) ?_;simp only[pv];refine m_k 55 Tryz.func55 #[.pointer v,.agg (natC (R (lo+k))),.agg (natC (B k*c%Q))] (fun w' hk=>hs2 w' (sk.trans hk (by simp))) ?_;simp only[pv];refine m_x k hlt Tryz.underlying23 size_nat4 ?_;simp only[pv];refine mx_putm 0 43 _ _ rfl (0+lo*4+k*4) rfl rfl (natC X) rfl (by exact size_nat) (by rw[nsC_size,natC_size];omega) (natC_one _) (nsC na (yTk Q lo B c R (k+1))) hput ?_;simp only[Act.put];refine mx_end ?_;intro w2 hkw hrw hnew hdis
    have zrR:Row w2 (gR) (nsC na (yTk Q lo B c R (k+1))) 43:=hrw 0 (43,nsC na (yTk Q lo B c R (k+1))) rfl
    replace r7:=hkw.ro r7
    replace sk:=sk.trans hkw (by simp)
    clear hkw hrw hnew hdis rR
    have rR:=zrR
    clear zrR
    iterate 2 go_step
    refine rp ?_;refine p_v (.int .i64 ((k+1:Nat):Int)) (x_a k 1) ?_;refine p_m (pw_nil ?_);simp only[pv]
    go_wp2
    go_roundg g
    case measure=>omega
    case rel=>exact⟨k+1,by omega,rfl,rR,r7,sk⟩
   ·kernel_rfl
theorem div_raw (g gr gf P Q G na ca nb cb:Nat)(ab ae:Option Addr)(F E:Nat->Nat)(gb ob ge oe:Nat)(bcs ecs:Array Value)(tb te:TypeId)(w:World)(q:FdQ Q)(hn:na<=1000)(hm:nb<=1000)(hna:NatsAt w ab na F gb ob bcs tb)(hnb:NatsAt w ae nb E ge oe ecs te)(h:GrpAt w g gr gf P Q G)(m n d:Nat)(B R0:Nat->Nat)(IV:Nat)(hB:B=yTm (fO Q) E)(hR0:R0=yTm (fO Q) F)(hmm:yTn B nb=m)(hnn:yTn R0 na=n)(hd:n+1-m=d)(hIV:IV=invZ (B (m-1)) Q)(hm0:0<m):
  Calls Tryz.prog 68 #[.pointer (some ⟨g,0,none⟩),.slice ab na ca,.slice ae nb cb] w fun e w'=> ∃gO gR,e= .returned (.tuple #[.slice (some ⟨gO,0,none⟩) d d,.slice (some ⟨gR,0,none⟩) (yTn (yDv Q m d B IV R0 d).1 n) na,.int .i64 0])/\Row w' gO (nsC d (yDv Q m d B IV R0 d).2) 43/\Row w' gR (nsC na (yDv Q m d B IV R0 d).1) 43/\Below w.heap.size w w':=by
 have htb:=fun w' (hb:Below w.heap.size w w')=>trim_any (some ⟨g,0,none⟩) ae nb cb E (fO Q) ge oe ecs te w' (by omega) (hnb.below hb) ((h.fa q).below hb)
 have hta:=fun w' (hb:Below w.heap.size w w')=>trim_any (some ⟨g,0,none⟩) ab na ca F (fO Q) gb ob bcs tb w' (by omega) (hna.below hb) ((h.fa q).below hb)
 have hBlt: ∀i,B i<Q:=fun i=>by rw[hB];exact Nat.mod_lt _ q.pos
 have hRlt: ∀i,R0 i<Q:=fun i=>by rw[hR0];exact Nat.mod_lt _ q.pos
 rw[<-hB,hmm]at htb
 rw[<-hR0,hnn]at hta
 have hmb:m<=nb:=hmm▸yTn_le B nb
 have hnb':n<=na:=hnn▸yTn_le R0 na
 haveI:NeZero Q:=⟨by have:=q.pos;omega⟩
 have HL:Hid (∀k,(∀i,(yDv Q m d B IV R0 k).1 i<Q)/\ ∀i,(yDv Q m d B IV R0 k).2 i<Q):=fun k=>⟨fun i=>(yDv_lt m d (i+1) B IV R0 (fun j _=>hRlt j) k).1 i (by omega),(yDv_lt m d 0 B IV R0 (fun j _=>hRlt j) k).2⟩
 have HBl:Hid (∀i,B i<2^256):=fun i=>Nat.lt_trans (hBlt i) q.m
 have hIVl:IV<2^256:=by rw[hIV];exact Nat.lt_trans (inv_lt _ _ q.pr) q.m
 have hiv:=fun w' (hb:Below w.heap.size w w')=>fInv_ok (B (m-1)) g gr gf P Q G w' (HBl.out _) q (h.below hb)
 rw[<-hIV]at hiv
 have hmu:=fun(X Y:Nat) w' (hX:X<2^256) (hY:Y<2^256) (hb:Below w.heap.size w w')=>fMul_ok X Y g gr gf P Q G w' hX hY q (h.below hb)
 have hsu:=fun(X Y:Nat) w' (hX:X<2^256) (hY:Y<2^256) (hb:Below w.heap.size w w')=>fSub_ok X Y g gr gf P Q G w' hX hY q (h.below hb)
 have hd2:(if((n:Int)-(m:Int)+1)>0 then((n:Int)-(m:Int)+1)else 0)=((d:Nat):Int):=by split<;>omega
 obtain⟨ie,hie,hze,hsz,hby⟩:=info_nat'
 clear hna hnb h hB hR0 hmm hnn hIV hBlt hRlt
 go_enter Tryz.func68,Tryz.ntmps68
 have sb:=sbmk w
 iterate 2 go_step
 refine rp ?_;refine p_v (.slice none 0 0) ((fun _=>rfl)) ?_;simp only[pv];refine p_v (.slice none 0 0) ((fun _=>rfl)) ?_;refine p_v (.int .i64 0) (fun _=>rfl) (pw_nil ?_);simp only[pv]
 iterate 3 go_step
 refine rp ?_;refine p_m ?_;refine p_m ?_;simp only[pv];refine p_f 93 Tryz.func93 #[.pointer (some ⟨g,0,none⟩),.slice ae nb cb] (htb _ sb) ?_
 rintro _ z1002 ⟨gB,rfl,nB,rB,hb⟩
 refine⟨_,rfl,?_⟩
 simp only[pv];clear nB
 have k:=Kept.ofBelow hb
 clear hb;replace sb:=kk sb k;clear k;refine p_a (pw_nil ?_);simp only[pv]
 iterate 4 go_step
 refine rp ?_;refine p_m ?_;simp only[pv];refine p_v (.int .i64 m) (n_l (some ⟨gB,0,none⟩) m nb sl_natsX) ?_;simp only[pv];refine p_v (.bool false) (exec_eql_k .i64 _ _ _ _ rfl m 0 rfl rfl false (decide_eq_false (by omega))) (pw_nil ?_);simp only[pv]
 iterate 7 go_step
 refine rp ?_;refine p_m ?_;refine p_m ?_;simp only[pv];refine p_f 93 Tryz.func93 #[.pointer (some ⟨g,0,none⟩),.slice ab na ca] (hta _ sb) ?_
 rintro _ z4002 ⟨gR,rfl,nR,rR,hb⟩
 refine⟨_,rfl,?_⟩
 simp only[pv]
 have dBxR:=l_l rB.lt nR
 have bR:=Nat.le_trans sb.size nR
 clear nR
 have k:=Kept.ofBelow hb
 clear hb;replace rB:=k.ro rB;replace sb:=kk sb k;clear k;refine p_a (pw_nil ?_);simp only[pv]
 have hpB: ∀j u,(natC (B (m-1))).toList[j]?=some u->(nsC nb B)[0+(m-1)*4+j]?=some u:=nsC_part nb B (m-1) (by omega) _ (by omega)
 clear htb hta
 iterate 3 go_step
 refine rp ?_;refine p_m ?_;refine p_m ?_;refine p_m ?_;simp only[pv];refine p_v (.int .i64 m) (n_l (some ⟨gB,0,none⟩) m nb sl_natsX) ?_;simp only[pv];refine p_v (.int .i64 ((m-1:Nat):Int)) (exec_sub_in _ _ _ _ rfl m 1 rfl rfl (by omega) (by omega)) ?_;simp only[pv];refine p_v (.pointer (some ⟨gB,0+(m-1)*4,none⟩)) ((exec_index_s 23 _ _ rfl gB 0 (m) (nb) rfl ((m-1)) rfl (by omega) _ Tryz.underlying23 4 size_nat4)) ?_;simp only[pv];refine pw_loadm (by rfl) 43 _ rfl _ (0+(m-1)*4) rfl rB.r (natC (B (m-1))) hpB _ Tryz.underlying43 rfl size_nat ?_;simp only[pv];refine p_c 51 Tryz.func51 #[.pointer (some ⟨g,0,none⟩),.agg (natC (B (m-1)))] (hiv _ sb) ?_;intro z5007 k;simp only[pv];replace rB:=k.ro rB;replace rR:=k.ro rR;replace sb:=kk sb k;clear k;refine pw_new (by rfl) 43 rfl _ zero_nat ?_;intro g10 z5008 n0 r10 k;simp only[pv]
 have dBx10:=l_l rB.lt n0
 have dRx10:=l_l rR.lt n0
 have b10:=Nat.le_trans sb.size n0
 clear n0;replace rB:=k.ro rB;replace rR:=k.ro rR;replace sb:=kk sb k;clear k;refine p_p r10 IV ?_;clear r10;intro z5009 r10 k;simp only[Act.put];replace rB:=k.ro rB;replace rR:=k.ro rR;replace sb:=kk sb k;clear k;refine pw_nil ?_;clear hpB hiv
 iterate 3 go_step
 refine rp ?_;refine p_m ?_;simp only[pv];refine p_v (.int .i64 n) (n_l (some ⟨gR,0,none⟩) n na sl_natsX) ?_;refine p_m ?_;simp only[pv];refine p_v (.int .i64 m) (n_l (some ⟨gB,0,none⟩) m nb sl_natsX) ?_;simp only[pv];refine p_v (.int .i64 ((n:Int)-(m:Int))) (y_subI _ _ _ _ rfl n m _ rfl rfl (by rw[IntKind.wrap_i64];omega)) ?_;simp only[pv];refine p_v (.int .i64 ((n:Int)-(m:Int)+1)) (y_addI _ _ _ _ rfl ((n:Int)-(m:Int)) 1 _ rfl rfl (by rw[IntKind.wrap_i64];omega)) ?_;simp only[pv];refine p_v (.int .i64 (d:Nat)) (y_max _ _ _ rfl 0 ((n:Int)-(m:Int)+1) _ rfl rfl hd2) ?_;simp only[pv];refine pw_make (by rfl) 23 43 _ _ rfl ie _ Tryz.underlying23 hie hze d rfl rfl (by rw[hsz];omega) (by rw[hby];omega) (by omega) ?_;intro gO z6007 n0 rO k;simp only[pv]
 have dBxO:=l_l rB.lt n0
 have dRxO:=l_l rR.lt n0
 have d10xO:=l_l r10.lt n0
 have bO:=Nat.le_trans sb.size n0
 clear n0;replace rB:=k.ro rB;replace rR:=k.ro rR;replace r10:=k.ro r10;replace sb:=kk sb k;clear k;refine p_a (pw_nil ?_);simp only[pv]
 rw[hsz,made_nats]at rO
 clear hd2
 iterate 4 go_step
 refine rp ?_;refine p_m ?_;simp only[pv];refine p_v (.int .i64 d) (n_l (some ⟨gO,0,none⟩) d d sl_natsX) ?_;refine p_v (.int .i64 0) (fun _=>rfl) (pw_nil ?_);simp only[pv]
 go_wp2_with fail
 go_loopg [12,13,14,42] d (fun x s12 s13 s14 s42 wr=> ∃k:Nat,k+x=d/\s42= .int .i64 k/\Row wr gR (nsC na (yDv Q m d B IV R0 k).1) 43/\Row wr gO (nsC d (yDv Q m d B IV R0 k).2) 43/\Row wr gB (nsC nb B) 43/\Row wr g10 (natC IV) 43/\Below w.heap.size w wr)
 case atStart=>exact⟨0,by omega,rfl,rR,rO,rB,r10,sb⟩
 case round=>
  clear rR rO rB r10 sb
  obtain⟨k,hk,rfl,rR,rO,rB,r10,sb⟩:=hrel
  cases gk with
  |zero=>
   obtain rfl:k=d:=by omega
   have htr:=fun w' (r:Row w' gR (nsC na (yDv Q m k B IV R0 k).1) 43)=>trimmed_any (some ⟨gR,0,none⟩) n na (yDv Q m k B IV R0 k).1 gR 0 _ _ w' (by omega) hnb' ((nats_row r (fun i _=>Nat.lt_trans ((HL.out k).1 i) q.m)).take hnb')
   clear hk hmu hsu
   go_step
   refine rp ?_;refine p_v (.bool false) (lt_f k k) (pw_nil ?_);simp only[pv]
   iterate 8 go_step
   refine rp ?_;refine p_m ?_;refine p_m ?_;simp only[pv];refine p_c 95 Tryz.func95 #[.slice (some ⟨gR,0,none⟩) n na] (htr _ rR) ?_;intro z15002 k;simp only[pv];replace rR:=k.ro rR;replace rO:=k.ro rO;replace sb:=kk sb k;clear k;refine p_a ?_;refine p_a ?_;refine p_v (.int .i64 0) (fun _=>rfl) (pw_nil ?_);simp only[pv]
   go_wp2
   go_ret3
   exact⟨gO,gR,rfl,rO,rR,sb⟩
  |succ x=>
   obtain⟨lo,hlo⟩: ∃lo,d-1-k=lo:=⟨_,rfl⟩
   have hlon:lo+m<=na:=by omega
   obtain⟨cc,hcc⟩: ∃cc,(yDv Q m d B IV R0 k).1 (lo+m-1)*IV%Q=cc:=⟨_,rfl⟩
   have hccl:cc<2^256:=by rw[<-hcc];exact Nat.lt_trans (Nat.mod_lt _ q.pos) q.m
   have hpart: ∀j u,(natC ((yDv Q m d B IV R0 k).1 (lo+m-1))).toList[j]?=some u->(nsC na (yDv Q m d B IV R0 k).1)[0+lo*4+(m-1)*4+j]?=some u:=nsC_part na _ (lo+m-1) (by omega) _ (by omega)
   have hput:=nsC_put d (yDv Q m d B IV R0 k).2 (yDv Q m d B IV R0 (k+1)).2 lo (by omega) (0+lo*4) (by omega) cc (fun j hj=>by
    show(if j=d-1-k then _ else _)=_
    rw[hlo,hcc])
   have hpO: ∀j u,(natC cc).toList[j]?=some u->(nsC d (yDv Q m d B IV R0 (k+1)).2)[0+lo*4+j]?=some u:=by
    have e:(yDv Q m d B IV R0 (k+1)).2 lo=cc:=by
     show(if lo=d-1-k then _ else _)=_
     rw[hlo,if_pos rfl,hcc]
    have:=nsC_part d (yDv Q m d B IV R0 (k+1)).2 lo (by omega) (0+lo*4) (by omega)
    rw[e]at this
    exact this
   have hmu2:=fun w' (hb:Below w.heap.size w w')=>hmu ((yDv Q m d B IV R0 k).1 (lo+m-1)) IV w' (Nat.lt_trans ((HL.out k).1 _) q.m) hIVl hb
   have HRE:Hid (yTk Q lo B cc (yDv Q m d B IV R0 k).1 m=(yDv Q m d B IV R0 (k+1)).1):=funext fun i=>by
    show _=if d-1-k<=i/\i<d-1-k+m then _ else _
    rw[hlo,hcc]
    rfl
   rw[hcc]at hmu2
   go_step
   refine rp ?_;refine p_v (.bool true) (lt_t k d) (pw_nil ?_);simp only[pv]
   iterate 10 go_step
   refine rp ?_;refine p_m ?_;refine p_a (pw_nil ?_);simp only[pv]
   iterate 3 go_step
   refine rp ?_;refine p_m ?_;simp only[pv];refine p_v (.int .i64 d) (n_l (some ⟨gO,0,none⟩) d d sl_natsX) ?_;simp only[pv];refine p_v (.int .i64 ((d-1:Nat):Int)) (exec_sub_in _ _ _ _ rfl d 1 rfl rfl (by omega) (by omega)) ?_;refine p_m ?_;simp only[pv];refine p_v (.int .i64 ((lo:Nat):Int)) (fun w'=>(exec_sub_in _ _ _ _ rfl (d-1) k rfl rfl (by omega) (by omega) w').trans (by rw[hlo])) ?_;refine p_a (pw_nil ?_);simp only[pv]
   iterate 3 go_step
   refine rp ?_;refine p_m ?_;refine p_m ?_;refine p_m ?_;refine p_m ?_;simp only[pv];refine p_v (.int .i64 m) (n_l (some ⟨gB,0,none⟩) m nb sl_natsX) ?_;simp only[pv];refine p_v (.int .i64 ((lo+m:Nat):Int)) (x_a lo m) ?_;simp only[pv];refine p_v (.slice (some ⟨gR,0+lo*4,none⟩) m (na-lo)) (fun w'=>(y_part _ _ _ _ rfl sl_natsX 4 size_eln gR 0 n na lo (lo+m) rfl rfl rfl (by omega) (by omega) (by omega) w').trans (by rw[Nat.add_sub_cancel_left])) ?_;refine p_a (pw_nil ?_);simp only[pv];clear hcc
   iterate 3 go_step
   apply wp_region_mix (by kernel_rfl) [(gO,43,nsC d (yDv Q m d B IV R0 k).2)] [_,_,_,_,_,_,_,_,_,_,_,_,_] ⟨rO,trivial⟩ (by simp<;>omega)
   ·intro p;refine m_m ?_;refine m_m ?_;refine m_m ?_;refine m_m ?_;refine m_m ?_;simp only[pv];refine mx_val (.int .i64 m) (n_l (some ⟨gB,0,none⟩) m nb sl_natsX) ?_;simp only[pv];refine mx_val (.int .i64 ((m-1:Nat):Int)) ((exec_sub_in _ _ _ _ rfl m 1 rfl rfl (by omega) (by omega))) ?_;simp only[pv];refine mx_val (.pointer (some ⟨gR,0+lo*4+(m-1)*4,none⟩)) ((exec_index_s 23 _ _ rfl gR (0+lo*4) m (na-lo) rfl (m-1) rfl (by omega) _ Tryz.underlying23 4 size_nat4)) ?_;simp only[pv];refine mx_loadm 43 _ rfl _ (0+lo*4+(m-1)*4) rfl rR (by simp<;>omega) (natC ((yDv Q m d B IV R0 k).1 (lo+m-1))) hpart _ Tryz.underlying43 rfl size_nat ?_;simp only[pv];refine m_l r10 ?_;simp only[pv]
    refine m_k 53 Tryz.func53 #[.pointer (some ⟨g,0,none⟩),.agg (natC ((yDv Q m d B IV R0 k).1 (lo+m-1))),.agg (natC IV)] (fun w' hk=>hmu2 w' (sb.trans (hk.below w.heap.size sb.size (by simp<;>omega)))) ?_
    simp only[pv];refine mx_val (.pointer (some ⟨gO,0+lo*4,none⟩)) ((exec_index_s 23 _ _ rfl gO 0 d d rfl lo rfl (by omega) _ Tryz.underlying23 4 size_nat4)) ?_;simp only[pv];refine mx_putm 0 43 _ _ rfl (0+lo*4) rfl rfl (natC cc) rfl (by exact size_nat) (by rw[nsC_size,natC_size];omega) (natC_one _) (nsC d (yDv Q m d B IV R0 (k+1)).2) hput ?_;simp only[Act.put];refine mx_end ?_;intro w2 hkw hrw hnew hdis
    have zrO:Row w2 (gO) (nsC d (yDv Q m d B IV R0 (k+1)).2) 43:=hrw 0 (43,nsC d (yDv Q m d B IV R0 (k+1)).2) rfl
    replace rB:=hkw.ro rB;replace rR:=hkw.ro rR;replace r10:=hkw.ro r10;replace sb:=kk sb hkw;clear hkw hrw hnew hdis rO
    have rO:=zrO
    clear zrO
    have hto:=fun w' (hb:Below w.heap.size w w') (r:Row w' gR (nsC na (yDv Q m d B IV R0 k).1) 43) (q3:Row w' gB (nsC nb B) 43)=>takeOff_any (some ⟨g,0,none⟩) (some ⟨gB,0,none⟩) Q gR na lo m (na-lo) nb cc (yDv Q m d B IV R0 k).1 B gB 0 _ _ w' q.m q.pos (by omega) (by omega) hlon hccl (HL.out k).1 (fun _=>by omega) r ((nats_row q3 (fun i _=>HBl.out i)).take hmb) (fun X Y w2 hX hY hk=>hmu X Y w2 hX hY (hb.trans (hk.below w.heap.size hb.size (by simp<;>omega)))) (fun X Y w2 hX hY hk=>hsu X Y w2 hX hY (hb.trans (hk.below w.heap.size hb.size (by simp<;>omega))))
    rw[HRE.out]at hto
    iterate 2 go_step
    refine rp ?_;refine p_m ?_;refine p_m ?_;refine p_m ?_;refine p_m ?_;refine p_m ?_;simp only[pv];refine p_v (.pointer (some ⟨gO,0+lo*4,none⟩)) ((exec_index_s 23 _ _ rfl gO 0 d d rfl lo rfl (by omega) _ Tryz.underlying23 4 size_nat4)) ?_;simp only[pv];refine pw_loadm (by rfl) 43 _ rfl _ (0+lo*4) rfl rO.r (natC cc) hpO _ Tryz.underlying43 rfl size_nat ?_;simp only[pv];refine p_f 94 Tryz.func94 #[.pointer (some ⟨g,0,none⟩),.slice (some ⟨gR,0+lo*4,none⟩) m (na-lo),.slice (some ⟨gB,0,none⟩) m nb,.agg (natC cc)] (hto _ sb rR rB) ?_;clear rR
    rintro _ z13007 ⟨rfl,rR,k⟩
    refine⟨_,rfl,?_⟩
    simp only[pv];replace rO:=k.ro rO;replace rB:=k.ro rB;replace r10:=k.ro r10;replace sb:=kk sb k;clear k;refine pw_nil ?_
    iterate 2 go_step
    refine rp ?_;refine p_v (.int .i64 ((k+1:Nat):Int)) (x_a k 1) ?_;refine p_m (pw_nil ?_);simp only[pv]
    go_wp2
    go_roundg x
    case measure=>omega
    case rel=>exact⟨k+1,by omega,rfl,rR,rO,rB,r10,sb⟩
   ·kernel_rfl
theorem yTn_below (F:Nat->Nat)(n j:Nat)(h: ∀i,j<=i->i<n->F i=0):yTn F n<=j:=by
 have h1:=yTn_le F n
 rcases yTn_last F n with h2|h2
 ·omega
 ·by_cases h3:yTn F n<=j
  ·exact h3
  ·exact absurd (h (yTn F n-1) (by omega) (by omega)) h2
theorem yDv_high (q m d n:Nat)(B:Nat->Nat)(iv:Nat)(R0:Nat->Nat)(hn:d+m<=n+1)(hm:0<m)(i:Nat)(hi:n<=i): ∀k,k<=d->(yDv q m d B iv R0 k).1 i=R0 i
 |0,_=>rfl
 |k+1,hk=>by
  show(if d-1-k<=i/\i<d-1-k+m then _ else _)=_
  rw[if_neg (by omega)]
  exact yDv_high q m d n B iv R0 hn hm i hi k (by omega)
section
variable {Q:Nat}[NeZero Q]
theorem fl_trimmed (n:Nat)(F:Nat->Nat)(h: ∀i,i<n->F i<Q)(hn:n=0∨F (n-1)≠0):ptrim (fl n F:List (Fin Q))=fl n F:=by
 have h1:=tn_len (q:=Q) n F h
 rw[yTn_full F n hn]at h1
 have h2:=ptrim_take (fl n F:List (Fin Q))
 rw[h1]at h2
 rw[h2,List.take_of_length_le (by rw[fl_length];exact Nat.le_refl _)]
theorem plAt_fl {w:World}{g n:Nat}{F:Nat->Nat}(r:Row w g (nsC n F) 43)(hQ:Q<2^256)(hF: ∀i,i<n->F i<Q):PlAt w (.slice (some ⟨g,0,none⟩) n n) (fl n F:List (Fin Q)):=by
 have h:=nats_row r fun i hi=>Nat.lt_trans (hF i hi) hQ
 refine⟨_,n,g,0,nsC n F,43,by rw[fl_length],?_⟩
 rw[fl_length]
 exact h.congr fun i hi=>by rw[fl_co _ _ _ hi,val_fi (hF i hi)]
theorem divQ {g gr gf P G:Nat}{w:World}(va vb:Value)(La Lb:List (Fin Q))(q:FdQ Q)(h:GrpAt w g gr gf P Q G)(ha:PlA w va La)(hb:PlA w vb Lb)(hne:ptrim Lb≠[]):
  Calls Tryz.prog 68 #[.pointer (some ⟨g,0,none⟩),va,vb] w fun e w'=> ∃vq vr,∃Lq Lr:List (Fin Q),e= .returned (.tuple #[vq,vr,.int .i64 0])/\PlAt w' vq Lq/\PlAt w' vr Lr/\ptrim Lq=Lq/\ptrim Lr=Lr/\Lr.length<(ptrim Lb).length/\Lq.length<=La.length/\Lr.length<=La.length/\(∀i,pco (pmul Lq (ptrim Lb)) i+pco Lr i=pco La i)/\Below w.heap.size w w':=by
 obtain⟨ab,na,ca,F,gb,ob,bcs,tb,rfl,hn,hna,rfl⟩:=ha
 obtain⟨ae,nb,cb,E,ge,oe,ecs,te,rfl,hm,hnb,rfl⟩:=hb
 obtain⟨B,hB⟩: ∃B,B=yTm (fO Q) E:=⟨_,rfl⟩
 obtain⟨R0,hR⟩: ∃R0,R0=yTm (fO Q) F:=⟨_,rfl⟩
 have hBl: ∀i,B i<Q:=fun i=>by rw[hB];exact yTm_lt E i
 have hRl: ∀i,R0 i<Q:=fun i=>by rw[hR];exact yTm_lt F i
 have hfb:(fl nb B:List (Fin Q))=fl nb E:=by rw[hB,yTm_of]
 have hfa:(fl na R0:List (Fin Q))=fl na F:=by rw[hR,yTm_of]
 obtain⟨m,hmm⟩: ∃m,yTn B nb=m:=⟨_,rfl⟩
 obtain⟨n,hnn⟩: ∃n,yTn R0 na=n:=⟨_,rfl⟩
 have tb:=tn_of nb B (fl nb E:List (Fin Q)) (fun i _=>hBl i) (fun i=>by rw[hfb])
 rw[hmm]at tb
 have hbl:(fl m B:List (Fin Q))=ptrim (fl nb E):=fl_pco _ _ _ tb.1 tb.2
 have hm0:0<m:=by
  rw[tb.1]
  exact List.length_pos_iff.2 hne
 have hmb:m<=nb:=hmm▸yTn_le B nb
 have hnb':n<=na:=hnn▸yTn_le R0 na
 have hBt:B (m-1)≠0:=by
  have:=yTn_last B nb
  rw[hmm]at this
  exact this.resolve_left (by omega)
 have hBm:B (m-1)%Q≠0:=by rw[Nat.mod_eq_of_lt (hBl _)];exact hBt
 obtain⟨IV,hIV⟩: ∃IV,IV=invZ (B (m-1)) Q:=⟨_,rfl⟩
 have h2:=q.pr.1
 have hiv1:B (m-1)*IV%Q=1:=by rw[hIV];exact inv_1 q.pr hBm
 have hiv:B (m-1)*IV%Q=1%Q:=by rw[hiv1,Nat.mod_eq_of_lt (by omega)]
 obtain⟨d,hd⟩: ∃d,n+1-m=d:=⟨_,rfl⟩
 refine(div_raw g gr gf P Q G na ca nb cb ab ae F E gb ob ge oe bcs ecs _ te w q hn hm hna hnb h m n d B R0 IV hB hR hmm hnn hd hIV hm0).mono ?_
 rintro e w' ⟨gO,gR,rfl,rO,rR,hbw⟩
 have hlt:=yDv_lt (q:=Q) m d na B IV R0 (fun i _=>hRl i) d
 have hlt2: ∀i,(yDv Q m d B IV R0 d).1 i<Q:=fun i=>(yDv_lt (q:=Q) m d (i+1) B IV R0 (fun i _=>hRl i) d).1 i (by omega)
 have hsum:=fun i=>yDv_sum (q:=Q) m d B IV R0 i d (Nat.le_refl d)
 have hdone:=yDv_done (q:=Q) m d n B IV R0 hm0 (by omega) (fun i _=>hRl i) hiv d (Nat.le_refl d)
 have hhigh:=fun(hd0:d≠0) i (hi:n<=i)=>yDv_high Q m d n B IV R0 (by omega) hm0 i hi d (Nat.le_refl d)
 have htop:d=0∨(yDv Q m d B IV R0 d).2 (d-1)≠0:=by
  by_cases h0:d=0
  ·exact .inl h0
  ·refine .inr ?_
   rw[yDv_top (q:=Q) m d B IV R0 (by omega) hm0 d (by omega) (Nat.le_refl d),show d+m-2=n-1 by omega]
   intro e
   have hR1:R0 (n-1)≠0:=by
    have:=yTn_last R0 na
    rw[hnn]at this
    exact this.resolve_left (by omega)
   rcases isP_mul q.pr (Nat.dvd_of_mod_eq_zero e)with h3|h3
   ·exact hR1 (Nat.eq_zero_of_dvd_of_lt h3 (hRl _))
   ·rw[Nat.mul_mod,Nat.mod_eq_zero_of_dvd h3,Nat.mul_zero,Nat.zero_mod]at hiv1
    omega
 obtain⟨O,hO⟩: ∃O,(yDv Q m d B IV R0 d).2=O:=⟨_,rfl⟩
 obtain⟨R,hR'⟩: ∃R,(yDv Q m d B IV R0 d).1=R:=⟨_,rfl⟩
 rw[hO,hR']at hsum hlt
 rw[hO]at rO htop
 rw[hR']at rR hdone hhigh hlt2
 rw[hR']
 have tr:=tn_of n R (fl n R:List (Fin Q)) (fun i _=>hlt2 i) (fun i=>rfl)
 have hyn:=yTn_le R n
 have hpr:PlAt w' (.slice (some ⟨gR,0,none⟩) (yTn R n) na) (ptrim (fl n R):List (Fin Q)):=by
  have h1:=(nats_row rR fun i hi=>Nat.lt_trans (hlt2 i) q.m).take (Nat.le_trans hyn hnb')
  have h3:=tr.2
  rw[tr.1]at h1 h3
  rw[tr.1]
  exact⟨_,_,_,_,_,_,rfl,h1.congr h3⟩
 have hrl:(ptrim (fl n R:List (Fin Q))).length<m:=by
  rw[<-tr.1]
  by_cases h0:d=0
  ·omega
  ·have:=yTn_below R n (m-1) fun i h1 h2=>hdone i (by omega) h2 h0
   omega
 refine⟨_,_,fl d O,ptrim (fl n R),rfl,plAt_fl rO q.m fun i _=>hlt.2 i,hpr,fl_trimmed d O (fun i _=>hlt.2 i) htop,ptrim_ptrim _,by rw[<-tb.1];exact hrl,by rw[fl_length,fl_length];omega,by rw[<-tr.1,fl_length];omega,fun i=>?_,hbw⟩
 rw[<-hbl,pco_pmul,pco_pcv,fl_length,pco_ptrim,<-hfa]
 have hc: ∀j,j<d->(fun j=>if j<=i then pco (fl d O) j*pco (fl m B) (i-j)else(0:Fin Q)) j=(fun j=>if j<=i then fi (O j)*pco (fl m B) (i-j)else(0:Fin Q)) j:=fun j hj=>by
  show(if j<=i then _ else _)=(if j<=i then _ else _)
  rw[fl_co _ _ _ hj]
 rw[psm_congr _ _ _ hc]
 have hs:=hsum i
 generalize psm (q:=Q) _ d=X at*
 by_cases h1:i<n
 ·rw[fl_co _ _ _ h1,fl_co _ _ _ (by omega),hs]
 ·have h4:(pco (fl na R0) i:Fin Q)=0:=by
   by_cases h5:i<na
   ·rw[fl_co _ _ _ h5,yTn_out R0 na i (by omega) h5];exact fi_zero
   ·exact fl_out _ _ _ (by omega)
  rw[fl_out _ _ _ (by omega),h4]
  by_cases h0:d=0
  ·have hR0:R i=R0 i:=by rw[<-hR',h0];rfl
   rw[hR0]at hs
   grind
  ·rw[hhigh h0 i (by omega)]at hs
   grind
end
theorem pgrp_any (v f:Option Addr)(P Q G:Nat)(r:Option Addr)(w:World)(h:KnAt w v P Q G r f):
  Calls Tryz.prog 119 #[.pointer v] w fun e w'=>e= .returned (.bool (!f.isNone))/\Below w.heap.size w w':=by
 have hf:=fun w' (hb:Below w.heap.size w w')=>grpField_any v P Q G r f w' (h.below hb)
 go_enter Tryz.func119,Tryz.ntmps119
 have sb:=sbmk w
 iterate 2 go_step
 refine rp ?_;refine p_v (.bool false) (fun _=>rfl) (pw_nil ?_);simp only[pv]
 iterate 3 go_step
 refine rp ?_;refine p_m ?_;simp only[pv];refine p_c 43 Tryz.func43 #[.pointer v] (hf _ sb) ?_;intro z1001 k;simp only[pv];replace sb:=kk sb k;clear k;refine p_v (.bool (!f.isNone)) (exec_neq_nilp _ _ _ _ rfl f rfl rfl ptr_ring8) ?_;refine p_a (pw_nil ?_);simp only[pv]
 go_wp2
 go_ret
 exact⟨rfl,sb⟩
theorem built_one:Tryz.prog.built 43 [(0,.int .u64 1)]=some (natC 1):=by kernel_rfl
def ivF {Q:Nat}[NeZero Q](x:Fin Q):Fin Q:=fi (invZ x.val Q)
theorem ivF_is {Q:Nat}[NeZero Q](q:FdQ Q)(a:Fin Q)(h:a≠0):a*ivF a=1:=by
 have h1:a.val%Q≠0:=by
  rw[Nat.mod_eq_of_lt a.isLt]
  exact fun e=>h ((val_z a).1 e)
 have h2:=inv_1 q.pr h1
 have h3:(fi (a.val*invZ a.val Q):Fin Q)=fi 1:=(fi_eq _ _).2 (by rw[h2,Nat.mod_eq_of_lt (by have:=q.pr.1;omega)])
 rw[fi_mul,fi_of]at h3
 exact h3
theorem lit1_pl {Q:Nat}[NeZero Q]{w:World}{g A:Nat}(r:Row w g (natC A) 43)(hA:A<2^256):PlA w (.slice (some ⟨g,0,none⟩) 1 1) [(fi A:Fin Q)]:=by
 exact(nats_one r hA).pl (by decide)
theorem lit2_pl {Q:Nat}[NeZero Q]{w:World}{g A B:Nat}(r:Row w g (natC A++natC B) 43)(hA:A<2^256)(hB:B<2^256):PlA w (.slice (some ⟨g,0,none⟩) 2 2) [(fi A:Fin Q),fi B]:=by
 exact(nats_two r hA hB).pl (by decide)
def esC (k n:Nat)(C:Nat->Array Value):Array Value:=Array.ofFn (n:=n*k) fun i=>((C (i/k))[i.val%k]?).getD undef
theorem esC_size (k n:Nat)(C:Nat->Array Value):(esC k n C).size=n*k:=by simp[esC]
theorem esC_get {k n:Nat}{C:Nat->Array Value}(hC: ∀i,(C i).size=k)(i j:Nat)(hi:i<n)(hj:j<k):(esC k n C)[i*k+j]?=(C i)[j]?:=by
 have h1:i*k+j<n*k:=Nat.lt_of_lt_of_le (Nat.add_lt_add_left hj _) (by rw[<-Nat.succ_mul];exact Nat.mul_le_mul_right k hi)
 have h2:(i*k+j)/k=i:=by rw[Nat.mul_comm,Nat.mul_add_div (by omega),Nat.div_eq_of_lt hj,Nat.add_zero]
 have h3:(i*k+j)%k=j:=by rw[Nat.mul_comm,Nat.mul_add_mod,Nat.mod_eq_of_lt hj]
 have h4:j<(C i).size:=by rw[hC];exact hj
 simp[esC,h1,h2,h3,h4]
theorem esC_part {k n:Nat}{C:Nat->Array Value}(hC: ∀i,(C i).size=k)(i:Nat)(hi:i<n)(off:Nat)(ho:off=i*k): ∀j v,(C i).toList[j]?=some v->(esC k n C)[off+j]?=some v:=by
 intro j v hv
 subst ho
 rw[Array.getElem?_toList]at hv
 have hj:j<k:=by
  have:=(Array.getElem?_eq_some_iff.1 hv).1
  rw[hC]at this
  exact this
 rw[esC_get hC i j hi hj,hv]
theorem div_lt_n {k n i:Nat}(h:i<n*k):i/k<n:=Nat.div_lt_of_lt_mul (by rw[Nat.mul_comm];exact h)
theorem esC_at {k n:Nat}{C:Nat->Array Value}(hC: ∀i,(C i).size=k)(i:Nat)(h:i<n*k):(esC k n C)[i]?=(C (i/k))[i%k]?:=by
 have hk:0<k:=by
  rcases Nat.eq_zero_or_pos k with e|e
  ·rw[e,Nat.mul_zero]at h;omega
  ·exact e
 have e:i/k*k+i%k=i:=by rw[Nat.mul_comm];exact Nat.div_add_mod i k
 have:=esC_get hC (i/k) (i%k) (div_lt_n h) (Nat.mod_lt _ hk)
 rw[e]at this
 exact this
theorem esC_congr {k n:Nat}{C D:Nat->Array Value}(h: ∀i,i<n->C i=D i):esC k n C=esC k n D:=by
 apply Array.ext_getElem?
 intro i
 by_cases hi:i<n*k
 ·have:=h (i/k) (div_lt_n hi)
  simp[esC,hi,this]
 ·rw[Array.getElem?_eq_none (by rw[esC_size];omega),Array.getElem?_eq_none (by rw[esC_size];omega)]
theorem esC_snoc {k:Nat}{C:Nat->Array Value}(hC: ∀i,(C i).size=k)(n:Nat):(esC k n C).toList++(C n).toList=(esC k (n+1) C).toList:=by
 refine List.ext_getElem? fun j=>?_
 rw[List.getElem?_append,Array.length_toList,esC_size,Array.getElem?_toList,Array.getElem?_toList,Array.getElem?_toList]
 have hs:(n+1)*k=n*k+k:=Nat.succ_mul n k
 by_cases h:j<n*k
 ·rw[if_pos h,esC_at hC j h,esC_at hC j (by omega)]
 ·rw[if_neg h]
  by_cases h2:j<n*k+k
  ·obtain⟨d,rfl⟩: ∃d,j=n*k+d:=⟨j-n*k,by omega⟩
   rw[esC_get hC n d (by omega) (by omega),Nat.add_sub_cancel_left]
  ·rw[Array.getElem?_eq_none (by rw[hC];omega),Array.getElem?_eq_none (by rw[esC_size];omega)]
structure ElsAt (k:Nat)(w:World)(ab:Option Addr)(n:Nat)(C:Nat->Array Value)(gb ob:Nat)(bcs:Array Value)(tb:TypeId):Prop where
 at':n=0∨(ab=some ⟨gb,ob,none⟩/\RowR w gb bcs tb/\ ∀i,i<n-> ∀j v,(C i).toList[j]?=some v->bcs[ob+i*k+j]?=some v)
section
variable {k:Nat}{w w2:World}{ab:Option Addr}{n:Nat}{C D:Nat->Array Value}{gb ob:Nat}{bcs:Array Value}{tb:TypeId}
theorem ElsAt.below (h:ElsAt k w ab n C gb ob bcs tb)(hb:Below w.heap.size w w2):ElsAt k w2 ab n C gb ob bcs tb:=
 ⟨h.at'.imp id fun⟨h1,h2,h3⟩=>⟨h1,h2.belowAll hb,h3⟩⟩
theorem ElsAt.belowAll (h:ElsAt k w ab n C gb ob bcs tb)(hb:Below w.heap.size w w2):ElsAt k w2 ab n C gb ob bcs tb:=h.below hb
theorem ElsAt.take (h:ElsAt k w ab n C gb ob bcs tb){m:Nat}(hm:m<=n):ElsAt k w ab m C gb ob bcs tb:=by
 refine⟨?_⟩
 rcases h.at' with h0|⟨h1,h2,h3⟩
 ·exact .inl (by omega)
 ·exact .inr ⟨h1,h2,fun i hi=>h3 i (by omega)⟩
theorem ElsAt.congr (h:ElsAt k w ab n C gb ob bcs tb)(he: ∀i,i<n->C i=D i):ElsAt k w ab n D gb ob bcs tb:=
 ⟨h.at'.imp id fun⟨h1,h2,h3⟩=>⟨h1,h2,fun i hi=>by rw[<-he i hi];exact h3 i hi⟩⟩
theorem ElsAt.drop (h:ElsAt k w (some ⟨gb,ob,none⟩) n C gb ob bcs tb){m:Nat}(hm:m<=n):ElsAt k w (some ⟨gb,ob+m*k,none⟩) (n-m) (fun i=>C (m+i)) gb (ob+m*k) bcs tb:=by
 refine⟨?_⟩
 rcases h.at' with h0|⟨h1,h2,h3⟩
 ·exact .inl (by omega)
 ·refine .inr ⟨rfl,h2,fun i hi j v hv=>?_⟩
  have:=h3 (m+i) (by omega) j v hv
  rw[Nat.add_mul]at this
  rw[show ob+m*k+i*k+j=ob+(m*k+i*k)+j by omega]
  exact this
theorem els_row {g:Nat}{t:TypeId}(hC: ∀i,(C i).size=k)(h:Row w g (esC k n C) t):ElsAt k w (some ⟨g,0,none⟩) n C g 0 (esC k n C) t:=
 ⟨.inr ⟨rfl,h.r,fun i hi=>esC_part hC i hi _ (by omega)⟩⟩
def OwnE (k:Nat)(e:TypeId)(w:World)(base:Nat)(v:Value)(n:Nat)(C:Nat->Array Value):Prop:=w.ownsRow base e k v n (esC k n C).toList
theorem ownE_nil (e:TypeId)(w:World)(base:Nat)(C:Nat->Array Value):OwnE k e w base (.slice none 0 0) 0 C:=by
 have h:(esC k 0 C).toList=[]:=by
  apply List.eq_nil_of_length_eq_zero
  rw[Array.length_toList,esC_size,Nat.zero_mul]
 unfold OwnE
 rw[h]
 exact World.ownsRow_nil w base _ _
variable {e:TypeId}{S:List Nat}{bs:Nat}{v:Value}
theorem OwnE.on (h:OwnE k e w bs v n C)(hk:Kept S w w2)(hS: ∀b,v.ownBlock=some b->b∉S):OwnE k e w2 bs v n C:=own_on h hk hS
theorem OwnE.new (h:OwnE k e w bs v n C){g:Nat}(hg:w.heap.size<=g):v.ownBlock≠some g:=own_new h hg
theorem OwnE.low (h:OwnE k e w bs v n C){g:Nat}(hg:g<bs):v.ownBlock≠some g:=own_low h hg
theorem OwnE.base (h:OwnE k e w bs v n C): ∀g∈v.ownBlock.toList,bs<=g:=own_base h
theorem ownE_els (hC: ∀i,(C i).size=k)(h:OwnE k e w bs v n C): ∃ab c gb cur,v= .slice ab n c/\n<=c/\ElsAt k w ab n C gb 0 cur e:=by
 rcases h.2 with ⟨rfl,rfl⟩|⟨g,cap,cur,rfl,_,hg,hnc,_,hcs,htk⟩
 ·exact⟨none,0,0,#[],rfl,Nat.le_refl _,⟨.inl rfl⟩⟩
 ·refine⟨_,cap,g,cur,rfl,hnc,⟨.inr ⟨rfl,Row.r hg,fun i hi j v hv=>?_⟩⟩⟩
  have hj:j<k:=by
   rw[Array.getElem?_toList]at hv
   have:=(Array.getElem?_eq_some_iff.1 hv).1
   rw[hC]at this
   exact this
  have hl:i*k+j<n*k:=Nat.lt_of_lt_of_le (Nat.add_lt_add_left hj _) (by rw[<-Nat.succ_mul];exact Nat.mul_le_mul_right k hi)
  refine take_part htk (0+i*k+j) v (by omega) ?_
  have:=esC_part hC i hi (i*k) rfl j v hv
  rw[Nat.zero_add]
  exact this
end
section
variable {P:Program}{ops:Array Oper}{Q:Exit->Act->World->Prop}{rest:List Oper}{o:Oper}{a:Act}{w:World}
theorem pw_appE (hw:Region.wanted o (yielded ops a.tmps)=true)(s x:Operand)(t:TypeId)(ho:o.op= .call {callee:=.builtin .append,args:=#[s,x],argTypes:=#[t,t]})
  (base:Nat)(e:TypeId)(i:TypeInfo)(z:Value)(k bytes:Nat)(ht:P.underlying t=some (.slice e))(hi:P.info? e=some i)(hz:i.zero=some z)(hsize:i.size=k)(hby:i.bytes=bytes)(hzs:z.cells.size=k)(hk:0<k)(hby2:bytes<=1000)
  (v:Value)(n:Nat)(C:Nat->Array Value)(hC: ∀i,(C i).size=k)(hs:a.eval s=v)(hown:OwnE k e w base v n C)(gx c:Nat)(hx:a.eval x= .slice (some ⟨gx,0,none⟩) 1 c){tx:TypeId}(rx:Row w gx (C n) tx)(h1:(C n).all (·.oneCell')=true)
  (hn:n<=1000000)(hbase:base<=w.heap.size)
  (h: ∀v' w',OwnE k e w' base v' (n+1) C->Kept v.ownBlock.toList w w'->(v'.ownBlock=v.ownBlock∨v'.ownBlock=some w.heap.size)->PW P ops Q rest (a.put o.dst v') w'):PW P ops Q (o::rest) a w:=by
 refine pw_app1 hw s x t ho base e i z k bytes ht hi hz hsize hby hzs hk v n _ hs hown gx c hx rx (hC n) h1 (by unfold maxLen;omega) ?_ hbase fun v' w' h1 h2 h3=>h v' w' ?_ h2 h3
 ·exact Nat.le_trans (Nat.mul_le_mul (show n+1<=1000001 by omega) hby2) (by decide)
 ·rw[esC_snoc hC]at h1
  exact h1
end
def shC (i:Int)(y:Nat):Array Value:=#[.int .i64 i]++natC y
def snB (Z:Nat->Int):Nat->Int->Bool
 |0,_=>false
 |k+1,v=>snB Z k v||decide (Z k=v)
def apB (least:Int)(Z:Nat->Int):Nat->Bool
 |0=>true
 |k+1=>apB least Z k&&(decide (least<=Z k)&&(decide (Z k<=7)&& !(snB Z k (Z k))))
theorem apB_step (least:Int)(Z:Nat->Int)(k:Nat):apB least Z (k+1)=true↔apB least Z k=true/\least<=Z k/\Z k<=7/\snB Z k (Z k)=false:=by
 show(apB least Z k&&(decide (least<=Z k)&&(decide (Z k<=7)&& !(snB Z k (Z k)))))=true↔_
 simp
theorem apB_up {least:Int}{Z:Nat->Int}{k:Nat}(h:apB least Z k=false): ∀n,k<=n->apB least Z n=false
 |0,hn=>by
  obtain rfl:k=0:=by omega
  exact h
 |n+1,hn=>by
  by_cases e:k=n+1
  ·rw[<-e];exact h
  ·show(apB least Z n&&_)=false
   rw[apB_up h n (by omega),Bool.false_and]
def cnB (f:Nat->Bool):Nat->Nat
 |0=>0
 |m+1=>cnB f m+if f m then 1 else 0
def vsC (n:Nat)(S:Nat->Value):Array Value:=Array.ofFn (n:=n) fun i=>S i
theorem vsC_size (n:Nat)(S:Nat->Value):(vsC n S).size=n:=by simp[vsC]
theorem vsC_get {n:Nat}(S:Nat->Value){i:Nat}(h:i<n):(vsC n S)[i]?=some (S i):=by simp[vsC,h]
theorem vsC_congr {n:Nat}{S T:Nat->Value}(h: ∀i,i<n->S i=T i):vsC n S=vsC n T:=by
 apply Array.ext_getElem?
 intro i
 by_cases hi:i<n
 ·rw[vsC_get S hi,vsC_get T hi,h i hi]
 ·rw[Array.getElem?_eq_none (by rw[vsC_size];omega),Array.getElem?_eq_none (by rw[vsC_size];omega)]
theorem vsC_put {n:Nat}{S T:Nat->Value}{i:Nat}{v:Value}(hi:i<n)(hv:T i=v)(h: ∀j,j<n->j≠i->T j=S j):(vsC n S).setIfInBounds i v=vsC n T:=by
 apply Array.ext_getElem?
 intro j
 rw[Array.getElem?_setIfInBounds]
 by_cases hj:j<n
 ·rw[vsC_get S hj,vsC_get T hj]
  by_cases e:i=j
  ·subst e
   rw[if_pos rfl,if_pos (by rw[vsC_size];exact hj),hv]
  ·rw[if_neg e,h j hj (fun x=>e x.symm)]
 ·rw[Array.getElem?_eq_none (show(vsC n T).size<=j by rw[vsC_size];omega)]
  by_cases e:i=j
  ·omega
  ·rw[if_neg e,Array.getElem?_eq_none (by rw[vsC_size];omega)]
theorem made_vs (n:Nat)(v:Value)(hv:v.cells=#[v]):madeCells v.cells (n*1)=vsC n (fun _=>v):=by
 apply Array.ext_getElem?
 intro i
 by_cases hi:i<n
 ·rw[vsC_get _ hi,hv]
  unfold madeCells
  simp[hi,Nat.mod_one]
 ·rw[Array.getElem?_eq_none (by rw[size_madeCells];omega),Array.getElem?_eq_none (by rw[vsC_size];omega)]
structure FamAt (w:World)(base n:Nat)(R:Nat->Nat)(V:Nat->Nat->Nat)(m:Nat):Prop where
 row: ∀j,j<m->Row w (R j) (nsC n (V j)) 43
 dis: ∀i j,i<m->j<m->R i=R j->i=j
 low: ∀j,j<m->base<=R j
section
variable {w w2:World}{base n m:Nat}{R:Nat->Nat}{V V':Nat->Nat->Nat}
theorem FamAt.below (h:FamAt w base n R V m)(hb:Below w.heap.size w w2):FamAt w2 base n R V m:=
 ⟨fun j hj=>(h.row j hj).belowAll hb,h.dis,h.low⟩
theorem FamAt.on (h:FamAt w base n R V m){S:List Nat}(k:Kept S w w2)(hS: ∀j,j<m->R j∉S):FamAt w2 base n R V m:=
 ⟨fun j hj=>k.row (h.row j hj) (hS j hj),h.dis,h.low⟩
theorem FamAt.congr (h:FamAt w base n R V m)(he: ∀j,j<m-> ∀k,k<n->V j k=V' j k):FamAt w base n R V' m:=
 ⟨fun j hj=>by rw[<-nsC_congr n (V j) (V' j) (he j hj)];exact h.row j hj,h.dis,h.low⟩
theorem FamAt.lt (h:FamAt w base n R V m){j:Nat}(hj:j<m):R j<w.heap.size:=(h.row j hj).lt
theorem FamAt.put (h:FamAt w base n R V m){j:Nat}(hj:j<m)(k:Kept [R j] w w2)(r:Row w2 (R j) (nsC n (V' j)) 43)(he: ∀i,i<m->i≠j->V' i=V i):FamAt w2 base n R V' m:=by
 refine⟨fun i hi=>?_,h.dis,h.low⟩
 by_cases e:i=j
 ·rw[e];exact r
 ·rw[he i hi e]
  exact k.row (h.row i hi) (by
   intro hm
   exact e (h.dis i j hi hj (by simpa using hm)))
def upR (R:Nat->Nat)(m g:Nat):Nat->Nat:=fun j=>if j=m then g else R j
theorem upR_at (R:Nat->Nat)(m g:Nat):upR R m g m=g:=if_pos rfl
theorem upR_lt (R:Nat->Nat){m g j:Nat}(h:j<m):upR R m g j=R j:=if_neg (by omega)
theorem FamAt.add (h:FamAt w base n R V m){g:Nat}(hg: ∀j,j<m->R j≠g)(hb:base<=g)(r:Row w g (nsC n (V m)) 43):FamAt w base n (upR R m g) V (m+1):=by
 refine⟨fun j hj=>?_,fun i j hi hj e=>?_,fun j hj=>?_⟩
 ·by_cases e:j=m
  ·subst e
   rw[upR_at];exact r
  ·rw[upR_lt R (show j<m by omega)]
   exact h.row j (by omega)
 ·by_cases e1:i=m
  ·by_cases e2:j=m
   ·omega
   ·rw[e1,upR_at,upR_lt R (show j<m by omega)]at e
    exact absurd e.symm (hg j (by omega))
  ·by_cases e2:j=m
   ·rw[e2,upR_at,upR_lt R (show i<m by omega)]at e
    exact absurd e (hg i (by omega))
   ·rw[upR_lt R (show i<m by omega),upR_lt R (show j<m by omega)]at e
    exact h.dis i j (by omega) (by omega) e
 ·by_cases e:j=m
  ·subst e
   rw[upR_at];exact hb
  ·rw[upR_lt R (show j<m by omega)]
   exact h.low j (by omega)
theorem fam_nil (w:World)(base n:Nat)(R:Nat->Nat)(V:Nat->Nat->Nat):FamAt w base n R V 0:=
 ⟨fun j hj=>absurd hj (by omega),fun i j hi=>absurd hi (by omega),fun j hj=>absurd hj (by omega)⟩
end
theorem info_sh:(Tryz.prog.info? 46).map (fun i=>(i.zero,i.size))=some (some (.agg (shC 0 0)),5):=by kernel_rfl
theorem zero_sh (w:World):(zeroValue 46).run Tryz.prog w= .ok (.agg (shC 0 0)) w:=(zero_of_info info_sh).1 w
theorem size_sh:(Tryz.prog.info? 46).map (·.size)=some 5:=(zero_of_info info_sh).2
theorem sh_one (i:Int)(y:Nat):(shC i y).all (·.oneCell')=true:=by simp[shC,natC,Value.oneCell']
theorem info_shx:(Tryz.prog.info? 46).map (fun i=>(i.zero,i.size,i.bytes))=some (some (.agg #[.int .i64 0,.int .u64 0,.int .u64 0,.int .u64 0,.int .u64 0]),5,40):=by kernel_rfl
theorem info_shb: ∃i,Tryz.prog.info? 46=some i/\i.zero=some (.agg #[.int .i64 0,.int .u64 0,.int .u64 0,.int .u64 0,.int .u64 0])/\i.size=5/\i.bytes=40:=by
 have h:=info_shx
 cases hi:Tryz.prog.info? 46 with
 |none=>rw[hi]at h;cases h
 |some i=>
  rw[hi]at h
  simp only[Option.map_some,Option.some.injEq,Prod.mk.injEq]at h
  exact⟨i,rfl,h.1,h.2.1,h.2.2⟩
theorem sl_shs:Tryz.prog.underlying 47=some (.slice (Tryz.prog.elem 47)):=by kernel_rfl
theorem el_shs:Tryz.prog.elem 47=46:=by kernel_rfl
theorem size_sh5 (w:World):(sizeOf 46).run Tryz.prog w= .ok 5 w:=Tryz.sizeOf46 w
theorem size_els (w:World):(sizeOf (Tryz.prog.elem 47)).run Tryz.prog w= .ok 5 w:=by rw[el_shs];exact size_sh5 w
theorem sh_i (i:Int)(y:Nat):(shC i y)[0]?=some (.int .i64 i):=rfl
theorem sh_y (i:Int)(y:Nat): ∀j v,(natC y).toList[j]?=some v->(shC i y)[1+j]?=some v:=part4 rfl rfl rfl rfl
theorem shp_i {bcs:Array Value}{off:Nat}{i:Int}{y:Nat}(h: ∀j v,(shC i y).toList[j]?=some v->bcs[off+j]?=some v):bcs[off]?=some (.int .i64 i):=h 0 _ rfl
theorem shp_y {bcs:Array Value}{off:Nat}{i:Int}{y:Nat}(h: ∀j v,(shC i y).toList[j]?=some v->bcs[off+j]?=some v): ∀j v,(natC y).toList[j]?=some v->bcs[off+1+j]?=some v:=fun j v hv=>by
 rw[Nat.add_assoc]
 refine h (1+j) v ?_
 rw[Array.getElem?_toList]
 exact sh_y i y j v hv
theorem built_sh (i:Int)(y:Nat):Tryz.prog.built 46 [(0,.int .i64 i),(1,.agg (natC y))]=some (shC i y):=by
 unfold shC natC
 generalize lm y 0=a
 generalize lm y 1=b
 generalize lm y 2=c
 generalize lm y 3=d
 kernel_rfl
theorem part_shi (i:Int)(y:Nat)(w:World):(part 3 (shC i y) 0).run Tryz.prog w= .ok (.int .i64 i) w:=by
 unfold shC
 kernel_rfl
theorem part_shy (i:Int)(y:Nat)(w:World):(part 43 (shC i y) 1).run Tryz.prog w= .ok (.agg (natC y)) w:=by
 unfold shC natC
 kernel_rfl
theorem equal_natS (d X Y:Nat)(w:World):(Op.equalIn (d+1+1) 43 (.agg (natC X)) (.agg (natC Y))).run Tryz.prog w= .ok (decide (X%2^256=Y%2^256)) w:=by
 have h:=natC_lms X Y
 rw[show decide (X%2^256=Y%2^256)=decide (lm X 0=lm Y 0/\lm X 1=lm Y 1/\lm X 2=lm Y 2/\lm X 3=lm Y 3)from decide_eq_decide.2 h.symm]
 clear h
 have u3:=Tryz.underlying41
 have a3:=Tryz.isAgg41
 have z3:=Tryz.sizeOf41
 unfold natC
 rw[Op.equalIn]
 simp only[Sem.run_bind,run_underlying Tryz.underlying43,Result.andThen_ok];simp only[Std.Legacy.Range.forIn_eq_forIn_range',Std.Legacy.Range.size,Nat.sub_zero,Nat.add_sub_cancel,Nat.div_one,List.range'_succ,List.range'_zero,List.forIn_cons,List.forIn_nil]
 go_simp
 by_cases h1:lm X 0=lm Y 0<;>by_cases h2:lm X 1=lm Y 1<;>by_cases h3:lm X 2=lm Y 2<;>by_cases h4:lm X 3=lm Y 3<;>simp[h1,h2,h3,h4]<;>omega
theorem equal_sh (i:Int)(X Y:Nat)(w:World):(Op.equalIn 10000 46 (.agg (shC i X)) (.agg (shC i Y))).run Tryz.prog w= .ok (decide (X%2^256=Y%2^256)) w:=by
 rw[run_equalIn_struct w 9999 _ _ _ (by kernel_rfl) (by kernel_rfl)]
 simp only[Program.fieldsOf,Tryz.underlying46,Op.eqFields]
 by_cases h:X%2^256=Y%2^256
 ·simp[Sem.run_bind,part_shi,part_shy,equal_natS,run_equalIn_int _ _ _ _ _ _ _ Tryz.underlying3,h]
 ·simp[Sem.run_bind,part_shi,part_shy,equal_natS,run_equalIn_int _ _ _ _ _ _ _ Tryz.underlying3,h]
theorem exec_neq_sh {o:Oper}{ρ:Operand->Value}(x y:Operand)(u:TypeId)(ho:o.op= .binOp .neq 46 x y u)(i:Int)(X Y:Nat)(hx:ρ x= .agg (shC i X))(hy:ρ y= .agg (shC i Y))(b:Bool)(hb:(!decide (X%2^256=Y%2^256))=b)(w:World):
  (execOp ρ o).run Tryz.prog w= .ok (.value (.bool b)) w:=by
 unfold execOp
 simp only[ho,hx,hy]
 simp[run_eqGuard_agg _ _ _ _ _ _ _ (show Tryz.prog.eqGuardType Tryz.prog.depth 46=false by kernel_rfl),run_neq_struct,equal_sh]
 simpa using hb
theorem info_b8:(Tryz.prog.info? 128).map (fun i=>(i.zero,i.size))=some (some (.agg (vsC 8 fun _=>.bool false)),8):=by kernel_rfl
theorem zero_b8 (w:World):(zeroValue 128).run Tryz.prog w= .ok (.agg (vsC 8 fun _=>.bool false)) w:=(zero_of_info info_b8).1 w
theorem size1tbool:(Tryz.prog.info? 4).map (·.size)=some 1:=by kernel_rfl
end Go.Proofs.YtighhihgmkcabaaGreat
