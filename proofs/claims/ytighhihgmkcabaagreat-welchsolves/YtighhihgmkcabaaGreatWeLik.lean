import Derived.Test.YtighhihgmkcabaaGreatWeSol
namespace Go.Proofs.YtighhihgmkcabaaGreat
open Go.RowKit
set_option linter.unusedVariables false
set_option linter.unusedSectionVars false
set_option linter.unusedSimpArgs false
theorem vs_all {w:World}{g n:Nat}{S:Nat->Value}{t:TypeId}(r:Row w g (vsC n S) t):VsAt w (some ⟨g,0,none⟩) n S g 0 (vsC n S) t:=
 ⟨.inr ⟨rfl,r.r,fun i hi=>by rw[show 0+i*1=i by omega];exact vsC_get S hi⟩⟩
def rs4 (N m:Nat):Nat:=if N=m then 0 else 0+m*4
section
variable {ops:Array Oper}{C:World->Prop}{Q:Act->World->Prop}{fn:Nat->Bool}{i:Nat}{L:DL}{a:Act}{w:World}{o:Oper}
theorem cell_rest {w2:World}{gX ct e:Nat}{F f:Nat->Nat}{j:Nat}{v:Value}(r:Row w2 gX (nsC (ct+e) F) 43)(hf: ∀i,i<e->f i=F (ct+i))(h:(nsC e f).toList[j]?=some v):w2.cell? ((⟨gX,rs4 (ct+e) ct,none⟩:Addr).add j)=some v:=by
 rw[Addr.add_mid,cell_of_row w2 gX _ _ _ (0,0) r]
 rw[Array.getElem?_toList]at h
 have hj:j<4*e:=by
  have:=(Array.getElem?_eq_some_iff.1 h).1
  rwa [nsC_size]at this
 rw[nsC_get e f j hj]at h
 rw[show rs4 (ct+e) ct=0+ct*4 from if_neg (by omega),nsC_get (ct+e) F _ (by omega),<-h,show(0+ct*4+j)/4=ct+j/4 by omega,show(0+ct*4+j)%4=j%4 by omega,hf _ (by omega)]
theorem ew_appG (hw:Region.wanted o (yielded ops a.tmps)=true)(s x:Operand)(ho:o.op= .call {callee:=.builtin .append,args:=#[s,x],argTypes:=#[23,23]})(g off n:Nat)(f:Nat->Nat)(hs:a.eval s= .slice (some ⟨g,off,none⟩) n n)(hn:n<=1000)
  (hold: ∀w2,Below w.heap.size w w2-> ∀j v,(nsC n f).toList[j]?=some v->w2.cell? ((⟨g,off,none⟩:Addr).add j)=some v)(gx c:Nat)(hx:a.eval x= .slice (some ⟨gx,0,none⟩) 1 c)(rx:Row w gx (natC (f n)) 43)
  (h: ∀w2,Below w.heap.size w w2-> ∀v' w3,OwnN w3 w2.heap.size v' (n+1) f->Below w2.heap.size w2 w3->(fn i=false->C w3)/\EW Tryz.prog ops C Q fn L (a.put o.dst v') w3):EW Tryz.prog ops C Q fn ((i,o,true)::L) a w:=by
 obtain⟨ie,hie,hze,hsz,hby⟩:=info_nat'
 refine ew_hard hw fun w2 hb=>?_
 have hl4:(natC (f n)).toList.length=4:=by rw[Array.length_toList,natC_size]
 have hl:(natC (f n)).toList.length=1*ie.size:=by rw[hl4,hsz]
 have hlo4:(nsC n f).toList.length=n*4:=by rw[Array.length_toList,nsC_size];omega
 have hlo:(nsC n f).toList.length=n*ie.size:=by rw[hlo4,hsz]
 have hnews: ∀j u,(natC (f n)).toList[j]?=some u->w2.cell? ((⟨gx,0,none⟩:Addr).add j)=some u:=by
  intro j u hu
  rw[Array.getElem?_toList]at hu
  rw[Addr.add_mid,Nat.zero_add,cell_of_row w2 gx j _ _ (0,0) (rx.belowAll hb)]
  exact hu
 have hml:n+1<=maxLen:=by simp only[maxLen];omega
 have hr:=run_append_grow (P:=Tryz.prog) w2 23 o.type 43 ie _ Tryz.underlying23 hie hze ⟨g,off,none⟩ n n _ hlo (hold w2 hb) ⟨gx,0,none⟩ 1 c _ hl hnews (by omega) (by omega) (growslice_fits (by omega) (by rw[hby];omega))
 have hge:=grownCap_ge w2 (n+1) n 43
 have hcm:=grownCap_le_maxLen w2 (n+1) n 43 hml
 generalize grownCap w2 (n+1) n 43=cp at hr hge hcm
 have hd:(execOp a.eval o).run Tryz.prog w2= .ok (.value (.slice (some ⟨w2.heap.size,0,none⟩) (n+1) cp)) (w2.drew.alloc (.cells ((nsC n f).toList.toArray++(natC (f n)).toList.toArray++Builtin.zeroCells (Value.agg #[.int .u64 0,.int .u64 0,.int .u64 0,.int .u64 0]).cells (cp-(n+1))) 43)):=by
  unfold execOp
  simp only[ho,resolve,invoke,builtin,Sem.run_bind,Sem.run_pure,Result.andThen_ok,List.map_toArray,List.map_cons,List.map_nil,hs,hx,hr]
 rw[hd]
 refine h w2 hb _ _ ⟨?_,.inr ⟨w2.heap.size,cp,_,rfl,Nat.le_refl _,heap_alloc_new w2.drew _,hge,hcm,?_,?_⟩⟩ ⟨rfl,rfl,rfl,by simp,fun k hk=>heap_alloc_old w2.drew _ hk⟩
 ·rw[Array.length_toList,nsC_size];omega
 ·simp only[Array.size_append,List.size_toArray,size_zeroCells,hl4,hlo4]
  show n*4+4+(cp-(n+1))*4=cp*4
  omega
 ·simp only[Array.toList_append,<-nsC_snoc]
  exact List.take_left' (by rw[List.length_append,hl4,hlo4];omega)
end
section
variable {Q:Nat}[NeZero Q]{g gr gf P G:Nat}{w:World}
theorem mxJ_eqM (xs ys:Nat->Fin Q)(ct e:Nat):(mxJ (fun i k=>(eqR (xs i) (ys i) ct k).val) (fun i=>(ppw (xs i) e*ys i).val) (ct+e):Mx Q)=eqM xs ys ct e:=funext fun i=>funext fun k=>by
 unfold mxJ eqM
 rw[fi_of,fi_of]
theorem mul_fi (x:Fin Q)(A:Nat):x.val*A%Q=(x*fi A).val:=by
 rw[Fin.val_mul,fi_val,Nat.mul_mod_mod]
set_option maxRecDepth 100000 in
set_option maxHeartbeats 2000000 in
theorem eqn_any (I Y ct e:Nat)(q:FdQ Q)(hI:I<1000)(hY:Y<2^256)(hct:ct<=16)(he:e<ct)(h:GrpAt w g gr gf P Q G):
  Calls Tryz.prog 67 #[.pointer (some ⟨g,0,none⟩),.int .i64 ct,.int .i64 e,.agg (shC (I:Nat) Y)] w fun e' w'=> ∃gR,e'= .returned (.tuple #[.slice (some ⟨gR,0,none⟩) (ct+e) (ct+e),.agg (natC (ppw (fi I:Fin Q) e*(fi Y:Fin Q)).val)])/\w.heap.size<=gR/\Row w' gR (nsC (ct+e) (fun j=>(eqR (fi I:Fin Q) (fi Y:Fin Q) ct (j)).val)) 43/\Below w.heap.size w w':=by
 obtain⟨ie,hie,hze,hsz,hby⟩:=info_nat'
 have hof:=fun w'=>nof_any ((I:Nat):Int) w' (by omega)
 rw[Int.toNat_natCast]at hof
 have hmu:=fun(x:Fin Q) w' (hb:Below w.heap.size w w')=>fMul_ok x.val I g gr gf P Q G w' (Nat.lt_trans x.isLt q.m) (by omega) q (h.below hb)
 simp only[mul_fi]at hmu
 have hmy:=fun(x:Fin Q) w' (hb:Below w.heap.size w w')=>fMul_ok x.val Y g gr gf P Q G w' (Nat.lt_trans x.isLt q.m) hY q (h.below hb)
 simp only[mul_fi]at hmy
 have hsu:=fun(x:Fin Q) w' (hb:Below w.heap.size w w')=>fSub_ok 0 x.val g gr gf P Q G w' (by decide) (Nat.lt_trans x.isLt q.m) q (h.below hb)
 have h00: ∀x:Fin Q,sbN 0 x.val Q=(0-x).val:=fun x=>sbN_val (0:Fin Q) x
 simp only[h00]at hsu
 clear h00 h
 generalize hxx:(fi I:Fin Q)=xx at*
 generalize hyy:(fi Y:Fin Q)=yy at*
 go_enter Tryz.func67,Tryz.ntmps67
 have sb:=sbmk w
 iterate 2 go_step
 refine rp ?_;refine pw_boxr (by rfl) 46 _ rfl (shC (I:Nat) Y) rfl ?_;intro g7 z0 n0 r7 k;simp only[pv];clear n0;replace sb:=kk sb k;clear k;refine p_v (.slice none 0 0) ((fun _=>rfl)) ?_;simp only[pv];refine pw_new (by rfl) 43 rfl _ zero_nat ?_;intro g9 z2 n0 r9 k;simp only[pv]
 have d7x9:=l_l r7.lt n0
 have b9:=Nat.le_trans sb.size n0
 clear n0;replace r7:=k.ro r7;replace sb:=kk sb k;clear k;refine pw_nil ?_
 iterate 3 go_step
 refine rp ?_;refine p_m ?_;refine p_m ?_;simp only[pv];refine p_v (.int .i64 ((ct+e:Nat):Int)) (x_a ct e) ?_;simp only[pv];refine pw_make (by rfl) 23 43 _ _ rfl ie _ Tryz.underlying23 hie hze (ct+e) rfl rfl (by rw[hsz];omega) (by rw[hby];omega) (by omega) ?_;intro gR z1003 n0 rR k;simp only[pv]
 have d7xR:=l_l r7.lt n0
 have d9xR:=l_l r9.lt n0
 have bR:=Nat.le_trans sb.size n0
 clear n0;replace r7:=k.ro r7;replace r9:=k.ro r9;replace sb:=kk sb k;clear k;refine p_a (pw_nil ?_);simp only[pv]
 rw[hsz,made_nats]at rR
 iterate 3 go_step
 refine rp ?_;refine p_v (.agg (natC 1)) (exec_buildv _ [(0,.const (.int .u64 1))] rfl [(0,.int .u64 1)] rfl (natC 1) built_one) ?_;simp only[pv];refine pw_new (by rfl) 43 rfl _ zero_nat ?_;intro g11 z2001 n0 r11 k;simp only[pv]
 have d7x11:=l_l r7.lt n0
 have d9x11:=l_l r9.lt n0
 have dRx11:=l_l rR.lt n0
 have b11:=Nat.le_trans sb.size n0
 clear n0;replace r7:=k.ro r7;replace r9:=k.ro r9;replace rR:=k.ro rR;replace sb:=kk sb k;clear k;refine p_p r11 1 ?_;clear r11;intro z2002 r11 k;simp only[Act.put];replace r7:=k.ro r7;replace r9:=k.ro r9;replace rR:=k.ro rR;replace sb:=kk sb k;clear k;refine pw_nil ?_
 iterate 4 go_step
 refine rp ?_;refine p_m ?_;refine p_v (.int .i64 0) (fun _=>rfl) (pw_nil ?_);simp only[pv]
 have hne1:g7≠g9:=by omega
 have hne2:g7≠g11:=by omega
 have hne3:g7≠gR:=by omega
 have hne4:g9≠g11:=by omega
 have hne5:g9≠gR:=by omega
 have hne6:g11≠gR:=by omega
 have hone:(ppw xx 0:Fin Q).val=1:=Nat.mod_eq_of_lt q.two
 rw[<-hone]at r11
 clear hone
 go_wp2_with fail
 go_loopg [12,20] ct (fun x s12 s20 wr=> ∃k:Nat,k+x=ct/\s20= .int .i64 k/\Row wr g7 (shC (I:Nat) Y) 46/\Row wr g9 (natC 0) 43/\Row wr g11 (natC (ppw xx k).val) 43/\Row wr gR (nsC (ct+e) (fun j=>if j<k then(ppw xx j).val else 0)) 43/\Below w.heap.size w wr)
 case atStart=>exact⟨0,by omega,rfl,r7,r9,r11,by rw[nsC_congr (ct+e) _ (fun _=>0) (fun j _=>if_neg (by omega))];exact rR,sb⟩
 case round=>
  clear r7 r9 r11 rR sb
  obtain⟨k,hk,rfl,r7,r9,r11,rR,sb⟩:=hrel
  cases gk with
  |succ x=>
   have hlt:k<ct:=by omega
   have hput:=nsC_put (ct+e) (fun j=>if j<k then(ppw xx j).val else 0) (fun j=>if j<k+1 then(ppw xx j).val else 0) k (by omega) (0+k*4) (by omega) (ppw xx k).val (fun j hj=>by
    by_cases hjk:j=k
    ·subst hjk
     rw[if_pos (by omega),if_pos rfl]
    ·rw[if_neg hjk]
     by_cases h2:j<k
     ·rw[if_pos h2,if_pos (by omega)]
     ·rw[if_neg h2,if_neg (by omega)])
   have hm2:=hmu (ppw xx k)
   go_step
   refine rp ?_;refine p_v (.bool true) (lt_t k ct) (pw_nil ?_);simp only[pv]
   iterate 10 go_step
   refine rp ?_;refine p_m ?_;refine p_a (pw_nil ?_);simp only[pv]
   iterate 3 go_step
   refine rp ?_;refine p_m ?_;refine p_m ?_;simp only[pv];refine p_l r11.r ?_;simp only[pv];refine p_v (.pointer (some ⟨gR,0+k*4,none⟩)) ((exec_index_s 23 _ _ rfl gR 0 (ct+e) (ct+e) rfl (k) rfl (by omega) _ Tryz.underlying23 4 size_nat4)) ?_;simp only[pv];refine pw_putm (by rfl) 43 _ _ rfl _ (0+k*4) rfl rR (natC (ppw xx k).val) rfl (by exact size_nat) (by rw[nsC_size,natC_size];omega) (natC_one _) ((nsC (ct+e) (fun j=>if j<k+1 then(ppw xx j).val else 0))) hput ?_;clear rR;intro z6004 rR k;simp only[Act.put];replace r7:=k.ro r7;replace r9:=k.ro r9;replace r11:=k.ro r11;replace sb:=kk sb k;clear k;refine pw_nil ?_;clear hput
   have hnx:ppw xx k*xx=ppw xx (k+1):=rfl
   rw[hnx]at hm2
   iterate 2 go_step
   apply wp_region_mix (by kernel_rfl) [(g11,43,natC (ppw xx k).val)] [_,_,_,_,_,_,_] ⟨r11,trivial⟩ (by simp<;>omega)
   ·intro p;refine m_m ?_;simp only[pv];refine mx_loadT 0 43 _ rfl rfl rfl 4 _ Tryz.underlying43 size_nat ?_;simp only[pv];refine mx_val (.pointer (some ⟨g7,0,none⟩)) (exec_field 46 _ 0 rfl g7 (0) rfl _ Tryz.underlying46 _ rfl 0 Tryz.sizeOf3) ?_;simp only[pv];refine mx_loadc 3 _ rfl _ (0) rfl r7 (by simp<;>omega) (.int .i64 (I:Nat)) (sh_i _ _) Tryz.isAgg3 ?_;simp only[pv];refine m_c 40 Tryz.func40 #[.int .i64 (I:Nat)] hof ?_;simp only[pv]
    refine m_k 53 Tryz.func53 #[.pointer (some ⟨g,0,none⟩),.agg (natC (ppw xx k).val),.agg (natC I)] (fun w' hk=>hm2 w' (sb.trans (hk.below w.heap.size sb.size (by simp<;>omega)))) ?_
    simp only[pv];refine mx_put 0 43 _ _ rfl rfl rfl (natC (ppw xx (k+1)).val) rfl (by exact size_nat) (by simp only[natC_size]) (natC_one _) ?_;simp only[Act.put];refine mx_end ?_;intro w2 hkw hrw hnew hdis
    have zr11:Row w2 (g11) (natC (ppw xx (k+1)).val) 43:=hrw 0 (43,natC (ppw xx (k+1)).val) rfl
    replace r7:=hkw.ro r7;replace r9:=hkw.ro r9;replace rR:=hkw.ro rR;replace sb:=kk sb hkw;clear hkw hrw hnew hdis r11
    have r11:=zr11
    clear zr11;clear hm2 hnx
    iterate 2 go_step
    refine rp ?_;refine p_v (.int .i64 ((k+1:Nat):Int)) (x_a k 1) ?_;refine p_m (pw_nil ?_);simp only[pv]
    go_wp2
    go_roundg x
    case measure=>omega
    case rel=>exact⟨k+1,by omega,rfl,r7,r9,r11,rR,sb⟩
   ·kernel_rfl
  |zero=>
   obtain rfl:ct=k:=by omega
   clear hk hmu r11 hof
   rw[nsC_congr (ct+e) _ (fun j=>if j<ct+0 then(eqR xx yy ct j).val else 0) (fun j hj=>by
    by_cases h2:j<ct
    ·rw[if_pos h2,if_pos (show j<ct+0 from h2),show eqR xx yy ct j=ppw xx j from if_pos h2]
    ·rw[if_neg h2,if_neg (show ¬j<ct+0 from h2)])]at rR
   go_step
   refine rp ?_;refine p_v (.bool false) (lt_f ct ct) (pw_nil ?_);simp only[pv]
   iterate 9 go_step
   refine rp ?_;refine p_m ?_;refine p_v (.int .i64 0) (fun _=>rfl) (pw_nil ?_);simp only[pv]
   go_wp2_with fail
   go_loopg [13,35] e (fun x s13 s35 wr=> ∃k:Nat,k+x=e/\s35= .int .i64 k/\Row wr g7 (shC (I:Nat) Y) 46/\Row wr g9 (natC 0) 43/\Row wr gR (nsC (ct+e) (fun j=>if j<ct+k then(eqR xx yy ct (j)).val else 0)) 43/\Below w.heap.size w wr)
   case atStart=>exact⟨0,by omega,rfl,r7,r9,rR,sb⟩
   case round=>
    clear r7 r9 rR sb
    obtain⟨k,hk,rfl,r7,r9,rR,sb⟩:=hrel
    cases gk with
    |succ x=>
     have hlt:k<e:=by omega
     have hval:eqR xx yy ct (ct+k)=0-ppw xx k*yy:=(if_neg (by omega)).trans (by rw[Nat.add_sub_cancel_left])
     have hpt:=nsC_part (ct+e) (fun j=>if j<ct+k then(eqR xx yy ct j).val else 0) k (by omega) (0+k*4) (by omega)
     rw[if_pos (show k<ct+k by omega),show eqR xx yy ct k=ppw xx k from if_pos (by omega)]at hpt
     have hput:=nsC_put (ct+e) (fun j=>if j<ct+k then(eqR xx yy ct j).val else 0) (fun j=>if j<ct+(k+1)then(eqR xx yy ct j).val else 0) (ct+k) (by omega) (0+(ct+k)*4) (by omega) (eqR xx yy ct (ct+k)).val (fun j hj=>by
      by_cases hjk:j=ct+k
      ·subst hjk
       rw[if_pos (by omega),if_pos rfl]
      ·rw[if_neg hjk]
       by_cases h2:j<ct+k
       ·rw[if_pos h2,if_pos (by omega)]
       ·rw[if_neg h2,if_neg (by omega)])
     rw[hval]at hput
     have hm2:=hmy (ppw xx k)
     have hs2:=hsu (ppw xx k*yy)
     go_step
     refine rp ?_;refine p_v (.bool true) (lt_t k e) (pw_nil ?_);simp only[pv]
     iterate 10 go_step
     refine rp ?_;refine p_m ?_;refine p_a (pw_nil ?_);simp only[pv]
     iterate 2 go_step
     apply wp_region_mix (by kernel_rfl) [(gR,43,(nsC (ct+e) (fun j=>if j<ct+k then(eqR xx yy ct (j)).val else 0)))] [_,_,_,_,_,_,_,_,_,_,_,_,_,_,_,_,_] ⟨rR,trivial⟩ (by simp<;>omega)
     ·intro p;refine m_m ?_;refine m_m ?_;refine m_m ?_;simp only[pv];refine mx_val (.int .i64 ((ct+k:Nat):Int)) (x_a ct k) ?_;refine m_m ?_;simp only[pv];refine mx_val (.agg (natC 0)) (exec_build0 _ rfl _ built_nat) ?_;refine m_m ?_;refine m_m ?_;refine m_m ?_;simp only[pv];refine mx_val (.pointer (some ⟨gR,0+k*4,none⟩)) ((exec_index_s 23 _ _ rfl gR 0 (ct+e) (ct+e) rfl (k) rfl (by omega) _ Tryz.underlying23 4 size_nat4)) ?_;simp only[pv];refine mx_loadmT 0 43 _ rfl (0+k*4) rfl rfl (natC (ppw xx k).val) hpt _ Tryz.underlying43 rfl size_nat ?_;simp only[pv];refine mx_val (.pointer (some ⟨g7,0+1,none⟩)) (exec_field 46 _ 1 rfl g7 (0) rfl _ Tryz.underlying46 _ rfl 3 Tryz.sizeOf43) ?_;simp only[pv];refine mx_loadm 43 _ rfl _ (0+1) rfl r7 (by simp<;>omega) (natC Y) (sh_y _ _) _ Tryz.underlying43 rfl size_nat ?_;simp only[pv]
      refine m_k 53 Tryz.func53 #[.pointer (some ⟨g,0,none⟩),.agg (natC (ppw xx k).val),.agg (natC Y)] (fun w' hk=>hm2 w' (sb.trans (hk.below w.heap.size sb.size (by simp<;>omega)))) ?_
      simp only[pv]
      refine m_k 55 Tryz.func55 #[.pointer (some ⟨g,0,none⟩),.agg (natC 0),.agg (natC (ppw xx k*yy).val)] (fun w' hk=>hs2 w' (sb.trans (hk.below w.heap.size sb.size (by simp<;>omega)))) ?_
      simp only[pv];refine mx_val (.pointer (some ⟨gR,0+(ct+k)*4,none⟩)) ((exec_index_s 23 _ _ rfl gR 0 (ct+e) (ct+e) rfl (ct+k) rfl (by omega) _ Tryz.underlying23 4 size_nat4)) ?_;simp only[pv];refine mx_putm 0 43 _ _ rfl (0+(ct+k)*4) rfl rfl (natC (0-ppw xx k*yy).val) rfl (by exact size_nat) (by rw[nsC_size,natC_size];omega) (natC_one _) (nsC (ct+e) (fun j=>if j<ct+(k+1)then(eqR xx yy ct (j)).val else 0)) hput ?_;simp only[Act.put];refine mx_end ?_;intro w2 hkw hrw hnew hdis
      replace rR:Row w2 gR (nsC (ct+e) (fun j=>if j<ct+(k+1)then(eqR xx yy ct (j)).val else 0)) 43:=hrw 0 (43,(nsC (ct+e) (fun j=>if j<ct+(k+1)then(eqR xx yy ct (j)).val else 0))) rfl
      replace r7:=hkw.ro r7;replace r9:=hkw.ro r9;replace sb:=kk sb hkw;clear hkw hrw hnew hdis hput hpt hm2 hs2 hval
      iterate 2 go_step
      refine rp ?_;refine p_v (.int .i64 ((k+1:Nat):Int)) (x_a k 1) ?_;refine p_m (pw_nil ?_);simp only[pv]
      go_wp2
      go_roundg x
      case measure=>omega
      case rel=>exact⟨k+1,by omega,rfl,r7,r9,rR,sb⟩
     ·kernel_rfl
    |zero=>
     obtain rfl:k=e:=by omega
     clear hk hsu
     rw[nsC_congr (ct+k) _ (fun j=>(eqR xx yy ct j).val) (fun j hj=>if_pos hj)]at rR
     have hpt:=nsC_part (ct+k) (fun j=>(eqR xx yy ct j).val) k (by omega) (0+k*4) (by omega)
     rw[show eqR xx yy ct k=ppw xx k from if_pos (by omega)]at hpt
     have hm2:=hmy (ppw xx k)
     go_step
     refine rp ?_;refine p_v (.bool false) (lt_f k k) (pw_nil ?_);simp only[pv]
     iterate 8 go_step
     apply wp_region_mix (by kernel_rfl) [(g9,43,natC 0)] [_,_,_,_,_,_,_,_,_,_,_] ⟨r9,trivial⟩ (by simp<;>omega)
     ·intro p;refine m_m ?_;refine m_m ?_;refine m_m ?_;refine m_m ?_;simp only[pv];refine mx_val (.pointer (some ⟨gR,0+k*4,none⟩)) ((exec_index_s 23 _ _ rfl gR 0 (ct+k) (ct+k) rfl (k) rfl (by omega) _ Tryz.underlying23 4 size_nat4)) ?_;simp only[pv];refine mx_loadm 43 _ rfl _ (0+k*4) rfl rR (by simp<;>omega) (natC (ppw xx k).val) hpt _ Tryz.underlying43 rfl size_nat ?_;simp only[pv];refine mx_val (.pointer (some ⟨g7,0+1,none⟩)) (exec_field 46 _ 1 rfl g7 (0) rfl _ Tryz.underlying46 _ rfl 3 Tryz.sizeOf43) ?_;simp only[pv];refine mx_loadm 43 _ rfl _ (0+1) rfl r7 (by simp<;>omega) (natC Y) (sh_y _ _) _ Tryz.underlying43 rfl size_nat ?_;simp only[pv]
      refine m_k 53 Tryz.func53 #[.pointer (some ⟨g,0,none⟩),.agg (natC (ppw xx k).val),.agg (natC Y)] (fun w' hk=>hm2 w' (sb.trans (hk.below w.heap.size sb.size (by simp<;>omega)))) ?_
      refine m_a ?_;simp only[pv];refine mx_put 0 43 _ _ rfl rfl rfl (natC (ppw xx k*yy).val) rfl (by exact size_nat) (by simp only[natC_size]) (natC_one _) ?_;simp only[Act.put];refine mx_end ?_;intro w2 hkw hrw hnew hdis
      have zr9:Row w2 (g9) (natC (ppw xx k*yy).val) 43:=hrw 0 (43,natC (ppw xx k*yy).val) rfl
      replace rR:=hkw.ro rR;replace sb:=kk sb hkw;clear hkw hrw hnew hdis r9
      have r9:=zr9
      clear zr9
      go_wp2
      exact ret_val_row rfl _ rfl _ rfl r9 4 _ Tryz.underlying43 (by exact size_nat) rfl ⟨gR,rfl,bR,rR,sb⟩
     ·kernel_rfl
theorem ldiv_any (d e gX cv base:Nat)(av:Option Addr)(X:Nat->Fin Q)(q:FdQ Q)(hde:d+e<=100)(rX:Row w gX (nsC (d+e+1+e) (fun k=>(X k).val)) 43)(hO:OwnN w base (.slice av (e+1) cv) (e+1) (eqE X (d+e+1) e))(h:GrpAt w g gr gf P Q G):
  Calls Tryz.prog 68 #[.pointer (some ⟨g,0,none⟩),.slice (some ⟨gX,0,none⟩) (d+e+1) (d+e+1+e),.slice av (e+1) cv] w fun e' w'=> ∃vq vr,∃Lq Lr:List (Fin Q),e'= .returned (.tuple #[vq,vr,.int .i64 0])/\PlAt w' vq Lq/\PlAt w' vr Lr/\ptrim Lq=Lq/\ptrim Lr=Lr/\Lr.length<(ptrim (fl (e+1) (eqE X (d+e+1) e):List (Fin Q))).length/\Lq.length<=(fl (d+e+1) (fun k=>(X k).val):List (Fin Q)).length/\Lr.length<=(fl (d+e+1) (fun k=>(X k).val):List (Fin Q)).length/\(∀i,pco (pmul Lq (ptrim (fl (e+1) (eqE X (d+e+1) e):List (Fin Q)))) i+pco Lr i=pco (fl (d+e+1) (fun k=>(X k).val):List (Fin Q)) i)/\Below w.heap.size w w':=by
 obtain⟨_,gO,cO,hnO⟩:=ownN_nats hO (fun i _=>show eqE X (d+e+1) e i<2^256 from(by unfold eqE;split;exact Nat.lt_trans (Fin.isLt _) q.m;decide))
 exact divQ (.slice (some ⟨gX,0,none⟩) (d+e+1) (d+e+1+e)) (.slice av (e+1) cv) (fl (d+e+1) (fun k=>(X k).val):List (Fin Q)) (fl (e+1) (eqE X (d+e+1) e):List (Fin Q)) q h ⟨_,_,_,_,gX,0,_,_,rfl,by omega,(nats_row rX (fun k _=>Nat.lt_trans (Fin.isLt _) q.m)).take (by omega),rfl⟩ ⟨_,_,_,_,gO,0,cO,_,rfl,by omega,hnO,rfl⟩ (eq_trim q.two X (d+e+1) e)
set_option maxRecDepth 100000 in
set_option maxHeartbeats 2000000 in
theorem lik_any (n c d e:Nat)(ab:Option Addr)(I Y:Nat->Nat)(gb ob:Nat)(bcs:Array Value)(tb:TypeId)(q:FdQ Q)(hn:n<=7)(hde:d+1+2*e<=n)(hI: ∀k,k<n->I k<1000)(hY: ∀k,k<n->Y k<2^256)(hdd: ∀i j,i<n->j<n->i≠j->(fi (I i):Fin Q)≠fi (I j))(hna:ElsAt 5 w ab n (fun k=>shC ((I k:Nat):Int) (Y k)) gb ob bcs tb)(h:GrpAt w g gr gf P Q G)(f:List (Fin Q))(hf:f.length<=d+1)(hfe:poff (fun i=>(fi (I i):Fin Q)) (fun i=>(fi (Y i):Fin Q)) n f<=e):
  Calls Tryz.prog 31 #[.pointer (some ⟨g,0,none⟩),.int .i64 d,.int .i64 e,.slice ab n c] w fun e' w'=> ∃vf,e'= .returned (.tuple #[vf,.int .i64 0])/\PlAt w' vf (ptrim f)/\Below w.heap.size w w':=by
 obtain⟨ie,hie,hze,hsz,hby⟩:=info_nat'
 obtain⟨is',his,hzs,hszs,hbys⟩:=info_sly
 have hq1:1<Q:=q.two
 have hz:=hze
 have hs1: ¬1*ie.size>2^24:=by rw[hsz];decide
 have hs2: ¬1*ie.size=0:=by rw[hsz];decide
 have hl1:=fun A=>lit_one A ie.size hsz
 have heq:=fun k (hk:k<n) w' (hb:Below w.heap.size w w')=>eqn_any (I k) (Y k) (d+e+1) e q (hI k hk) (hY k hk) (by omega) (by omega) (h.below hb)
 have hso:=fun w' (hb:Below w.heap.size w w') g24 g27 R base (r24:Row w' g24 (vsC n (fun j=>.slice (some ⟨R j,0,none⟩) (d+e+1+e) (d+e+1+e))) 23) (r27:Row w' g27 (nsC n (fun j=>(ppw (fi (I j):Fin Q) e*fi (Y j)).val)) 43) (hF:FamAt w' base (d+e+1+e) R (fun i j=>(eqR (fi (I i):Fin Q) (fi (Y i)) (d+e+1) j).val) n)=>solve_any (some ⟨g24,0,none⟩) (some ⟨g27,0,none⟩) n n n (d+e+1+e) (fun j=>.slice (some ⟨R j,0,none⟩) (d+e+1+e) (d+e+1+e)) (fun i j=>(eqR (fi (I i):Fin Q) (fi (Y i)) (d+e+1) j).val) (fun j=>(ppw (fi (I j):Fin Q) e*fi (Y j)).val) g24 0 _ _ g27 0 _ _ q (by omega) (by omega) (by omega) (by omega) (vs_all r24) (fun i hi=>⟨_,_,_,_,_,_,rfl,nats_row (hF.row i hi) (fun k _=>Nat.lt_trans (Fin.isLt _) q.m)⟩) (nats_row r27 (fun k _=>Nat.lt_trans (Fin.isLt _) q.m)) (h.below hb)
 simp only[mxJ_eqM (fun i=>(fi (I i):Fin Q)) (fun i=>(fi (Y i):Fin Q))]at hso
 have hdi:=fun w' (hb:Below w.heap.size w w') (gX cv base:Nat) (av:Option Addr) (X:Nat->Fin Q) (rX:Row w' gX (nsC (d+e+1+e) (fun k=>(X k).val)) 43) (hO:OwnN w' base (.slice av (e+1) cv) (e+1) (eqE X (d+e+1) e))=>ldiv_any d e gX cv base av X q (by omega) rX hO (h.below hb)
 obtain⟨BV,hBV⟩: ∃BV:Nat->Nat,∀j,(ppw (fi (I j):Fin Q) e*fi (Y j)).val=BV j:=⟨_,fun _=>rfl⟩
 obtain⟨AV,hAV⟩: ∃AV:Nat->Nat->Nat,∀i j,(eqR (fi (I i):Fin Q) (fi (Y i)) (d+e+1) j).val=AV i j:=⟨_,fun _ _=>rfl⟩
 simp only[hAV,hBV]at heq hso
 clear hAV hBV
 have HX:Hid (∃X,Sol (eqM (fun i=>(fi (I i):Fin Q)) (fun i=>(fi (Y i):Fin Q)) (d+e+1) e) n (d+e+1+e) X):=eq_some _ _ n d e f hf hfe
 have HE:Hid (∀X,Sol (eqM (fun i=>(fi (I i):Fin Q)) (fun i=>(fi (Y i):Fin Q)) (d+e+1) e) n (d+e+1+e) X-> ∀k,pco (fl (d+e+1) (fun k=>(X k).val):List (Fin Q)) k=pco (pcv f (fl (e+1) (eqE X (d+e+1) e))) k):=fun X hX k=>eq_is q.pr _ _ X n d e hdd (by omega) f hf hfe hX k
 have HB:Hid (ElsAt 5 w ab n (fun k=>shC ((I k:Nat):Int) (Y k)) gb ob bcs tb):=hna
 clear hna hI hY hdd hfe hf h
 go_enter Tryz.func31,Tryz.ntmps31
 have sb:=sbmk w
 iterate 2 go_step
 refine rp ?_;refine p_v (.slice none 0 0) ((fun _=>rfl)) ?_;refine p_v (.int .i64 0) (fun _=>rfl) (pw_nil ?_);simp only[pv]
 iterate 3 go_step
 refine rp ?_;refine p_m ?_;refine p_m ?_;simp only[pv];refine p_v (.int .i64 ((d+e:Nat):Int)) (x_a d e) ?_;simp only[pv];refine p_v (.int .i64 ((d+e+1:Nat):Int)) (x_a (d+e) 1) ?_;refine p_a (pw_nil ?_);simp only[pv]
 iterate 3 go_step
 apply wp_region_mix (by kernel_rfl) [] [_,_,_,_,_,_,_,_] trivial List.nodup_nil
 ·intro p;refine m_m ?_;simp only[pv];refine mx_val (.int .i64 n) (n_l ab n c sl_shs) ?_;simp only[pv];refine mx_make 22 23 _ _ rfl is' _ Tryz.underlying22 his hzs n rfl rfl (by rw[hszs];omega) (by rw[hbys];omega) (by omega) ?_;refine m_m ?_;simp only[pv];refine mx_val (.int .i64 n) (n_l ab n c sl_shs) ?_;simp only[pv];refine mx_make 23 43 _ _ rfl ie _ Tryz.underlying23 hie hze n rfl rfl (by rw[hsz];omega) (by rw[hby];omega) (by omega) ?_;simp only[pv];refine mx_asgP 2 (fun g=>.slice (some ⟨g,0,none⟩) n n) (.inl rfl) (by omega) rfl ?_;simp only[pv];refine mx_asgP 5 (fun g=>.slice (some ⟨g,0,none⟩) n n) (.inl rfl) (by omega) rfl ?_;simp only[pv];refine mx_end ?_;intro w2 hkw hrw hnew hdis
  have n24:=hnew 2 rfl
  have n27:=hnew 5 rfl
  have zr24:Row w2 (p 2) (madeCells (Value.slice none 0 0).cells (n*is'.size)) 23:=hrw 5 (23,madeCells (Value.slice none 0 0).cells (n*is'.size)) rfl
  have zr27:Row w2 (p 5) (madeCells (Value.agg #[.int .u64 0,.int .u64 0,.int .u64 0,.int .u64 0]).cells (n*ie.size)) 43:=hrw 11 (43,madeCells (Value.agg #[.int .u64 0,.int .u64 0,.int .u64 0,.int .u64 0]).cells (n*ie.size)) rfl
  have d24x27:=hdis 2 5 (by omega) rfl rfl
  have b24:=Nat.le_trans sb.size n24
  have b27:=Nat.le_trans sb.size n27
  replace sb:=kk sb hkw;clear hkw hrw hnew hdis n24 n27
  generalize p 2=g24 at*
  generalize p 5=g27 at*
  have r24:=zr24
  clear zr24
  have r27:=zr27
  clear zr27
  rw[hszs,made_vs n _ rfl]at r24
  rw[hsz,made_nats]at r27
  iterate 4 go_step
  refine rp ?_;refine p_m ?_;simp only[pv];refine p_v (.int .i64 n) (n_l ab n c sl_shs) ?_;refine p_v (.int .i64 0) (fun _=>rfl) (pw_nil ?_);simp only[pv]
  go_wp2_with fail
  go_loopg [13,30] n (fun x s13 s30 wr=> ∃k:Nat,∃R:Nat->Nat,k+x=n/\s30= .int .i64 k/\Row wr g24 (vsC n (fun j=>if j<k then .slice (some ⟨R j,0,none⟩) (d+e+1+e) (d+e+1+e)else .slice none 0 0)) 23/\Row wr g27 (nsC n (fun j=>if j<k then BV j else 0)) 43/\FamAt wr w.heap.size (d+e+1+e) R (fun i j=>AV i j) k/\(∀j,j<k->R j≠g24)/\(∀j,j<k->R j≠g27)/\Below w.heap.size w wr)
  case atStart=>exact⟨0,fun _=>0,by omega,rfl,by rw[vsC_congr (T:=fun _=>.slice none 0 0) (fun j _=>if_neg (by omega))];exact r24,by rw[nsC_congr n _ (fun _=>0) (fun j _=>if_neg (by omega))];exact r27,fam_nil _ _ _ _ _,fun j hj=>absurd hj (by omega),fun j hj=>absurd hj (by omega),sb⟩
  case round=>
   clear r24 r27 sb
   obtain⟨k,R,hk,rfl,r24,r27,hF,hFx24,hFx27,sb⟩:=hrel
   cases gk with
   |succ x=>
    have hlt:k<n:=by omega
    have hpW: ∀gN,(vsC n (fun j=>if j<k then .slice (some ⟨R j,0,none⟩) (d+e+1+e) (d+e+1+e)else .slice none 0 0)).setIfInBounds (0+k*1) (.slice (some ⟨gN,0,none⟩) (d+e+1+e) (d+e+1+e))=(vsC n (fun j=>if j<k+1 then .slice (some ⟨upR R k gN j,0,none⟩) (d+e+1+e) (d+e+1+e)else .slice none 0 0)):=fun gN=>by
     rw[show 0+k*1=k by omega]
     refine vsC_put hlt ?_ (fun j hj hne=>?_)
     ·show(ite _ _ _:Value)=_
      rw[if_pos (by omega),upR_at]
     ·show(ite _ _ _:Value)=ite _ _ _
      by_cases h2:j<k
      ·rw[if_pos h2,if_pos (by omega),upR_lt R h2]
      ·rw[if_neg h2,if_neg (by omega)]
    have hpB:=nsC_put n (fun j=>if j<k then BV j else 0) (fun j=>if j<k+1 then BV j else 0) k hlt (0+k*4) (by omega) (BV k) (fun j hj=>by
     by_cases hjk:j=k
     ·subst hjk
      rw[if_pos (by omega),if_pos rfl]
     ·rw[if_neg hjk]
      by_cases h2:j<k
      ·rw[if_pos h2,if_pos (by omega)]
      ·rw[if_neg h2,if_neg (by omega)])
    have heq2:=heq k hlt
    clear heq hso hdi
    obtain h0|⟨rfl,rB0,hbt⟩:=HB.out.at'
    ·exact absurd h0 (by omega)
    have hbt':=hbt k hlt
    clear hbt rB0
    go_step
    refine rp ?_;refine p_v (.bool true) (lt_t k n) (pw_nil ?_);simp only[pv]
    iterate 10 go_step
    refine rp ?_;refine p_m ?_;refine p_a (pw_nil ?_);simp only[pv]
    obtain h0|⟨_,rB,_⟩:=(HB.out.below sb).at'
    ·exact absurd h0 (by omega)
    iterate 2 go_step
    refine rp ?_;refine p_m ?_;refine p_m ?_;refine p_m ?_;refine p_m ?_;refine p_m ?_;simp only[pv];refine p_m ?_;refine p_m ?_;refine p_m ?_;refine p_m ?_;simp only[pv];refine p_x k hlt Tryz.underlying47 size_sh5 ?_;simp only[pv];refine pw_loadm (by rfl) 46 _ rfl _ (ob+k*5) rfl rB (shC ((I k:Nat):Int) (Y k)) hbt' _ Tryz.underlying46 rfl size_sh ?_;simp only[pv];refine p_f 67 Tryz.func67 #[.pointer (some ⟨g,0,none⟩),.int .i64 ((d+e+1:Nat):Int),.int .i64 e,.agg (shC ((I k:Nat):Int) (Y k))] (heq2 _ sb) ?_
    rintro _ z6011 ⟨gN,rfl,nN,rN,hb⟩
    refine⟨_,rfl,?_⟩
    simp only[pv]
    have d24xN:=l_l r24.lt nN
    have d27xN:=l_l r27.lt nN
    have hFxN:=fun j hj=>Nat.ne_of_lt (Nat.lt_of_lt_of_le (hF.lt (j:=j) hj) nN)
    have bN:=Nat.le_trans sb.size nN
    clear nN
    have k:=Kept.ofBelow hb
    clear hb;replace r24:=k.ro r24;replace r27:=k.ro r27;replace hF:=hF.below k.nil;replace sb:=kk sb k;clear k;refine p_m ?_;refine p_e ?_;refine p_e ?_;simp only[pv];refine p_x k hlt Tryz.underlying22 Tryz.sizeOf23 ?_;simp only[pv];refine pw_putv (by rfl) 23 _ _ rfl _ (0+k*1) rfl r24 (.slice (some ⟨gN,0,none⟩) (d+e+1+e) (d+e+1+e)) rfl rfl rfl size1tapiat (by rw[vsC_size];omega) ((vsC n (fun j=>if j<k+1 then .slice (some ⟨upR R k gN j,0,none⟩) (d+e+1+e) (d+e+1+e)else .slice none 0 0))) (hpW gN) ?_;clear r24;intro z6016 r24 k;simp only[Act.put];replace r27:=k.ro r27
    replace hF:=hF.on k (fun j hj=>by simpa using hFx24 j hj)
    replace rN:=k.ro rN;replace sb:=kk sb k;clear k;refine p_x k hlt Tryz.underlying23 size_nat4 ?_;simp only[pv];refine pw_putm (by rfl) 43 _ _ rfl _ (0+k*4) rfl r27 (natC (BV k)) rfl (by exact size_nat) (by rw[nsC_size,natC_size];omega) (natC_one _) ((nsC n (fun j=>if j<k+1 then BV j else 0))) hpB ?_;clear r27;intro z6018 r27 k;simp only[Act.put];replace r24:=k.ro r24
    replace hF:=hF.on k (fun j hj=>by simpa using hFx27 j hj)
    replace rN:=k.ro rN;replace sb:=kk sb k;clear k;refine pw_nil ?_;clear rB heq2
    have hF2:=hF.add hFxN bN rN
    have h3N: ∀j,j<k+1->upR R k gN j≠g24:=fun j hj=>by
     by_cases e:j=k
     ·subst e;rw[upR_at];omega
     ·rw[upR_lt R (show j<k by omega)];exact hFx24 j (by omega)
    have h5N: ∀j,j<k+1->upR R k gN j≠g27:=fun j hj=>by
     by_cases e:j=k
     ·subst e;rw[upR_at];omega
     ·rw[upR_lt R (show j<k by omega)];exact hFx27 j (by omega)
    clear hF hFx24 hFx27 hFxN rN hpW hpB
    generalize upR R k gN=R2 at*
    iterate 2 go_step
    refine rp ?_;refine p_v (.int .i64 ((k+1:Nat):Int)) (x_a k 1) ?_;refine p_m (pw_nil ?_);simp only[pv]
    go_wp2
    go_roundg x
    case measure=>omega
    case rel=>exact⟨k+1,R2,by omega,rfl,r24,r27,hF2,h3N,h5N,sb⟩
   |zero=>
    obtain rfl:k=n:=by omega
    clear hk heq
    rw[vsC_congr (T:=fun j=>.slice (some ⟨R j,0,none⟩) (d+e+1+e) (d+e+1+e)) (fun j hj=>if_pos hj)]at r24
    rw[nsC_congr k _ (fun j=>BV j) (fun j hj=>if_pos hj)]at r27
    go_step
    refine rp ?_;refine p_v (.bool false) (lt_f k k) (pw_nil ?_);simp only[pv]
    iterate 8 go_step
    refine rp ?_;refine p_m ?_;refine p_m ?_;refine p_m ?_;simp only[pv];refine p_f 6 Tryz.func6 #[.pointer (some ⟨g,0,none⟩),.slice (some ⟨g24,0,none⟩) k k,.slice (some ⟨g27,0,none⟩) k k] (hso _ sb g24 g27 R _ r24 r27 hF) ?_
    rintro _ z8003 ⟨v,z,rfl,hR,hb⟩
    refine⟨_,rfl,?_⟩
    simp only[pv]
    have k:=Kept.ofBelow hb
    clear hb;replace r24:=k.ro r24;replace r27:=k.ro r27;replace hF:=hF.below k.nil;replace sb:=kk sb k;clear k;refine p_m ?_;refine p_e ?_;refine p_e ?_;refine p_a ?_;refine p_a (pw_nil ?_);simp only[pv];clear hso
    rcases hR with ⟨rfl,rfl,hno⟩|⟨rfl,gX,X,rfl,nX,rX,hX⟩
    ·exact absurd HX.out hno
    have hE:=HE.out X hX
    have hE2:=fun Lq Lr h1 h2 h3 h4=>(div_exact q.pr f _ _ Lq Lr (eq_trim hq1 X (d+e+1) e) h1 h2 h3 h4 hE).1
    clear hE HE HX hX r24 r27 hF hFx24 hFx27
    iterate 4 go_step
    refine rp ?_;refine p_m ?_;simp only[pv];refine p_v (.bool false) (exec_neq_k .i64 _ _ _ _ rfl 0 0 rfl rfl false rfl) (pw_nil ?_);simp only[pv]
    have hE1:eqE X (d+e+1) e e=1:=if_neg (Nat.lt_irrefl e)
    iterate 7 go_step
    refine wp_region_ewb (by kernel_rfl) [] [(0,false),(1,false),(2,false),(3,false),(4,false),(5,false),(6,false),(7,false),(8,true),(9,true),(10,true),(11,false),(12,false),(13,false),(14,false),(15,false),(16,false),(17,false)] ?_ (by kernel_rfl)
    have cb:=below_self sb
    refine e_m ?_;refine e_m ?_;refine e_m ?_;simp only[pv];refine e_v (.slice (some ⟨gX,0,none⟩) (d+e+1) (d+e+1+e)) (y_first _ _ _ rfl sl_natsX 4 size_eln _ (d+e+1+e) (d+e+1+e) (d+e+1) rfl rfl (by omega)) ?_;refine e_m ?_;refine e_m ?_;simp only[pv];refine e_v (.slice (some ⟨gX,rs4 (d+e+1+e) (d+e+1),none⟩) e e) ((fun w'=>(y_rests 23 _ _ rfl sl_natsX 4 size_eln gX 0 (d+e+1+e) (d+e+1+e) (d+e+1) rfl rfl (by omega) (Nat.le_refl _) w').trans (by rw[Nat.add_sub_cancel_left];rfl))) ?_;simp only[pv];refine e_v (.agg (natC 1)) (exec_buildv _ [(0,.const (.int .u64 1))] rfl [(0,.int .u64 1)] rfl (natC 1) built_one) ?_;simp only[pv];refine ew_litr (by rfl) 23 43 1 _ rfl (natC 1) ie _ Tryz.underlying23 hie hz hs1 hs2 [(0,.agg (natC 1))] rfl (hl1 1) ?_;intro wa8 hqb gA wb8 n0 rA hb
    refine⟨fun _=>below_on (below_on cb (Nat.le_refl _) hqb) (Nat.le_refl _) hb,?_⟩
    simp only[pv];replace rX:=rX.belowAll hqb;replace sb:=b_o sb hqb;replace cb:=b_o cb hqb;replace rX:=rX.belowAll hb;replace sb:=b_o sb hb;replace cb:=b_o cb hb;clear hqb hb n0;refine ew_appG (by rfl) _ _ rfl gX (rs4 (d+e+1+e) (d+e+1)) e (eqE X (d+e+1) e) rfl (by omega) (fun w2 hb j v hj=>cell_rest (rX.belowAll hb) (fun i hi=>if_pos hi) hj) gA 1 rfl (by rw[hE1];exact rA) ?_;intro wa9 hqb v1 wb9 hO hb
    obtain⟨av1,cv1,rfl⟩:=own_shape hO
    refine⟨fun _=>below_on (below_on cb (Nat.le_refl _) hqb) (Nat.le_refl _) hb,?_⟩
    simp only[pv];replace rX:=rX.belowAll hqb;replace rA:=rA.belowAll hqb;replace sb:=b_o sb hqb;replace cb:=b_o cb hqb;replace rX:=rX.belowAll hb;replace rA:=rA.belowAll hb;replace sb:=b_o sb hb;replace cb:=b_o cb hb;clear hqb hb;refine ew_callE (by rfl) 68 _ _ rfl Tryz.func68 (by kernel_rfl) #[.pointer (some ⟨g,0,none⟩),.slice (some ⟨gX,0,none⟩) (d+e+1) (d+e+1+e),.slice av1 (e+1) cv1] rfl ?_;intro wa10 hqb;replace rX:=rX.belowAll hqb;replace rA:=rA.belowAll hqb
    replace hO:=hO.on (Kept.ofBelow hqb) (own_ne0 _)
    replace sb:=b_o sb hqb;replace cb:=b_o cb hqb;clear hqb;refine(hdi _ sb gX cv1 _ av1 X rX hO).mono ?_
    rintro _ wb10 ⟨vq,vr,Lq,Lr,rfl,hpq,_,tq,tr,hlt,_,_,hdv,hb⟩
    refine⟨_,rfl,fun _=>below_on cb (Nat.le_refl _) hb,?_⟩
    simp only[pv];replace rX:=rX.belowAll hb;replace rA:=rA.belowAll hb
    replace hO:=hO.on (Kept.ofBelow hb) (own_ne0 _)
    replace sb:=b_o sb hb;replace cb:=b_o cb hb;clear hb;refine e_m ?_;refine ew_ext (by rfl) rfl rfl rfl ?_;refine ew_ext (by rfl) rfl rfl rfl ?_;refine ew_ext (by rfl) rfl rfl rfl ?_;refine ew_as (by rfl) rfl rfl ?_;simp only[pv];refine ew_as (by rfl) rfl rfl ?_;refine ew_as (by rfl) rfl rfl ?_;simp only[pv];refine ew_nil ?_;intro wz hqb;replace rX:=rX.belowAll hqb;replace rA:=rA.belowAll hqb
    replace hO:=hO.on (Kept.ofBelow hqb) (own_ne0 _)
    replace hpq:=hpq.below hqb;replace sb:=b_o sb hqb;clear hqb cb
    rw[hE2 Lq Lr tq tr hlt hdv]at hpq
    iterate 3 go_step
    refine rp ?_;refine p_m ?_;refine p_m ?_;refine p_a ?_;refine p_a (pw_nil ?_);simp only[pv]
    go_wp2
    go_ret2
    exact⟨vq,rfl,hpq,sb⟩
 ·kernel_rfl
end
end Go.Proofs.YtighhihgmkcabaaGreat
