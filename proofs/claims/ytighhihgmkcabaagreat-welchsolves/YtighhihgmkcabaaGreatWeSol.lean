import Derived.Test.YtighhihgmkcabaaGreatWeFun
import Derived.Test.YtighhihgmkcabaaGreatPZ
set_option maxRecDepth 100000
set_option maxHeartbeats 2000000
namespace Go.Proofs.YtighhihgmkcabaaGreat
open Go.RowKit
set_option linter.unusedVariables false
set_option linter.unusedSectionVars false
set_option linter.unusedSimpArgs false
theorem info_sly: ∃i,Tryz.prog.info? 23=some i/\i.zero=some (.slice none 0 0)/\i.size=1/\i.bytes=24:=by
 have h:(Tryz.prog.info? 23).map (fun i=>(i.zero,i.size,i.bytes))=some (some (.slice none 0 0),1,24):=by kernel_rfl
 cases hi:Tryz.prog.info? 23 with
 |none=>rw[hi]at h;cases h
 |some i=>
  rw[hi]at h
  simp only[Option.map_some,Option.some.injEq,Prod.mk.injEq]at h
  exact⟨i,rfl,h.1,h.2.1,h.2.2⟩
theorem size_ell (w:World):(sizeOf (Tryz.prog.elem 22)).run Tryz.prog w= .ok 1 w:=by
 rw[show Tryz.prog.elem 22=23 by kernel_rfl]
 exact Tryz.sizeOf23 w
theorem isC_congr (n:Nat){u u2:Nat->Nat}(h: ∀i,i<n->u i=u2 i):isC n u=isC n u2:=by
 apply Array.ext_getElem?
 intro i
 by_cases hi:i<n
 ·rw[isC_get n u i hi,isC_get n u2 i hi,h i hi]
 ·rw[Array.getElem?_eq_none (by rw[isC_size];omega),Array.getElem?_eq_none (by rw[isC_size];omega)]
theorem ownI_congr {w:World}{base:Nat}{v:Value}{n:Nat}{u u2:Nat->Nat}(h:OwnI w base v n u)(he: ∀i,i<n->u i=u2 i):OwnI w base v n u2:=by
 unfold OwnI
 rw[<-isC_congr n he]
 exact h
theorem fam_ne {w:World}{base N m g:Nat}{R:Nat->Nat}{X:Nat->Nat->Nat}{c:Array Value}{t:TypeId}(h:FamAt w base N R X m)(r:Row w g c t)(hs:c.size≠4*N): ∀j,j<m->R j≠g:=fun j hj e=>by
 have r2:=h.row j hj
 rw[e]at r2
 have h3:=r2.symm.trans r
 simp only[Option.some.injEq,Obj.cells.injEq]at h3
 exact hs (by rw[<-h3.1,nsC_size])
def swi (a b i:Nat):Nat:=if i=a then b else if i=b then a else i
theorem swi_lt {a b i m:Nat}(ha:a<m)(hb:b<m)(hi:i<m):swi a b i<m:=by
 unfold swi
 split
 ·exact hb
 ·split<;>assumption
theorem swi_inj {a b i j:Nat}(h:swi a b i=swi a b j):i=j:=by
 unfold swi at h
 repeat' split at h
 all_goals omega
theorem FamAt.swap {w:World}{base N m a b:Nat}{R:Nat->Nat}{X:Nat->Nat->Nat}(h:FamAt w base N R X m)(ha:a<m)(hb:b<m):FamAt w base N (fun i=>R (swi a b i)) (fun i=>X (swi a b i)) m:=
 ⟨fun j hj=>h.row _ (swi_lt ha hb hj),fun i j hi hj e=>swi_inj (h.dis _ _ (swi_lt ha hb hi) (swi_lt ha hb hj) e),fun j hj=>h.low _ (swi_lt ha hb hj)⟩
theorem FamAt.from {w:World}{base base' N m:Nat}{R:Nat->Nat}{X:Nat->Nat->Nat}(h:FamAt w base N R X m)(hb:base'<=base):FamAt w base' N R X m:=⟨h.row,h.dis,fun j hj=>Nat.le_trans hb (h.low j hj)⟩
theorem mSwp_sw {q:Nat}(A:Mx q)(a b i:Nat):mSwp A a b i=A (swi a b i):=by
 unfold mSwp swi
 split
 ·rfl
 ·split<;>rfl
section
variable {Q:Nat}[NeZero Q]{g gr gf P G:Nat}{w:World}
def mxJ (A:Nat->Nat->Nat)(b:Nat->Nat)(n:Nat):Mx Q:=fun i k=>if k=n then fi (b i)else fi (A i k)
theorem joined_any (ab ar:Option Addr)(m c cr n:Nat)(S:Nat->Value)(A:Nat->Nat->Nat)(b:Nat->Nat)(gb ob:Nat)(bcs:Array Value)(tb:TypeId)(ge oe:Nat)(ecs:Array Value)(te:TypeId)(q:FdQ Q)(hm:m<=16)(hn:n<=16)(hna:VsAt w ab m S gb ob bcs tb)(hS: ∀i,i<m->NrAt w (S i) n (A i))(hnr:NatsAt w ar m b ge oe ecs te)(h:GrpAt w g gr gf P Q G):
  Calls Tryz.prog 22 #[.pointer (some ⟨g,0,none⟩),.slice ab m c,.slice ar m cr] w fun e w'=> ∃gT R,e= .returned (.slice (some ⟨gT,0,none⟩) m m)/\w.heap.size<=gT/\Row w' gT (vsC m (fun j=>.slice (some ⟨R j,0,none⟩) (n+1) (n+1))) 23/\FamAt w' w.heap.size (n+1) R (fun i k=>(mxJ A b n i k:Fin Q).val) m/\(∀j,j<m->R j≠gT)/\Below w.heap.size w w':=by
 obtain⟨ie,hie,hze,hsz,hby⟩:=info_nat'
 obtain⟨is',his,hzs,hszs,hbys⟩:=info_sly
 have hcl:=fun(ai:Option Addr) (ci gi oi k:Nat) (bi:Array Value) (ti:TypeId) (hk:k<m) (hni:NatsAt w ai n (A k) gi oi bi ti) (g8 g9 g3 g5 j:Nat) (hj:j<n+1) (w2:World) (hb:Below w.heap.size w w2) (q9:Row w2 g9 #[.slice ai n ci] 23) (q3:Row w2 g3 #[.pointer (some ⟨g,0,none⟩)] 25) (q5:Row w2 g5 #[.slice ar m cr] 23) (q8:Row w2 g8 #[.int .i64 k] 3)=>
  (show Calls Tryz.prog 47 #[.int .i64 j,.pointer (some ⟨g9,0,none⟩),.pointer (some ⟨g3,0,none⟩),.pointer (some ⟨g5,0,none⟩),.pointer (some ⟨g8,0,none⟩)] w2 (Rt (.agg (natC (mxJ A b n k j:Fin Q).val)) w2)from by
   by_cases e:j=n
   ·subst e
    rw[show(mxJ A b j k j:Fin Q)=fi (b k)from if_pos rfl]
    exact jnd1_last ai ar j ci k m cr b g9 g3 g5 g8 ge oe ecs te q hk (by omega) q9 q3 q5 q8 (hnr.below hb) (h.below hb)
   ·rw[show(mxJ A b n k j:Fin Q)=fi (A k j)from if_neg e]
    exact jnd1_row ai _ _ n ci j (A k) g9 g3 gi oi bi ti q (by omega) (by omega) q9 q3 (hni.below hb) (h.below hb))
 have HB:Hid (VsAt w ab m S gb ob bcs tb):=hna
 have HS:Hid (∀i,i<m->NrAt w (S i) n (A i)):=hS
 clear hna hS hnr h
 go_enter Tryz.func22,Tryz.ntmps22
 have sb:=sbmk w
 iterate 2 go_step
 refine rp ?_;refine pw_box1 (by rfl) 25 _ rfl (.pointer (some ⟨g,0,none⟩)) rfl rfl ?_;intro g3 z0 n0 r3 k;simp only[pv];clear n0;replace sb:=kk sb k;clear k;refine pw_box1 (by rfl) 23 _ rfl (.slice ar m cr) rfl rfl ?_;intro g5 z1 n0 r5 k;simp only[pv]
 have d3x5:=l_l r3.lt n0
 clear n0;replace r3:=k.ro r3;replace sb:=kk sb k;clear k;refine p_v (.slice none 0 0) ((fun _=>rfl)) (pw_nil ?_);simp only[pv]
 iterate 3 go_step
 refine rp ?_;refine p_m ?_;simp only[pv];refine p_v (.int .i64 m) (n_l ab m c sl_ll) ?_;simp only[pv];refine pw_make (by rfl) 22 23 _ _ rfl is' _ Tryz.underlying22 his hzs m rfl rfl (by rw[hszs];omega) (by rw[hbys];omega) (by omega) ?_;intro gW z1002 n0 rW k;simp only[pv]
 have d3xW:=l_l r3.lt n0
 have d5xW:=l_l r5.lt n0
 have bW:=Nat.le_trans sb.size n0
 clear n0;replace r3:=k.ro r3;replace r5:=k.ro r5;replace sb:=kk sb k;clear k;refine p_a (pw_nil ?_);simp only[pv]
 rw[hszs,made_vs m _ rfl]at rW
 iterate 4 go_step
 refine rp ?_;refine p_m ?_;simp only[pv];refine p_v (.int .i64 m) (n_l ab m c sl_ll) ?_;refine p_v (.int .i64 0) (fun _=>rfl) (pw_nil ?_);simp only[pv]
 have h3W:g3≠gW:=by omega
 have h5W:g5≠gW:=by omega
 go_wp2_with fail
 go_loopg [8,9,15] m (fun x s8 s9 s15 wr=> ∃k:Nat,∃R:Nat->Nat,k+x=m/\s15= .int .i64 k/\Row wr g3 #[.pointer (some ⟨g,0,none⟩)] 25/\Row wr g5 #[.slice ar m cr] 23/\Row wr gW (vsC m (fun j=>if j<k then .slice (some ⟨R j,0,none⟩) (n+1) (n+1)else .slice none 0 0)) 23/\FamAt wr w.heap.size (n+1) R (fun i k=>(mxJ A b n i k:Fin Q).val) k/\(∀j,j<k->R j≠g3)/\(∀j,j<k->R j≠g5)/\(∀j,j<k->R j≠gW)/\Below w.heap.size w wr)
 case atStart=>exact⟨0,fun _=>0,by omega,rfl,r3,r5,by rw[vsC_congr (T:=fun _=>.slice none 0 0) (fun j _=>if_neg (by omega))];exact rW,fam_nil _ _ _ _ _,fun j hj=>absurd hj (by omega),fun j hj=>absurd hj (by omega),fun j hj=>absurd hj (by omega),sb⟩
 case round=>
  clear r3 r5 rW sb
  obtain⟨k,R,hk,rfl,r3,r5,rW,hW,hWx3,hWx5,hWxW,sb⟩:=hrel
  cases gk with
  |zero=>
   obtain rfl:k=m:=by omega
   clear hk hcl
   rw[vsC_congr (T:=fun j=>.slice (some ⟨R j,0,none⟩) (n+1) (n+1)) (fun j hj=>if_pos hj)]at rW
   go_step
   refine rp ?_;refine p_v (.bool false) (lt_f k k) (pw_nil ?_);simp only[pv]
   iterate 8 go_step
   refine rp ?_;refine p_m ?_;refine p_a (pw_nil ?_);simp only[pv]
   go_wp2
   go_ret
   exact⟨gW,R,rfl,bW,rW,hW,hWxW,sb⟩
  |succ x=>
   have hlt:k<m:=by omega
   have hpW: ∀gN,(vsC m (fun j=>if j<k then .slice (some ⟨R j,0,none⟩) (n+1) (n+1)else .slice none 0 0)).setIfInBounds (0+k*1) (.slice (some ⟨gN,0,none⟩) (n+1) (n+1))=(vsC m (fun j=>if j<k+1 then .slice (some ⟨upR R k gN j,0,none⟩) (n+1) (n+1)else .slice none 0 0)):=fun gN=>by
    rw[show 0+k*1=k by omega]
    refine vsC_put hlt ?_ (fun j hj hne=>?_)
    ·show(ite _ _ _:Value)=_
     rw[if_pos (by omega),upR_at]
    ·show(ite _ _ _:Value)=ite _ _ _
     by_cases h2:j<k
     ·rw[if_pos h2,if_pos (by omega),upR_lt R h2]
     ·rw[if_neg h2,if_neg (by omega)]
   obtain⟨ai,ci,gi,oi,bi,ti,hSk,hni⟩:=HS.out k hlt
   have hcl2:=hcl ai ci gi oi k bi ti hlt hni
   clear hcl
   obtain h0|⟨rfl,rB,hbt⟩:=(HB.out.below sb).at'
   ·exact absurd h0 (by omega)
   have hbt':=hbt k hlt
   rw[hSk]at hbt'
   clear hbt
   go_step
   refine rp ?_;refine p_v (.bool true) (lt_t k m) (pw_nil ?_);simp only[pv]
   iterate 10 go_step
   refine rp ?_;refine p_m ?_;simp only[pv];refine pw_newv (by rfl) 3 rfl (.int .i64 0) z_int rfl ?_;intro g8 z4001 n0 r8 k;simp only[pv]
   have d3x8:=l_l r3.lt n0
   have d5x8:=l_l r5.lt n0
   have dWx8:=l_l rW.lt n0
   have hWx8:=fun j hj=>Nat.ne_of_lt (Nat.lt_of_lt_of_le (hW.lt (j:=j) hj) n0)
   have b8:=Nat.le_trans sb.size n0
   clear n0;replace r3:=k.ro r3;replace r5:=k.ro r5;replace rW:=k.ro rW;replace hW:=hW.below k.nil;replace sb:=kk sb k;clear k;refine pw_putv (by rfl) 3 _ _ rfl _ (0) rfl r8 (.int .i64 k) rfl rfl rfl size1tint (by exact Nat.one_pos) (#[.int .i64 k]) rfl ?_;clear r8;intro z4002 r8 k;simp only[Act.put];replace r3:=k.ro r3;replace r5:=k.ro r5;replace rW:=k.ro rW
   replace hW:=hW.on k (fun j hj=>by simpa using hWx8 j hj)
   replace sb:=kk sb k;clear k;refine pw_nil ?_;clear rB
   obtain h0|⟨_,rB,_⟩:=(HB.out.below sb).at'
   ·exact absurd h0 (by omega)
   iterate 3 go_step
   refine rp ?_;refine p_m ?_;simp only[pv];refine p_d 0 r8.r (.int .i64 k) rfl Tryz.isAgg3 ?_;simp only[pv];refine p_x k hlt Tryz.underlying22 Tryz.sizeOf23 ?_;simp only[pv];refine p_d (ob+k*1) rB (.slice ai n ci) hbt' Tryz.isAgg23 ?_;simp only[pv];refine pw_newv (by rfl) 23 rfl (.slice none 0 0) z_sl rfl ?_;intro g9 z5004 n0 r9 k;simp only[pv]
   have d3x9:=l_l r3.lt n0
   have d5x9:=l_l r5.lt n0
   have dWx9:=l_l rW.lt n0
   have hWx9:=fun j hj=>Nat.ne_of_lt (Nat.lt_of_lt_of_le (hW.lt (j:=j) hj) n0)
   have d8x9:=l_l r8.lt n0
   have b9:=Nat.le_trans sb.size n0
   clear n0;replace r3:=k.ro r3;replace r5:=k.ro r5;replace rW:=k.ro rW;replace hW:=hW.below k.nil;replace r8:=k.ro r8;replace sb:=kk sb k;clear k;refine pw_putv (by rfl) 23 _ _ rfl _ (0) rfl r9 (.slice ai n ci) rfl rfl rfl size1tapiat (by exact Nat.one_pos) (#[.slice ai n ci]) rfl ?_;clear r9;intro z5005 r9 k;simp only[Act.put];replace r3:=k.ro r3;replace r5:=k.ro r5;replace rW:=k.ro rW
   replace hW:=hW.on k (fun j hj=>by simpa using hWx9 j hj)
   replace r8:=k.ro r8;replace sb:=kk sb k;clear k;refine pw_nil ?_;clear rB hbt'
   iterate 3 go_step
   refine wp_region_ewb (by kernel_rfl) [7] [(0,false),(1,false),(2,false),(3,false),(4,false),(5,true),(6,false),(7,true)] ?_ (by kernel_rfl)
   have or8:=r8
   have or9:=r9
   have cb:=below_self sb
   refine e_m ?_;simp only[pv];refine ew_loadk (by rfl) 3 _ rfl _ (0) rfl (fun _ hb=>(or8.belowAll hb).r) (.int .i64 k) rfl Tryz.isAgg3 ?_;simp only[pv];refine ew_loadk (by rfl) 23 _ rfl _ (0) rfl (fun _ hb=>(or9.belowAll hb).r) (.slice ai n ci) rfl Tryz.isAgg23 ?_;simp only[pv];refine e_v (.int .i64 n) (n_l ai n ci sl_natsX) ?_;simp only[pv];refine e_v (.int .i64 ((n+1:Nat):Int)) (x_a n 1) ?_;simp only[pv];refine ew_make (by rfl) 23 43 _ _ rfl ie _ Tryz.underlying23 hie hze (n+1) rfl rfl (by rw[hsz];omega) (by rw[hby];omega) (by omega) ?_;intro wa5 hqb gN wb5 n0 rN hb
   refine⟨fun _=>below_on (below_on cb (Nat.le_refl _) hqb) (Nat.le_refl _) hb,?_⟩
   simp only[pv];replace r3:=r3.belowAll hqb;replace r5:=r5.belowAll hqb;replace r8:=r8.belowAll hqb;replace r9:=r9.belowAll hqb;replace rW:=rW.belowAll hqb;replace hW:=hW.below hqb;replace sb:=b_o sb hqb;replace cb:=b_o cb hqb
   have d3xN:=l_l r3.lt n0
   have d5xN:=l_l r5.lt n0
   have d8xN:=l_l r8.lt n0
   have d9xN:=l_l r9.lt n0
   have dWxN:=l_l rW.lt n0
   have hWxN:=fun j hj=>Nat.ne_of_lt (Nat.lt_of_lt_of_le (hW.lt (j:=j) hj) n0)
   have bN:=Nat.le_trans sb.size n0
   replace r3:=r3.belowAll hb;replace r5:=r5.belowAll hb;replace r8:=r8.belowAll hb;replace r9:=r9.belowAll hb;replace rW:=rW.belowAll hb;replace hW:=hW.below hb;replace sb:=b_o sb hb;replace cb:=b_o cb hb;clear hqb hb n0;refine e_v (.pointer (some ⟨gW,0+k*1,none⟩)) ((exec_index_s 22 _ _ rfl (gW) (0) (m) (m) rfl (k) rfl (hlt) _ Tryz.underlying22 1 Tryz.sizeOf23)) ?_;simp only[pv];refine ew_putv (by rfl) 23 _ _ rfl _ (0+k*1) rfl rW (.slice (some ⟨gN,0,none⟩) (n+1) (n+1)) rfl rfl rfl size1tapiat (by rw[vsC_size];omega) ((vsC m (fun j=>if j<k+1 then .slice (some ⟨upR R k gN j,0,none⟩) (n+1) (n+1)else .slice none 0 0))) (hpW gN) ?_;intro wa7 hqb;replace r3:=r3.belowAll hqb;replace r5:=r5.belowAll hqb;replace r8:=r8.belowAll hqb;replace r9:=r9.belowAll hqb;replace rW:=rW.belowAll hqb;replace hW:=hW.below hqb;replace rN:=rN.belowAll hqb;replace sb:=b_o sb hqb;clear hqb rW;intro wb7 rW k
   refine⟨fun h=>(by cases h),?_⟩
   simp only[Act.put];replace r3:=k.ro r3;replace r5:=k.ro r5;replace r8:=k.ro r8;replace r9:=k.ro r9
   replace hW:=hW.on k (fun j hj=>by simpa using hWxW j hj)
   replace rN:=k.ro rN
   replace sb:=sb.trans (k.below _ sb.size (by simp<;>omega))
   clear k;refine ew_nil ?_;intro wz hqb;replace r3:=r3.belowAll hqb;replace r5:=r5.belowAll hqb;replace r8:=r8.belowAll hqb;replace r9:=r9.belowAll hqb;replace rW:=rW.belowAll hqb;replace hW:=hW.below hqb;replace rN:=rN.belowAll hqb;replace sb:=b_o sb hqb;clear hqb cb or8 or9
   rw[hsz,made_nats]at rN
   have hturn:=fun w' (sb':Below w.heap.size w w') (q8:Row w' g8 #[.int .i64 k] 3) (q9:Row w' g9 #[.slice ai n ci] 23) (q3:Row w' g3 #[.pointer (some ⟨g,0,none⟩)] 25) (q5:Row w' g5 #[.slice ar m cr] 23) (qN:Row w' gN (nsC (n+1) (fun _=>0)) 43)=>turn_any gN (n+1) (n+1) (fun _=>0) (fun j=>(mxJ A b n k j:Fin Q).val) 47 #[.pointer (some ⟨g9,0,none⟩),.pointer (some ⟨g3,0,none⟩),.pointer (some ⟨g5,0,none⟩),.pointer (some ⟨g8,0,none⟩)] w' Tryz.func47 (by kernel_rfl) (by omega) qN (fun j hj w2 hk _=>hcl2 g8 g9 g3 g5 j hj w2 (sb'.trans (hk.below w.heap.size sb'.size (by simp<;>omega))) (hk.row q9 (by simp<;>omega)) (hk.row q3 (by simp<;>omega)) (hk.row q5 (by simp<;>omega)) (hk.row q8 (by simp<;>omega)))
   iterate 2 go_step
   refine rp ?_;refine p_m ?_;simp only[pv];refine p_d 0 r8.r (.int .i64 k) rfl Tryz.isAgg3 ?_;simp only[pv];refine p_x k hlt Tryz.underlying22 Tryz.sizeOf23 ?_;simp only[pv];refine p_d (0+k*1) rW.r (.slice (some ⟨gN,0,none⟩) (n+1) (n+1)) (by rw[show 0+k*1=k by omega,vsC_get _ hlt,if_pos (by omega),upR_at]) Tryz.isAgg23 ?_;simp only[pv];refine p_v (.func (.func 47) #[] #[.pointer (some ⟨g9,0,none⟩),.pointer (some ⟨g3,0,none⟩),.pointer (some ⟨g5,0,none⟩),.pointer (some ⟨g8,0,none⟩)]) (exec_func _ _ rfl _ rfl) ?_;simp only[pv];refine p_f 46 Tryz.func46 #[.slice (some ⟨gN,0,none⟩) (n+1) (n+1),.func (.func 47) #[] #[.pointer (some ⟨g9,0,none⟩),.pointer (some ⟨g3,0,none⟩),.pointer (some ⟨g5,0,none⟩),.pointer (some ⟨g8,0,none⟩)]] (hturn _ sb r8 r9 r3 r5 rN) ?_;clear rN
   rintro _ z7005 ⟨rfl,rN,k⟩
   refine⟨_,rfl,?_⟩
   simp only[pv];replace r3:=k.ro r3;replace r5:=k.ro r5;replace rW:=k.ro rW;replace r8:=k.ro r8;replace r9:=k.ro r9
   replace hW:=hW.on k (fun j hj=>by simpa using hWxN j hj)
   replace sb:=kk sb k;clear k;refine pw_nil ?_;clear hturn hcl2
   have hW2:=hW.add hWxN bN rN
   have h3N: ∀j,j<k+1->upR R k gN j≠g3:=fun j hj=>by
    by_cases e:j=k
    ·subst e;rw[upR_at];omega
    ·rw[upR_lt R (show j<k by omega)];exact hWx3 j (by omega)
   have h5N: ∀j,j<k+1->upR R k gN j≠g5:=fun j hj=>by
    by_cases e:j=k
    ·subst e;rw[upR_at];omega
    ·rw[upR_lt R (show j<k by omega)];exact hWx5 j (by omega)
   have hWN: ∀j,j<k+1->upR R k gN j≠gW:=fun j hj=>by
    by_cases e:j=k
    ·subst e;rw[upR_at];omega
    ·rw[upR_lt R (show j<k by omega)];exact hWxW j (by omega)
   clear hW hWx3 hWx5 hWxW hWxN rN hpW r8 r9
   generalize upR R k gN=R2 at*
   iterate 2 go_step
   refine rp ?_;refine p_v (.int .i64 ((k+1:Nat):Int)) (x_a k 1) ?_;refine p_m (pw_nil ?_);simp only[pv]
   go_wp2
   go_roundg x
   case measure=>omega
   case rel=>exact⟨k+1,R2,by omega,rfl,r3,r5,rW,hW2,h3N,h5N,hWN,sb⟩
def gjC (B:Mx Q)(r s:Nat)(iv:Fin Q->Fin Q)(c:Nat):Mx Q:=fun i k=>if i=r then B s k*iv (B s c)else mSwp B r s i k
def gjD (B:Mx Q)(r s:Nat)(iv:Fin Q->Fin Q)(c i:Nat):Mx Q:=fun a k=>if a<i/\a≠r then gjC B r s iv c a k-gjC B r s iv c r k*gjC B r s iv c a c else gjC B r s iv c a k
theorem gjD_0 (B:Mx Q)(r s:Nat)(iv:Fin Q->Fin Q)(c a k:Nat):gjD B r s iv c 0 a k=gjC B r s iv c a k:=if_neg (by omega)
theorem gjD_rest {B:Mx Q}{r s:Nat}{iv:Fin Q->Fin Q}{c i a:Nat}(h:a≠i):gjD B r s iv c (i+1) a=gjD B r s iv c i a:=funext fun k=>by
 unfold gjD
 by_cases e:a<i/\a≠r
 ·rw[if_pos e,if_pos (by omega)]
 ·rw[if_neg e,if_neg (by omega)]
theorem gjD_skip {B:Mx Q}{r s:Nat}{iv:Fin Q->Fin Q}{c:Nat}:gjD B r s iv c (r+1)=gjD B r s iv c r:=funext fun a=>funext fun k=>by
 unfold gjD
 by_cases e:a<r/\a≠r
 ·rw[if_pos e,if_pos (by omega)]
 ·rw[if_neg e,if_neg (by omega)]
theorem gjD_at {B:Mx Q}{r s:Nat}{iv:Fin Q->Fin Q}{c i:Nat}(h:i≠r)(k:Nat):gjD B r s iv c (i+1) i k=gjD B r s iv c i i k-gjD B r s iv c i r k*gjD B r s iv c i i c:=by
 have e1: ∀x,gjD B r s iv c i i x=gjC B r s iv c i x:=fun x=>if_neg (by omega)
 have e2:gjD B r s iv c i r k=gjC B r s iv c r k:=if_neg (by omega)
 rw[e1,e1,e2]
 exact if_pos (by omega)
theorem gjD_all {B:Mx Q}{r s:Nat}{iv:Fin Q->Fin Q}{c m a:Nat}(ha:a<m)(k:Nat):gjD B r s iv c m a k=gjE B r s c iv a k:=by
 unfold gjD gjE
 by_cases e:a=r
 ·rw[if_neg (by omega),if_pos e]
  exact if_pos e
 ·rw[if_pos ⟨ha,e⟩,if_neg e]
  unfold gjC
  rw[if_neg e,if_neg e,if_pos rfl]
set_option maxHeartbeats 4000000 in
theorem trows_any (W:World)(m n gT gX:Nat)(R:Nat->Nat)(A:Mx Q)(cX:Array Value)(tX:TypeId)(q:FdQ Q)(hm0:0<m)(hm:m<=16)(hn0:0<n)(hn:n<=16)(hWw:Below W.heap.size W w)(hTb:W.heap.size<=gT)(rT:Row w gT (vsC m (fun j=>.slice (some ⟨R j,0,none⟩) (n+1) (n+1))) 23)(hF:FamAt w W.heap.size (n+1) R (fun ia ka=>(A ia ka:Fin Q).val) m)(hFxT: ∀j,j<m->R j≠gT)(rX:Row w gX cX tX)(hXT:gX≠gT)(hFxX: ∀j,j<m->R j≠gX)(h:GrpAt W g gr gf P Q G):
  Calls Tryz.prog 23 #[.pointer (some ⟨g,0,none⟩),.slice (some ⟨gT,0,none⟩) m m] w fun e w'=> ∃av cv r,e= .returned (.slice av r cv)/\ ∃L R' B,GJ A B m n (n+1) r L/\OwnI w' W.heap.size (.slice av r cv) r L/\(Value.slice av r cv).ownBlock≠some gX/\Row w' gT (vsC m (fun j=>.slice (some ⟨R' j,0,none⟩) (n+1) (n+1))) 23/\FamAt w' W.heap.size (n+1) R' (fun ia ka=>(B ia ka:Fin Q).val) m/\Row w' gX cX tX/\(∀j,j<m->R' j≠gX)/\Below W.heap.size W w':=by
 obtain⟨ie,hie,hz,hsz,_⟩:=info_int'
 have hs1: ¬1*ie.size>2^24:=by rw[hsz];decide
 have hs2: ¬1*ie.size=0:=by rw[hsz];decide
 have hl1:=fun a=>lit_i1 a ie.size hsz
 have HQ:Hid (∀x:Fin Q,x.val<2^256):=fun x=>Nat.lt_trans x.isLt q.m
 have HI:Hid (∀x:Fin Q,x≠0->x*ivF x=1):=fun x hx=>ivF_is q x hx
 have HG:Hid (GrpAt W g gr gf P Q G):=h
 clear h
 go_enter Tryz.func23,Tryz.ntmps23
 have sb:=hWw
 clear hWw
 iterate 2 go_step
 refine rp ?_;refine pw_box1 (by rfl) 25 _ rfl (.pointer (some ⟨g,0,none⟩)) rfl rfl ?_;intro g2 z0 n0 r2 k;simp only[pv]
 have dTx2:=l_l rT.lt n0
 have dXx2:=l_l rX.lt n0
 have hFx2:=fun j hj=>Nat.ne_of_lt (Nat.lt_of_lt_of_le (hF.lt (j:=j) hj) n0)
 clear n0;replace rT:=k.ro rT;replace rX:=k.ro rX;replace hF:=hF.below k.nil;replace sb:=kk sb k;clear k;refine p_v (.slice none 0 0) ((fun _=>rfl)) (pw_nil ?_);simp only[pv]
 iterate 3 go_step
 refine rp ?_;refine p_v (.slice none 0 0) ((fun _=>rfl)) (pw_nil ?_);simp only[pv]
 iterate 4 go_step
 refine rp ?_;refine p_m ?_;simp only[pv];refine p_x 0 hm0 Tryz.underlying22 Tryz.sizeOf23 ?_;simp only[pv];refine p_d (0+0*1) rT.r (.slice (some ⟨R 0,0,none⟩) (n+1) (n+1)) (vsC_get _ hm0) Tryz.isAgg23 ?_;simp only[pv];refine p_v (.int .i64 (n+1:Nat)) (n_l (some ⟨R 0,0,none⟩) ((n+1:Nat)) ((n+1)) sl_natsX) ?_;refine p_v (.int .i64 0) (fun _=>rfl) (pw_nil ?_);simp only[pv]
 have h2T:g2≠gT:=by omega
 clear dTx2 dXx2
 go_wp2_with fail
 go_loopg [5,18] (n+1) (fun x s5 s18 wr=> ∃(c r:Nat) (L R:Nat->Nat) (B:Mx Q),c+x=n+1/\s18= .int .i64 c/\GJ A B m n c r L/\OwnI wr W.heap.size s5 r L/\Row wr g2 #[.pointer (some ⟨g,0,none⟩)] 25/\Row wr gT (vsC m (fun j=>.slice (some ⟨R j,0,none⟩) (n+1) (n+1))) 23/\Row wr gX cX tX/\FamAt wr W.heap.size (n+1) R (fun ia ka=>(B ia ka:Fin Q).val) m/\(∀j,j<m->R j≠g2)/\(∀j,j<m->R j≠gT)/\(∀j,j<m->R j≠gX)/\s5.ownBlock≠some g2/\s5.ownBlock≠some gT/\s5.ownBlock≠some gX/\(∀j,j<m->s5.ownBlock≠some (R j))/\Below W.heap.size W wr)
 case atStart=>exact⟨0,0,fun _=>0,R,A,by omega,rfl,gj_start A m n _,ownI_nil _ _ _,r2,rT,rX,hF,hFx2,hFxT,hFxX,(fun e=>by cases e),(fun e=>by cases e),(fun e=>by cases e),(fun j hj e=>by cases e),sb⟩
 case round=>
  clear r2 rT rX hF hFx2 hFxT hFxX sb
  obtain⟨c,r,L,R,B,hc,rfl,gj,hL,r2,rT,rX,hF,hFx2,hFxT,hFxX,ehLx2,ehLxT,ehLxX,ehLxhF,sb⟩:=hrel
  have hrm:=gj.rm
  cases gk with
  |zero=>
   obtain rfl:c=n+1:=by omega
   obtain⟨av,cv,rfl⟩:=own_shape hL
   go_step
   refine rp ?_;refine p_v (.bool false) (lt_f (n+1:Nat) (n+1:Nat)) (pw_nil ?_);simp only[pv]
   iterate 8 go_step
   refine rp ?_;refine p_m ?_;refine p_a (pw_nil ?_);simp only[pv]
   go_wp2
   go_ret
   exact⟨av,cv,r,rfl,L,R,B,gj,hL,ehLxX,rT,hF,rX,hFxX,sb⟩
  |succ x=>
   have hcn:c<n+1:=by omega
   have GJH:Hid (GJ A B m n c r L):=gj
   clear gj
   obtain⟨av,cv,rfl⟩:=own_shape hL
   go_step
   refine rp ?_;refine p_v (.bool true) (lt_t c (n+1:Nat)) (pw_nil ?_);simp only[pv]
   iterate 10 go_step
   refine rp ?_;refine p_m ?_;simp only[pv];refine pw_newv (by rfl) 3 rfl (.int .i64 0) z_int rfl ?_;intro g6 z4001 n0 r6 k;simp only[pv]
   have d2x6:=l_l r2.lt n0
   have dTx6:=l_l rT.lt n0
   have dXx6:=l_l rX.lt n0
   have hFx6:=fun j hj=>Nat.ne_of_lt (Nat.lt_of_lt_of_le (hF.lt (j:=j) hj) n0)
   have ehLx6:=hL.new n0
   have b6:=Nat.le_trans sb.size n0
   clear n0;replace r2:=k.ro r2;replace rT:=k.ro rT;replace rX:=k.ro rX;replace hF:=hF.below k.nil
   replace hL:=hL.on k (own_ne0 _)
   replace sb:=kk sb k;clear k;refine pw_putv (by rfl) 3 _ _ rfl _ (0) rfl r6 (.int .i64 c) rfl rfl rfl size1tint (by exact Nat.one_pos) (#[.int .i64 c]) rfl ?_;clear r6;intro z4002 r6 k;simp only[Act.put];replace r2:=k.ro r2;replace rT:=k.ro rT;replace rX:=k.ro rX
   replace hF:=hF.on k (fun j hj=>by simpa using hFx6 j hj)
   replace hL:=hL.on k (own_ne1 ehLx6)
   replace sb:=kk sb k;clear k;refine pw_nil ?_
   iterate 3 go_step
   refine rp ?_;refine p_m ?_;simp only[pv];refine p_v (.int .i64 r) (n_l av r cv sl_intsX) ?_;refine p_a (pw_nil ?_);simp only[pv]
   have hidx:=fun w' (q6:Row w' g6 #[.int .i64 c] 3) (qT:Row w' gT (vsC m (fun j=>.slice (some ⟨R j,0,none⟩) (n+1) (n+1))) 23) (qF:FamAt w' W.heap.size (n+1) R (fun ia ka=>(B ia ka:Fin Q).val) m)=>idxl_any (some ⟨gT,rsO m r,none⟩) (m-r) (m-r) (fun i=>.slice (some ⟨R (r+i),0,none⟩) (n+1) (n+1)) gT (rsO m r) _ _ 50 #[.pointer (some ⟨g6,0,none⟩)] (fun i=> !decide ((B (r+i) c).val=0)) w' Tryz.func50 (by kernel_rfl) (by omega) (vs_rest qT hrm) (fun k hk w2 hb=>trw1_any (R (r+k)) (n+1) (n+1) c g6 (fun j=>(B (r+k) j).val) _ w2 hcn (HQ.out _) rfl (q6.belowAll hb) ((qF.row (r+k) (by omega)).belowAll hb))
   iterate 3 go_step
   refine rp ?_;refine p_m ?_;refine p_m ?_;simp only[pv];refine p_v (.slice (some ⟨gT,rsO m r,none⟩) (m-r) (m-r)) ((y_rests 22 _ _ rfl sl_ll 1 size_ell gT 0 m m r rfl rfl (by omega) (Nat.le_refl _))) ?_;simp only[pv];refine p_v (.func (.func 50) #[] #[.pointer (some ⟨g6,0,none⟩)]) (exec_func _ _ rfl _ rfl) ?_;simp only[pv];refine p_f 49 Tryz.func49 #[.slice (some ⟨gT,rsO m r,none⟩) (m-r) (m-r),.func (.func 50) #[] #[.pointer (some ⟨g6,0,none⟩)]] (hidx _ r6 rT hF) ?_
   rintro _ z6004 ⟨z,rfl,hzz,hb⟩
   refine⟨_,rfl,?_⟩
   simp only[pv]
   have k:=Kept.ofBelow hb
   clear hb;replace r2:=k.ro r2;replace rT:=k.ro rT;replace rX:=k.ro rX;replace hF:=hF.below k.nil
   replace hL:=hL.on k (own_ne0 _)
   replace r6:=k.ro r6;replace sb:=kk sb k;clear k;refine p_a (pw_nil ?_);simp only[pv];clear hidx
   rcases hzz with ⟨rfl,hno⟩|⟨j,rfl,hjm,hj⟩
   ·have gj2:GJ A B m n (c+1) r L:=gj_skip GJH.out fun i h1 h2=>by
     have h3: ¬(!decide ((B (r+(i-r)) c).val=0))=true:=fun e=>by
      rw[(anB_iff _ _).2 ⟨i-r,by omega,e⟩]at hno
      cases hno
     rw[show r+(i-r)=i by omega]at h3
     simp only[Bool.not_eq_true',decide_eq_false_iff_not,Decidable.not_not]at h3
     exact Fin.ext h3
    clear hno r6 dTx6 dXx6 d2x6 hFx6 ehLx6
    iterate 4 go_step
    refine rp ?_;refine p_m ?_;simp only[pv];refine p_v (.bool true) (exec_lt_b _ _ _ _ rfl (-1) 0 rfl rfl true (decide_eq_true (by decide))) (pw_nil ?_);simp only[pv]
    iterate 6 go_step
    refine rp ?_;refine p_v (.int .i64 ((c+1:Nat):Int)) (x_a c 1) ?_;refine p_m (pw_nil ?_);simp only[pv]
    go_wp2
    go_roundg x
    case measure=>omega
    case rel=>exact⟨c+1,r,L,R,B,by omega,rfl,gj2,hL,r2,rT,rX,hF,hFx2,hFxT,hFxX,ehLx2,ehLxT,ehLxX,ehLxhF,sb⟩
   ·have hjz:B (r+j) c≠0:=fun e=>by
     simp only[Bool.not_eq_true',decide_eq_false_iff_not]at hj
     exact hj (by rw[e];rfl)
    clear hj
    obtain⟨s,hs⟩: ∃s,r+j=s:=⟨_,rfl⟩
    have hrs:r<=s:=by omega
    have hsm:s<m:=by omega
    have hr:r<m:=by omega
    rw[hs]at hjz
    have HZ:Hid (B s c≠0):=hjz
    clear hjz
    iterate 4 go_step
    refine rp ?_;refine p_m ?_;refine p_v (.bool false) (lt_f j 0) (pw_nil ?_);simp only[pv]
    have hc1:(vsC m (fun j=>.slice (some ⟨R j,0,none⟩) (n+1) (n+1))).setIfInBounds (0+r*1) (.slice (some ⟨R s,0,none⟩) (n+1) (n+1))=(vsC m (fun j=>if j=r then .slice (some ⟨R s,0,none⟩) (n+1) (n+1)else .slice (some ⟨R j,0,none⟩) (n+1) (n+1))):=by
     rw[show 0+r*1=r by omega]
     exact vsC_put hr (if_pos rfl) (fun j _ hne=>if_neg hne)
    have hc2:(vsC m (fun j=>if j=r then .slice (some ⟨R s,0,none⟩) (n+1) (n+1)else .slice (some ⟨R j,0,none⟩) (n+1) (n+1))).setIfInBounds (0+s*1) (.slice (some ⟨R r,0,none⟩) (n+1) (n+1))=(vsC m (fun j=>.slice (some ⟨R (swi r s j),0,none⟩) (n+1) (n+1))):=by
     rw[show 0+s*1=s by omega]
     refine vsC_put hsm ?_ (fun j _ hne=>?_)
     ·unfold swi
      by_cases e:s=r
      ·rw[if_pos e,e]
      ·rw[if_neg e,if_pos rfl]
     ·unfold swi
      by_cases e:j=r
      ·rw[if_pos e,if_pos e]
      ·rw[if_neg e,if_neg e,if_neg hne]
    iterate 7 go_step
    apply wp_region_mix (by kernel_rfl) [(gT,23,(vsC m (fun j=>.slice (some ⟨R j,0,none⟩) (n+1) (n+1))))] [_,_,_,_,_,_,_,_,_,_,_,_,_,_,_,_,_,_,_,_] ⟨rT,trivial⟩ (by simp<;>omega)
    ·intro p;refine m_m ?_;refine m_m ?_;refine m_m ?_;refine m_m ?_;refine m_m ?_;simp only[pv];refine mx_val (.int .i64 (s:Nat)) ((fun w'=>by rw[<-hs];exact exec_add_in _ _ _ _ rfl r j rfl rfl (by omega) w')) ?_;refine m_m ?_;refine m_m ?_;refine m_m ?_;simp only[pv];refine mx_val (.int .i64 (s:Nat)) ((fun w'=>by rw[<-hs];exact exec_add_in _ _ _ _ rfl r j rfl rfl (by omega) w')) ?_;simp only[pv];refine m_x s hsm Tryz.underlying22 Tryz.sizeOf23 ?_;simp only[pv];refine mx_loadcT 0 23 _ rfl (0+s*1) rfl rfl (.slice (some ⟨R s,0,none⟩) (n+1) (n+1)) (by rw[show 0+s*1=s by omega];exact vsC_get _ hsm) Tryz.isAgg23 ?_;refine m_m ?_;refine m_m ?_;simp only[pv];refine m_x r hr Tryz.underlying22 Tryz.sizeOf23 ?_;simp only[pv];refine mx_loadcT 0 23 _ rfl (0+r*1) rfl rfl (.slice (some ⟨R r,0,none⟩) (n+1) (n+1)) (by rw[show 0+r*1=r by omega];exact vsC_get _ hr) Tryz.isAgg23 ?_;simp only[pv];refine m_x r hr Tryz.underlying22 Tryz.sizeOf23 ?_;simp only[pv];refine mx_putv 0 23 _ _ rfl (0+r*1) rfl rfl (.slice (some ⟨R s,0,none⟩) (n+1) (n+1)) rfl rfl rfl size1tapiat (by rw[vsC_size];omega) _ hc1 ?_;simp only[Act.put];refine m_x s hsm Tryz.underlying22 Tryz.sizeOf23 ?_;simp only[pv];refine mx_putv 0 23 _ _ rfl (0+s*1) rfl rfl (.slice (some ⟨R r,0,none⟩) (n+1) (n+1)) rfl rfl rfl size1tapiat (by rw[vsC_size];omega) _ hc2 ?_;simp only[Act.put];refine mx_end ?_;intro w2 hkw hrw hnew hdis
     replace rT:Row w2 gT (vsC m (fun j=>.slice (some ⟨R (swi r s j),0,none⟩) (n+1) (n+1))) 23:=hrw 0 (23,(vsC m (fun j=>.slice (some ⟨R (swi r s j),0,none⟩) (n+1) (n+1)))) rfl
     replace r2:=hkw.ro r2;replace r6:=hkw.ro r6;replace rX:=hkw.ro rX
     replace hF:=hF.on hkw (fun j hj=>by simpa using hFxT j hj)
     replace hL:=hL.on hkw (own_ne1 ehLxT)
     replace sb:=kk sb hkw;clear hkw hrw hnew hdis hc1 hc2
     have hF2:FamAt _ W.heap.size (n+1) (fun i=>R (swi r s i)) (fun ia ka=>(mSwp B r s ia ka:Fin Q).val) m:=(hF.swap hr hsm).congr fun a _ k _=>by rw[mSwp_sw]
     have f2: ∀j,j<m->R (swi r s j)≠g2:=fun j hj=>hFx2 _ (swi_lt hr hsm hj)
     have fT: ∀j,j<m->R (swi r s j)≠gT:=fun j hj=>hFxT _ (swi_lt hr hsm hj)
     have fX: ∀j,j<m->R (swi r s j)≠gX:=fun j hj=>hFxX _ (swi_lt hr hsm hj)
     have f6: ∀j,j<m->R (swi r s j)≠g6:=fun j hj=>hFx6 _ (swi_lt hr hsm hj)
     have fL: ∀j,j<m->(Value.slice av r cv).ownBlock≠some (R (swi r s j)):=fun j hj=>ehLxhF _ (swi_lt hr hsm hj)
     clear hF hFx2 hFxT hFxX hFx6 ehLxhF
     obtain⟨R2,hR2⟩: ∃R2:Nat->Nat,∀j,R (swi r s j)=R2 j:=⟨_,fun _=>rfl⟩
     simp only[hR2]at hF2 f2 fT fX f6 fL rT
     have hF:=hF2
     have hFx2:=f2
     have hFxT:=fT
     have hFxX:=fX
     have hFx6:=f6
     have ehLxhF:=fL
     clear hF2 f2 fT fX f6 fL hR2
     iterate 3 go_step
     refine rp ?_;refine p_m ?_;refine p_m ?_;simp only[pv];refine p_x r hr Tryz.underlying22 Tryz.sizeOf23 ?_;simp only[pv];refine p_d (0+r*1) rT.r (.slice (some ⟨R2 r,0,none⟩) (n+1) (n+1)) (by rw[show 0+r*1=r by omega];exact vsC_get _ hr) Tryz.isAgg23 ?_;simp only[pv];refine pw_newv (by rfl) 23 rfl (.slice none 0 0) z_sl rfl ?_;intro g9 z9004 n0 r9 k;simp only[pv]
     have d2x9:=l_l r2.lt n0
     have dTx9:=l_l rT.lt n0
     have dXx9:=l_l rX.lt n0
     have hFx9:=fun j hj=>Nat.ne_of_lt (Nat.lt_of_lt_of_le (hF.lt (j:=j) hj) n0)
     have ehLx9:=hL.new n0
     have d6x9:=l_l r6.lt n0
     have b9:=Nat.le_trans sb.size n0
     clear n0;replace r2:=k.ro r2;replace rT:=k.ro rT;replace rX:=k.ro rX;replace hF:=hF.below k.nil
     replace hL:=hL.on k (own_ne0 _)
     replace r6:=k.ro r6;replace sb:=kk sb k;clear k;refine pw_putv (by rfl) 23 _ _ rfl _ (0) rfl r9 (.slice (some ⟨R2 r,0,none⟩) (n+1) (n+1)) rfl rfl rfl size1tapiat (by exact Nat.one_pos) (#[.slice (some ⟨R2 r,0,none⟩) (n+1) (n+1)]) rfl ?_;clear r9;intro z9005 r9 k;simp only[Act.put];replace r2:=k.ro r2;replace rT:=k.ro rT;replace rX:=k.ro rX
     replace hF:=hF.on k (fun j hj=>by simpa using hFx9 j hj)
     replace hL:=hL.on k (own_ne1 ehLx9)
     replace r6:=k.ro r6;replace sb:=kk sb k;clear k;refine pw_nil ?_
     have hwr:mSwp B r s r=B s:=if_pos rfl
     have rL:=hF.row r hr
     simp only[hwr]at rL
     have hpart:=nsC_part (n+1) (fun k=>(mSwp B r s r k).val) c hcn (0+c*4) (by omega)
     rw[hwr]at hpart
     have hinv:=fun w' (hb:Below W.heap.size W w')=>fInv_ok (B s c).val g gr gf P Q G w' (HQ.out _) q (HG.out.below hb)
     have HV:Hid ((ivF (B s c)).val=invZ (B s c).val Q):=Nat.mod_eq_of_lt (inv_lt _ _ q.pr)
     rw[<-HV.out]at hinv
     iterate 3 go_step
     apply wp_region_mix (by kernel_rfl) [] [_,_,_,_,_,_,_,_] trivial (by simp<;>omega)
     ·intro p;refine mx_loadc 25 _ rfl _ (0) rfl r2 (by simp<;>omega) (.pointer (some ⟨g,0,none⟩)) rfl Tryz.isAgg25 ?_;simp only[pv];refine mx_loadc 23 _ rfl _ (0) rfl r9 (by simp<;>omega) (.slice (some ⟨R2 r,0,none⟩) (n+1) (n+1)) rfl Tryz.isAgg23 ?_;simp only[pv];refine mx_loadc 3 _ rfl _ (0) rfl r6 (by simp<;>omega) (.int .i64 c) rfl Tryz.isAgg3 ?_;simp only[pv];refine m_x c hcn Tryz.underlying23 size_nat4 ?_;simp only[pv];refine mx_loadm 43 _ rfl _ (0+c*4) rfl rL (by simp<;>omega) (natC (B s c).val) hpart _ Tryz.underlying43 rfl size_nat ?_;simp only[pv]
      refine m_k 51 Tryz.func51 #[.pointer (some ⟨g,0,none⟩),.agg (natC (B s c).val)] (fun w' hk=>hinv w' (sb.trans (hk.below W.heap.size sb.size (by simp<;>omega)))) ?_
      simp only[pv];refine m_n ?_;simp only[pv];refine mx_put 13 43 _ _ rfl rfl rfl (natC (ivF (B s c)).val) rfl (by exact size_nat) (by simp only[natC_size]) (natC_one _) ?_;simp only[Act.put];refine mx_end ?_;intro w2 hkw hrw hnew hdis
      have n10:=hnew 6 rfl
      have zr10:Row w2 (p 6) (natC (ivF (B s c)).val) 43:=hrw 13 (43,natC (ivF (B s c)).val) rfl
      replace r2:=hkw.ro r2;replace r6:=hkw.ro r6;replace r9:=hkw.ro r9;replace rT:=hkw.ro rT;replace rX:=hkw.ro rX
      replace hL:=hL.on hkw (own_ne0 _)
      replace hF:=hF.below hkw.nil;replace sb:=kk sb hkw;clear hkw hrw hnew hdis n10
      generalize p 6=g10 at*
      have r10:=zr10
      clear zr10
      have hFx10:=fam_ne hF r10 (by rw[natC_size];omega)
      clear hinv hpart HV rL
      have hturn:=fun w' (sb':Below W.heap.size W w') (q2:Row w' g2 #[.pointer (some ⟨g,0,none⟩)] 25) (q9:Row w' g9 #[.slice (some ⟨R2 r,0,none⟩) (n+1) (n+1)] 23) (q10:Row w' g10 (natC (ivF (B s c)).val) 43) (qL:Row w' (R2 r) (nsC (n+1) (fun k=>(mSwp B r s r k).val)) 43)=>turn_any (R2 r) (n+1) (n+1) (fun k=>(mSwp B r s r k).val) (fun k=>((gjC B r s ivF c) r k).val) 52 #[.pointer (some ⟨g2,0,none⟩),.pointer (some ⟨g9,0,none⟩),.pointer (some ⟨g10,0,none⟩)] w' Tryz.func52 (by kernel_rfl) (by omega) qL (fun j hj w2 hk qj=>by
       rw[show(gjC B r s ivF c) r j=mSwp B r s r j*ivF (B s c)from(if_pos rfl).trans (by rw[hwr])]
       exact trw2_any (n+1) (n+1) j g2 g9 g10 (R2 r) _ (mSwp B r s r j) (ivF (B s c)) q hj (if_neg (Nat.lt_irrefl j)) (hk.row q2 (fun hm=>hFx2 _ hr (List.mem_singleton.1 hm).symm)) (hk.row q9 (fun hm=>hFx9 _ hr (List.mem_singleton.1 hm).symm)) (hk.row q10 (fun hm=>hFx10 _ hr (List.mem_singleton.1 hm).symm)) qj (HG.out.below (sb'.trans (hk.below W.heap.size sb'.size (fun x hx=>by rw[List.mem_singleton.1 hx];exact hF.low _ hr)))))
      have hrest: ∀i,i<m->i≠r->(fun k=>((gjC B r s ivF c) i k:Fin Q).val)=(fun k=>(mSwp B r s i k:Fin Q).val):=fun i _ hne=>funext fun k=>congrArg Fin.val (if_neg hne)
      iterate 3 go_step
      refine rp ?_;refine p_d 0 r9.r (.slice (some ⟨R2 r,0,none⟩) (n+1) (n+1)) rfl Tryz.isAgg23 ?_;simp only[pv];refine p_v (.func (.func 52) #[] #[.pointer (some ⟨g2,0,none⟩),.pointer (some ⟨g9,0,none⟩),.pointer (some ⟨g10,0,none⟩)]) (exec_func _ _ rfl _ rfl) ?_;simp only[pv];refine p_f 46 Tryz.func46 #[.slice (some ⟨R2 r,0,none⟩) (n+1) (n+1),.func (.func 52) #[] #[.pointer (some ⟨g2,0,none⟩),.pointer (some ⟨g9,0,none⟩),.pointer (some ⟨g10,0,none⟩)]] (hturn _ sb r2 r9 r10 (hF.row r hr)) ?_
      rintro _ z11002 ⟨rfl,rJ,k⟩
      refine⟨_,rfl,?_⟩
      simp only[pv]
      replace r2:=k.row r2 (fun hm=>hFx2 _ hr (List.mem_singleton.1 hm).symm)
      replace rT:=k.row rT (fun hm=>hFxT _ hr (List.mem_singleton.1 hm).symm)
      replace rX:=k.row rX (fun hm=>hFxX _ hr (List.mem_singleton.1 hm).symm)
      replace hL:=hL.on k (own_ne1 (ehLxhF _ hr))
      replace r6:=k.row r6 (fun hm=>hFx6 _ hr (List.mem_singleton.1 hm).symm)
      replace r9:=k.row r9 (fun hm=>hFx9 _ hr (List.mem_singleton.1 hm).symm)
      replace r10:=k.row r10 (fun hm=>hFx10 _ hr (List.mem_singleton.1 hm).symm)
      replace sb:=sb.trans (k.below W.heap.size sb.size (fun x hx=>by rw[List.mem_singleton.1 hx];exact hF.low _ hr))
      replace hF:=hF.put hr k rJ (V':=fun i k=>((gjC B r s ivF c) i k:Fin Q).val) hrest
      clear k rJ;refine pw_nil ?_;clear hturn hrest r10
      iterate 4 go_step
      refine rp ?_;refine p_m ?_;simp only[pv];refine p_v (.int .i64 m) (n_l (some ⟨gT,0,none⟩) m m sl_ll) ?_;refine p_v (.int .i64 0) (fun _=>rfl) (pw_nil ?_);simp only[pv]
      replace hF:FamAt _ W.heap.size (n+1) R2 (fun ia ka=>((gjD B r s ivF c (0)) ia ka:Fin Q).val) m:=hF.congr fun a _ k _=>by rw[gjD_0]
      clear hFx10 hwr
      go_wp2_with fail
      go_loopg [63] m (fun y s63 wr=> ∃i:Nat,i+y=m/\s63= .int .i64 i/\OwnI wr W.heap.size (.slice av r cv) r L/\Row wr g2 #[.pointer (some ⟨g,0,none⟩)] 25/\Row wr gT (vsC m (fun j=>.slice (some ⟨R2 j,0,none⟩) (n+1) (n+1))) 23/\Row wr gX cX tX/\Row wr g6 #[.int .i64 c] 3/\Row wr g9 #[.slice (some ⟨R2 r,0,none⟩) (n+1) (n+1)] 23/\FamAt wr W.heap.size (n+1) R2 (fun ia ka=>((gjD B r s ivF c (i)) ia ka:Fin Q).val) m/\Below W.heap.size W wr)
      case atStart=>exact⟨0,by omega,rfl,hL,r2,rT,rX,r6,r9,hF,sb⟩
      case round=>
       clear hL r2 rT rX r6 r9 hF sb
       obtain⟨i,hi,rfl,hL,r2,rT,rX,r6,r9,hF,sb⟩:=hrel
       cases gk with
       |zero=>
        obtain rfl:i=m:=by omega
        clear hi
        replace hF:FamAt _ W.heap.size (n+1) R2 (fun ia ka=>((gjE B r s c ivF) ia ka:Fin Q).val) i:=hF.congr fun a ha k _=>by rw[gjD_all ha]
        obtain⟨L2,hL2⟩: ∃L2:Nat->Nat,(fun j=>if j=r then c else L j)=L2:=⟨_,rfl⟩
        have gj2:=gj_step (iv:=ivF) HI.out GJH.out hrs hsm HZ.out
        rw[hL2]at gj2
        have hr2:L2 r=c:=by rw[<-hL2];exact if_pos rfl
        have hL3:OwnI _ W.heap.size (.slice av r cv) r L2:=ownI_congr hL (fun j hj=>by rw[<-hL2];exact(if_neg (by omega)).symm)
        clear hL hL2
        have hL:=hL3
        clear hL3
        go_step
        refine rp ?_;refine p_v (.bool false) (lt_f i i) (pw_nil ?_);simp only[pv]
        iterate 7 go_step
        refine rp ?_;refine p_m ?_;simp only[pv];refine p_d 0 r6.r (.int .i64 c) rfl Tryz.isAgg3 ?_;simp only[pv];refine pw_litr (by rfl) 32 3 1 _ rfl #[.int .i64 (c:Nat)] ie _ Tryz.underlying32 hie hz hs1 hs2 [(0,.int .i64 (c:Nat))] rfl (hl1 _) ?_;intro gA z19002 n0 rA k;simp only[pv]
        have ehLxA:=hL.new n0
        clear n0;replace r2:=k.ro r2;replace rT:=k.ro rT;replace rX:=k.ro rX;replace hF:=hF.below k.nil
        replace hL:=hL.on k (own_ne0 _)
        replace r6:=k.ro r6;replace sb:=kk sb k;clear k;refine pw_appI (by rfl) _ _ rfl (W.heap.size) (_) (r) (L2) rfl hL gA _ rfl (by rw[hr2];exact rA) (by omega) sb.size ?_
        have h0:=hL
        clear hL;intro v1 z19003 hL k hp;simp only[pv]
        have cr2:=r2.lt
        replace r2:=k.row r2 (by first|exact own_nin ehLx2|exact own_nin (h0.low (by omega)))
        have crT:=rT.lt
        replace rT:=k.row rT (by first|exact own_nin ehLxT|exact own_nin (h0.low (by omega)))
        have crX:=rX.lt
        replace rX:=k.row rX (by first|exact own_nin ehLxX|exact own_nin (h0.low (by omega)))
        have chF:=fun j hj=>hF.lt (j:=j) hj
        replace hF:=hF.on k (fun j hj=>own_nin (ehLxhF j hj))
        replace ehLxhF:=fun j hj=>own_apart hp (chF j hj) (ehLxhF j hj)
        clear chF
        have cr6:=r6.lt
        replace r6:=k.row r6 (by first|exact own_nin ehLx6|exact own_nin (h0.low (by omega)))
        have crA:=rA.lt
        replace rA:=k.row rA (by first|exact own_nin ehLxA|exact own_nin (h0.low (by omega)))
        (try replace ehLx2:=own_apart hp cr2 ehLx2)
        clear cr2
        (try replace ehLxT:=own_apart hp crT ehLxT)
        clear crT
        (try replace ehLxX:=own_apart hp crX ehLxX)
        clear crX
        (try replace ehLx6:=own_apart hp cr6 ehLx6)
        clear cr6
        (try replace ehLxA:=own_apart hp crA ehLxA)
        clear crA;clear hp
        replace sb:=sb.trans (k.below W.heap.size sb.size h0.base)
        clear h0;clear k;refine p_a (pw_nil ?_);simp only[pv]
        iterate 2 go_step
        refine rp ?_;refine p_v (.int .i64 ((c+1:Nat):Int)) (x_a c 1) ?_;refine p_m (pw_nil ?_);simp only[pv]
        go_wp2
        go_roundg x
        case measure=>omega
        case rel=>exact⟨c+1,r+1,_,R2,_,by omega,rfl,gj2,hL,r2,rT,rX,hF,hFx2,hFxT,hFxX,ehLx2,ehLxT,ehLxX,ehLxhF,sb⟩
       |succ y=>
        have him:i<m:=by omega
        have rI:=hF.row i him
        have hpart:=nsC_part (n+1) (fun k=>((gjD B r s ivF c (i)) i k).val) c hcn (0+c*4) (by omega)
        go_step
        refine rp ?_;refine p_v (.bool true) (lt_t i m) (pw_nil ?_);simp only[pv]
        iterate 10 go_step
        refine rp ?_;refine p_m ?_;refine p_a (pw_nil ?_);simp only[pv]
        iterate 3 go_step
        apply wp_region_mix (by kernel_rfl) [] [_,_,_,_,_,_,_,_,_,_,_,_,_,_,_] trivial (by simp<;>omega)
        ·intro p;refine m_m ?_;refine m_m ?_;simp only[pv];refine m_x i him Tryz.underlying22 Tryz.sizeOf23 ?_;simp only[pv];refine mx_loadc 23 _ rfl _ (0+i*1) rfl rT (by simp<;>omega) (.slice (some ⟨R2 i,0,none⟩) (n+1) (n+1)) (by rw[show 0+i*1=i by omega];exact vsC_get _ him) Tryz.isAgg23 ?_;refine m_m ?_;refine m_m ?_;simp only[pv];refine m_x i him Tryz.underlying22 Tryz.sizeOf23 ?_;simp only[pv];refine mx_loadc 23 _ rfl _ (0+i*1) rfl rT (by simp<;>omega) (.slice (some ⟨R2 i,0,none⟩) (n+1) (n+1)) (by rw[show 0+i*1=i by omega];exact vsC_get _ him) Tryz.isAgg23 ?_;simp only[pv];refine mx_loadc 3 _ rfl _ (0) rfl r6 (by simp<;>omega) (.int .i64 c) rfl Tryz.isAgg3 ?_;simp only[pv];refine m_x c hcn Tryz.underlying23 size_nat4 ?_;simp only[pv];refine mx_loadm 43 _ rfl _ (0+c*4) rfl rI (by simp<;>omega) (natC ((gjD B r s ivF c (i)) i c).val) hpart _ Tryz.underlying43 rfl size_nat ?_;simp only[pv];refine mx_newv 23 rfl (.slice none 0 0) z_sl rfl ?_;simp only[pv];refine m_n ?_;simp only[pv];refine mx_putv 23 23 _ _ rfl 0 rfl rfl (.slice (some ⟨R2 i,0,none⟩) (n+1) (n+1)) rfl rfl rfl size1tapiat (by exact Nat.one_pos) (#[.slice (some ⟨R2 i,0,none⟩) (n+1) (n+1)]) rfl ?_;simp only[Act.put];refine mx_put 25 43 _ _ rfl rfl rfl (natC ((gjD B r s ivF c (i)) i c).val) rfl (by exact size_nat) (by simp only[natC_size]) (natC_one _) ?_;simp only[Act.put];refine mx_end ?_;intro w2 hkw hrw hnew hdis
         have n12:=hnew 11 rfl
         have n13:=hnew 12 rfl
         have zr12:Row w2 (p 11) (#[.slice (some ⟨R2 i,0,none⟩) (n+1) (n+1)]) 23:=hrw 23 (23,#[.slice (some ⟨R2 i,0,none⟩) (n+1) (n+1)]) rfl
         have zr13:Row w2 (p 12) (natC ((gjD B r s ivF c (i)) i c).val) 43:=hrw 25 (43,natC ((gjD B r s ivF c (i)) i c).val) rfl
         replace r2:=hkw.ro r2;replace r6:=hkw.ro r6;replace r9:=hkw.ro r9;replace rT:=hkw.ro rT;replace rX:=hkw.ro rX
         replace hL:=hL.on hkw (own_ne0 _)
         replace hF:=hF.below hkw.nil;replace sb:=kk sb hkw;clear hkw hrw hnew hdis n12 n13
         generalize p 11=g12 at*
         generalize p 12=g13 at*
         have r12:=zr12
         clear zr12
         have r13:=zr13
         clear zr13;clear hpart rI
         have hFx12:=fam_ne hF r12 (by show 1≠_;omega)
         have hFx13:=fam_ne hF r13 (by rw[natC_size];omega)
         by_cases hir:i=r
         ·replace hF:FamAt _ W.heap.size (n+1) R2 (fun ia ka=>((gjD B r s ivF c (i+1)) ia ka:Fin Q).val) m:=hF.congr fun a _ k _=>by rw[hir,gjD_skip]
          iterate 3 go_step
          refine rp ?_;refine p_m ?_;refine p_m ?_;simp only[pv];refine p_v (.bool false) (exec_neq_k .i64 _ _ _ _ rfl i r rfl rfl false (by rw[decide_eq_true (by omega)];rfl)) (pw_nil ?_);simp only[pv];clear r12 r13 hFx12 hFx13
          iterate 6 go_step
          refine rp ?_;refine p_v (.int .i64 ((i+1:Nat):Int)) (x_a i 1) ?_;refine p_m (pw_nil ?_);simp only[pv]
          go_wp2
          go_roundg y
          case measure=>omega
          case rel=>exact⟨i+1,by omega,rfl,hL,r2,rT,rX,r6,r9,hF,sb⟩
         ·have hturn:=fun w' (sb':Below W.heap.size W w') (q2:Row w' g2 #[.pointer (some ⟨g,0,none⟩)] 25) (q12:Row w' g12 #[.slice (some ⟨R2 i,0,none⟩) (n+1) (n+1)] 23) (q9:Row w' g9 #[.slice (some ⟨R2 r,0,none⟩) (n+1) (n+1)] 23) (q13:Row w' g13 (natC ((gjD B r s ivF c (i)) i c).val) 43) (qI:Row w' (R2 i) (nsC (n+1) (fun k=>((gjD B r s ivF c (i)) i k).val)) 43) (qL:Row w' (R2 r) (nsC (n+1) (fun k=>((gjD B r s ivF c (i)) r k).val)) 43)=>turn_any (R2 i) (n+1) (n+1) (fun k=>((gjD B r s ivF c (i)) i k).val) (fun k=>((gjD B r s ivF c (i+1)) i k).val) 54 #[.pointer (some ⟨g2,0,none⟩),.pointer (some ⟨g12,0,none⟩),.pointer (some ⟨g9,0,none⟩),.pointer (some ⟨g13,0,none⟩)] w' Tryz.func54 (by kernel_rfl) (by omega) qI (fun j hj w2 hk qj=>by
           rw[gjD_at hir]
           exact trw3_any (n+1) (n+1) j g2 g12 g9 g13 (R2 i) (R2 r) (n+1) _ _ ((gjD B r s ivF c (i)) i j) ((gjD B r s ivF c (i)) r j) ((gjD B r s ivF c (i)) i c) q hj (if_neg (Nat.lt_irrefl j)) rfl (hk.row q2 (fun hm=>hFx2 _ him (List.mem_singleton.1 hm).symm)) (hk.row q12 (fun hm=>hFx12 _ him (List.mem_singleton.1 hm).symm)) (hk.row q9 (fun hm=>hFx9 _ him (List.mem_singleton.1 hm).symm)) (hk.row q13 (fun hm=>hFx13 _ him (List.mem_singleton.1 hm).symm)) qj (hk.row qL (fun hm=>hir (hF.dis _ _ him hr (List.mem_singleton.1 hm).symm))) (HG.out.below (sb'.trans (hk.below W.heap.size sb'.size (fun x hx=>by rw[List.mem_singleton.1 hx];exact hF.low _ him)))))
          have hrest: ∀a,a<m->a≠i->(fun k=>((gjD B r s ivF c (i+1)) a k:Fin Q).val)=(fun k=>((gjD B r s ivF c (i)) a k:Fin Q).val):=fun a _ hne=>by rw[gjD_rest hne]
          iterate 3 go_step
          refine rp ?_;refine p_m ?_;refine p_m ?_;simp only[pv];refine p_v (.bool true) (exec_neq_k .i64 _ _ _ _ rfl i r rfl rfl true (by rw[decide_eq_false (by omega)];rfl)) (pw_nil ?_);simp only[pv]
          iterate 3 go_step
          refine rp ?_;refine p_d 0 r12.r (.slice (some ⟨R2 i,0,none⟩) (n+1) (n+1)) rfl Tryz.isAgg23 ?_;simp only[pv];refine p_v (.func (.func 54) #[] #[.pointer (some ⟨g2,0,none⟩),.pointer (some ⟨g12,0,none⟩),.pointer (some ⟨g9,0,none⟩),.pointer (some ⟨g13,0,none⟩)]) (exec_func _ _ rfl _ rfl) ?_;simp only[pv];refine p_f 46 Tryz.func46 #[.slice (some ⟨R2 i,0,none⟩) (n+1) (n+1),.func (.func 54) #[] #[.pointer (some ⟨g2,0,none⟩),.pointer (some ⟨g12,0,none⟩),.pointer (some ⟨g9,0,none⟩),.pointer (some ⟨g13,0,none⟩)]] (hturn _ sb r2 r12 r9 r13 (hF.row i him) (hF.row r hr)) ?_
          rintro _ z17002 ⟨rfl,rJ,k⟩
          refine⟨_,rfl,?_⟩
          simp only[pv]
          replace r2:=k.row r2 (fun hm=>hFx2 _ him (List.mem_singleton.1 hm).symm)
          replace rT:=k.row rT (fun hm=>hFxT _ him (List.mem_singleton.1 hm).symm)
          replace rX:=k.row rX (fun hm=>hFxX _ him (List.mem_singleton.1 hm).symm)
          replace hL:=hL.on k (own_ne1 (ehLxhF _ him))
          replace r6:=k.row r6 (fun hm=>hFx6 _ him (List.mem_singleton.1 hm).symm)
          replace r9:=k.row r9 (fun hm=>hFx9 _ him (List.mem_singleton.1 hm).symm)
          replace r12:=k.row r12 (fun hm=>hFx12 _ him (List.mem_singleton.1 hm).symm)
          replace r13:=k.row r13 (fun hm=>hFx13 _ him (List.mem_singleton.1 hm).symm)
          replace sb:=sb.trans (k.below W.heap.size sb.size (fun x hx=>by rw[List.mem_singleton.1 hx];exact hF.low _ him))
          replace hF:=hF.put him k rJ (V':=fun a k=>((gjD B r s ivF c (i+1)) a k:Fin Q).val) hrest
          clear k rJ;refine pw_nil ?_;clear hturn hrest r12 r13
          iterate 2 go_step
          refine rp ?_;refine p_v (.int .i64 ((i+1:Nat):Int)) (x_a i 1) ?_;refine p_m (pw_nil ?_);simp only[pv]
          go_wp2
          go_roundg y
          case measure=>omega
          case rel=>exact⟨i+1,by omega,rfl,hL,r2,rT,rX,r6,r9,hF,sb⟩
        ·kernel_rfl
     ·kernel_rfl
    ·kernel_rfl
def SolR (base:Nat)(w':World)(M:Mx Q)(m n:Nat)(v:Value)(z:Int):Prop:=(z=3/\v= .slice none 0 0/\ ¬ ∃x,Sol M m n x)∨(z=0/\ ∃gX,∃X:Nat->Fin Q,v= .slice (some ⟨gX,0,none⟩) n n/\base<=gX/\Row w' gX (nsC n (fun k=>(X k).val)) 43/\Sol M m n X)
theorem solve_arg (va vb:Value)(h:GrpAt w g gr gf P Q G)(ha: ∀w',Below w.heap.size w w'->Calls Tryz.prog 21 #[va,vb] w' (Rt (.bool false) w')):
  Calls Tryz.prog 6 #[.pointer (some ⟨g,0,none⟩),va,vb] w fun e w'=>e= .returned (.tuple #[.slice none 0 0,.int .i64 1])/\Below w.heap.size w w':=by
 have hg:=fun w' (hb:Below w.heap.size w w')=>wgrp_any (some ⟨g,0,none⟩) (some ⟨gf,0,none⟩) P Q G (some ⟨gr,0,none⟩) w' (h.below hb).kn
 go_enter Tryz.func6,Tryz.ntmps6
 have sb:=sbmk w
 iterate 2 go_step
 refine rp ?_;refine p_v (.slice none 0 0) ((fun _=>rfl)) ?_;refine p_v (.int .i64 0) (fun _=>rfl) (pw_nil ?_);simp only[pv]
 iterate 4 go_step
 refine rp ?_;refine p_m ?_;simp only[pv];refine p_c 20 Tryz.func20 #[.pointer (some ⟨g,0,none⟩)] (hg _ sb) ?_;intro z1001 k;simp only[pv];replace sb:=kk sb k;clear k;refine p_v (.bool false) (exec_not _ _ rfl true rfl) ?_;refine p_m ?_;refine p_m ?_;refine p_m ?_;simp only[pv];refine p_c 21 Tryz.func21 #[va,vb] (ha _ sb) ?_;intro z1006 k;simp only[pv];replace sb:=kk sb k;clear k;refine p_v (.bool true) (exec_not _ _ rfl false rfl) ?_;refine p_k false (.bool true) (pw_nil ?_);simp only[pv]
 iterate 4 go_step
 refine rp ?_;refine p_v (.slice none 0 0) ((fun _=>rfl)) ?_;refine p_v (.int .i64 1) (fun _=>rfl) (pw_nil ?_);simp only[pv]
 go_wp2
 go_ret2
 exact⟨rfl,sb⟩
theorem solve_any (ab ar:Option Addr)(m c cr n:Nat)(S:Nat->Value)(A:Nat->Nat->Nat)(b:Nat->Nat)(gb ob:Nat)(bcs:Array Value)(tb:TypeId)(ge oe:Nat)(ecs:Array Value)(te:TypeId)(q:FdQ Q)(hm0:0<m)(hm:m<=16)(hn0:0<n)(hn:n<=16)(hna:VsAt w ab m S gb ob bcs tb)(hS: ∀i,i<m->NrAt w (S i) n (A i))(hnr:NatsAt w ar m b ge oe ecs te)(h:GrpAt w g gr gf P Q G):
  Calls Tryz.prog 6 #[.pointer (some ⟨g,0,none⟩),.slice ab m c,.slice ar m cr] w fun e w'=> ∃v z,e= .returned (.tuple #[v,.int .i64 z])/\SolR w.heap.size w' (mxJ A b n:Mx Q) m n v z/\Below w.heap.size w w':=by
 obtain⟨ie,hie,hze,hsz,hby⟩:=info_nat'
 obtain⟨a0,c0,_,_,_,_,hS0,_⟩:=hS 0 hm0
 have hq1:1<Q:=q.two
 have hg:=fun w' (hb:Below w.heap.size w w')=>wgrp_any (some ⟨g,0,none⟩) (some ⟨gf,0,none⟩) P Q G (some ⟨gr,0,none⟩) w' (h.below hb).kn
 have hae:=fun w' (hb:Below w.heap.size w w')=>aeq_all ab ar a0 m c cr n c0 S gb ob bcs tb w' hm0 hm (hna.below hb) hS0 hn0 hn (fun _=>n) false (fun i hi=>by
  obtain⟨ai,ci,_,_,_,_,e,_⟩:=hS i hi
  exact⟨ai,ci,e⟩) (Bool.eq_false_iff.2 fun hx=>by
  obtain⟨k,_,hk⟩:=(anB_iff _ _).1 hx
  rw[decide_eq_true rfl]at hk
  cases hk)
 have hjo:=fun w' (hb:Below w.heap.size w w')=>joined_any ab ar m c cr n S A b gb ob bcs tb ge oe ecs te q hm hn (hna.below hb) (fun i hi=>(hS i hi).below hb) (hnr.below hb) (h.below hb)
 replace hjo:=fun w' (hb:Below w.heap.size w w')=>(hjo w' hb).mono (R':=fun e w2=> ∃gT R,e= .returned (.slice (some ⟨gT,0,none⟩) m m)/\w'.heap.size<=gT/\Row w2 gT (vsC m (fun j=>.slice (some ⟨R j,0,none⟩) (n+1) (n+1))) 23/\FamAt w2 w.heap.size (n+1) R (fun i k=>(mxJ A b n i k:Fin Q).val) m/\(∀j,j<m->R j≠gT)/\Below w'.heap.size w' w2) (fun e w2 ⟨gT,R,h1,h2,h3,h4,h5,h6⟩=>⟨gT,R,h1,h2,h3,h4.from hb.size,h5,h6⟩)
 have htr:=fun w' (hb:Below w.heap.size w w') gT gX R (hT:w.heap.size<=gT) (rT:Row w' gT (vsC m (fun j=>.slice (some ⟨R j,0,none⟩) (n+1) (n+1))) 23) (hF:FamAt w' w.heap.size (n+1) R (fun i k=>(mxJ A b n i k:Fin Q).val) m) (hFT: ∀j,j<m->R j≠gT) (rX:Row w' gX (nsC n (fun _=>0)) 43) (hXT:gX≠gT) (hFX: ∀j,j<m->R j≠gX)=>trows_any w m n gT gX R (mxJ A b n:Mx Q) _ _ q hm0 hm hn0 hn hb hT rT hF hFT rX hXT hFX h
 have HB:Hid (VsAt w ab m S gb ob bcs tb):=hna
 generalize (mxJ A b n:Mx Q)=M at*
 clear hS hnr h hna
 go_enter Tryz.func6,Tryz.ntmps6
 have sb:=sbmk w
 iterate 2 go_step
 refine rp ?_;refine p_v (.slice none 0 0) ((fun _=>rfl)) ?_;refine p_v (.int .i64 0) (fun _=>rfl) (pw_nil ?_);simp only[pv]
 iterate 4 go_step
 refine rp ?_;refine p_m ?_;simp only[pv];refine p_c 20 Tryz.func20 #[.pointer (some ⟨g,0,none⟩)] (hg _ sb) ?_;intro z1001 k;simp only[pv];replace sb:=kk sb k;clear k;refine p_v (.bool false) (exec_not _ _ rfl true rfl) ?_;refine p_m ?_;refine p_m ?_;refine p_m ?_;simp only[pv];refine p_c 21 Tryz.func21 #[.slice ab m c,.slice ar m cr] (hae _ sb) ?_;intro z1006 k;simp only[pv];replace sb:=kk sb k;clear k;refine p_v (.bool false) (exec_not _ _ rfl true rfl) ?_;refine p_k false (.bool false) (pw_nil ?_);simp only[pv];clear hg hae
 obtain h0|⟨rfl,rB,hbt⟩:=(HB.out.below sb).at'
 ·exact absurd h0 (by omega)
 have hbt':=hbt 0 hm0
 rw[hS0]at hbt'
 clear hbt
 iterate 7 go_step
 refine rp ?_;refine p_m ?_;simp only[pv];refine p_x 0 hm0 Tryz.underlying22 Tryz.sizeOf23 ?_;simp only[pv];refine p_d (ob+0*1) rB (.slice a0 n c0) hbt' Tryz.isAgg23 ?_;simp only[pv];refine p_v (.int .i64 n) (n_l a0 n c0 sl_natsX) ?_;refine p_a (pw_nil ?_);simp only[pv];clear rB hbt'
 iterate 3 go_step
 refine rp ?_;refine p_m ?_;refine p_m ?_;refine p_m ?_;simp only[pv];refine p_f 22 Tryz.func22 #[.pointer (some ⟨g,0,none⟩),.slice (some ⟨gb,ob,none⟩) m c,.slice ar m cr] (hjo _ sb) ?_
 rintro _ z4003 ⟨gT,R,rfl,nT,rT,hF,hFxT,hb⟩
 refine⟨_,rfl,?_⟩
 simp only[pv]
 have bT:=Nat.le_trans sb.size nT
 clear nT
 have k:=Kept.ofBelow hb
 clear hb;replace sb:=kk sb k;clear k;refine p_a (pw_nil ?_);simp only[pv];clear hjo
 iterate 3 go_step
 refine rp ?_;refine p_m ?_;simp only[pv];refine pw_make (by rfl) 23 43 _ _ rfl ie _ Tryz.underlying23 hie hze n rfl rfl (by rw[hsz];omega) (by rw[hby];omega) (by omega) ?_;intro gX z5001 n0 rX k;simp only[pv]
 have dTxX:=l_l rT.lt n0
 have hFxX:=fun j hj=>Nat.ne_of_lt (Nat.lt_of_lt_of_le (hF.lt (j:=j) hj) n0)
 have bX:=Nat.le_trans sb.size n0
 clear n0;replace rT:=k.ro rT;replace hF:=hF.below k.nil;replace sb:=kk sb k;clear k;refine p_a (pw_nil ?_);simp only[pv]
 rw[hsz,made_nats]at rX
 have hXT:gX≠gT:=by omega
 iterate 4 go_step
 refine rp ?_;refine p_m ?_;refine p_m ?_;simp only[pv];refine p_f 23 Tryz.func23 #[.pointer (some ⟨g,0,none⟩),.slice (some ⟨gT,0,none⟩) m m] (htr _ sb gT gX R bT rT hF hFxT rX hXT hFxX) ?_;clear rT rX
 rintro _ z6002 ⟨av,cv,r,rfl,L,R2,B,gj,hL,ehLxX,rT,hF,rX,hFxX,hb⟩
 refine⟨_,rfl,?_⟩
 simp only[pv];replace sb:=hb;clear hb;refine p_v (.int .i64 r) (n_l av r cv sl_intsX) ?_;refine p_v (.int .i64 0) (fun _=>rfl) (pw_nil ?_);simp only[pv]
 have GJH:Hid (GJ M B m n (n+1) r L):=gj
 have hrm:=gj.rm
 clear gj htr
 go_wp2_with fail
 go_loopg [11,12,36] r (fun x s11 s12 s36 wr=> ∃k:Nat,k+x=r/\s36= .int .i64 k/\Row wr gT (vsC m (fun j=>.slice (some ⟨R2 j,0,none⟩) (n+1) (n+1))) 23/\Row wr gX (nsC n (fun j=>(gjX B n L (k) j).val)) 43/\FamAt wr w.heap.size (n+1) R2 (fun ia ka=>(B ia ka:Fin Q).val) m/\OwnI wr w.heap.size (.slice av r cv) r L/\(∀i,i<k->L i≠n)/\Below w.heap.size w wr)
 case atStart=>exact⟨0,by omega,rfl,rT,rX,hF,hL,fun i hi=>absurd hi (by omega),sb⟩
 case round=>
  clear rT rX hF hL sb
  obtain⟨k,hk,rfl,rT,rX,hF,hL,hLn,sb⟩:=hrel
  cases gk with
  |zero=>
   obtain rfl:k=r:=by omega
   clear hk
   go_step
   refine rp ?_;refine p_v (.bool false) (lt_f k k) (pw_nil ?_);simp only[pv]
   iterate 8 go_step
   refine rp ?_;refine p_m ?_;refine p_a ?_;refine p_v (.int .i64 0) (fun _=>rfl) (pw_nil ?_);simp only[pv]
   go_wp2
   go_ret2
   exact⟨_,0,rfl,.inr ⟨rfl,gX,gjX B n L k,rfl,bX,rX,gj_yes hq1 GJH.out hLn⟩,sb⟩
  |succ x=>
   have hlt:k<r:=by omega
   have hkm:k<m:=by omega
   obtain⟨_,gc,cur,hnu⟩:=ownI_nums hL
   obtain h0|⟨rfl,rC,hct⟩:=hnu.at'
   ·exact absurd h0 (by omega)
   have hct':=hct k hlt
   have hLk:=GJH.out.ltc k hlt
   clear hct hnu
   go_step
   refine rp ?_;refine p_v (.bool true) (lt_t k r) (pw_nil ?_);simp only[pv]
   iterate 10 go_step
   refine rp ?_;refine p_m ?_;simp only[pv];refine p_x k hlt Tryz.underlying32 Tryz.sizeOf3 ?_;simp only[pv];refine p_d (0+k*1) rC (.int .i64 (L k:Nat)) hct' Tryz.isAgg3 ?_;refine p_a ?_;refine p_a (pw_nil ?_);simp only[pv];clear rC hct'
   by_cases hLe:L k=n
   ·have hno:=gj_no hq1 GJH.out hlt hLe
    iterate 4 go_step
    refine rp ?_;refine p_m ?_;refine p_m ?_;simp only[pv];refine p_v (.bool true) (exec_eql_k .i64 _ _ _ _ rfl (L k:Nat) n rfl rfl true (decide_eq_true (by omega))) (pw_nil ?_);simp only[pv]
    iterate 4 go_step
    refine rp ?_;refine p_v (.slice none 0 0) ((fun _=>rfl)) ?_;refine p_v (.int .i64 3) (fun _=>rfl) (pw_nil ?_);simp only[pv]
    go_wp2
    go_ret2
    exact⟨_,3,rfl,.inl ⟨rfl,rfl,hno⟩,sb⟩
   ·have hLlt:L k<n:=by omega
    have rK:=hF.row k hkm
    have hpart:=nsC_part (n+1) (fun j=>(B k j).val) n (Nat.lt_succ_self n) (0+n*4) (by omega)
    have hpx:=nsC_put n (fun j=>(gjX B n L k j).val) (fun j=>(gjX B n L (k+1) j).val) (L k) hLlt (0+L k*4) (by omega) (B k n).val (fun j hj=>by
     show((if j=L k then B k n else gjX B n L k j:Fin Q)).val=_
     by_cases e:j=L k
     ·rw[if_pos e,if_pos e]
     ·rw[if_neg e,if_neg e])
    iterate 4 go_step
    refine rp ?_;refine p_m ?_;refine p_m ?_;simp only[pv];refine p_v (.bool false) (exec_eql_k .i64 _ _ _ _ rfl (L k:Nat) n rfl rfl false (decide_eq_false (by omega))) (pw_nil ?_);simp only[pv]
    iterate 6 go_step
    refine rp ?_;refine p_m ?_;refine p_m ?_;refine p_m ?_;refine p_m ?_;simp only[pv];refine p_x k hkm Tryz.underlying22 Tryz.sizeOf23 ?_;simp only[pv];refine p_d (0+k*1) rT.r (.slice (some ⟨R2 k,0,none⟩) (n+1) (n+1)) (by rw[show 0+k*1=k by omega];exact vsC_get _ hkm) Tryz.isAgg23 ?_;refine p_m ?_;simp only[pv];refine p_x n (Nat.lt_succ_self n) Tryz.underlying23 size_nat4 ?_;simp only[pv];refine pw_loadm (by rfl) 43 _ rfl _ (0+n*4) rfl rK.r (natC (B k n).val) hpart _ Tryz.underlying43 rfl size_nat ?_;simp only[pv];refine p_x (L k) hLlt Tryz.underlying23 size_nat4 ?_;simp only[pv];refine pw_putm (by rfl) 43 _ _ rfl _ (0+L k*4) rfl rX (natC (B k n).val) rfl (by exact size_nat) (by rw[nsC_size,natC_size];omega) (natC_one _) ((nsC n (fun j=>(gjX B n L (k+1) j).val))) hpx ?_;clear rX;intro z11010 rX k;simp only[Act.put];replace rT:=k.ro rT
    replace hF:=hF.on k (fun j hj=>by simpa using hFxX j hj)
    replace hL:=hL.on k (own_ne1 ehLxX)
    replace sb:=kk sb k;clear k;refine pw_nil ?_;clear hpx hpart rK
    iterate 2 go_step
    refine rp ?_;refine p_v (.int .i64 ((k+1:Nat):Int)) (x_a k 1) ?_;refine p_m (pw_nil ?_);simp only[pv]
    go_wp2
    go_roundg x
    case measure=>omega
    case rel=>exact⟨k+1,by omega,rfl,rT,rX,hF,hL,fun i hi=>(if e:i=k then(by rw[e];exact hLe)else hLn i (by omega)),sb⟩
end
end Go.Proofs.YtighhihgmkcabaaGreat
