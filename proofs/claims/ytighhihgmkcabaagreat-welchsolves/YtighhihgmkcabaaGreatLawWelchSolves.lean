/- WelchSolves: for every number, list of lists of naturals and list of naturals: in one of the two small groups, of up to 6 rows of up to 6 numbers and up to 6 on the right: a solution is told, if there is one, and it is one; none is told only if there is none; no condition. -/
import Derived.Test.YtighhihgmkcabaaGreatWeAwake
import Derived.Test.YtighhihgmkcabaaGreatWeRank
import Derived.Test.YtighhihgmkcabaaGreatGU
set_option maxRecDepth 100000
set_option maxHeartbeats 2000000
namespace Go.Proofs.YtighhihgmkcabaaGreat
open Go.ChangeShapes Go.WideShapes Go.ChangeAt Go.RowKit
namespace welchSolvesP
set_option linter.unusedVariables false
set_option linter.unusedSectionVars false
set_option linter.unusedSimpArgs false
/-- A slice of slices of naturals. -/
theorem open_lls {H:Type}{enc:TypeId×Value->H}{W:World}{base:Nat}{v0:Value}{d0:DataW H}{p0:List MemPlace}
  (hv:Value.okWide Tryz.prog W .any base 22 v0)(h0:DataW.Trod enc Tryz.prog W 0 (fun _=>true) true 22 v0 d0 p0):
  ∃(ab:Option Addr) (m c:Nat) (S:Nat->Value) (N:Nat->Nat) (A:Nat->Nat->Nat) (gb ob:Nat) (bcs:Array Value) (tb:TypeId),v0= .slice ab m c/\VsAt W ab m S gb ob bcs tb/\ ∀i,i<m->NrAt W (S i) (N i) (A i)/\N i<=maxLen:=by
 obtain⟨ab,m,c,rfl,hn,hc,h⟩:=open_row (k:=1) (by decide) Tryz.underlying22 cells_sln hv h0
 rcases h with rfl|⟨gb,ob,bcs,tb,rfl,hR,hel⟩
 ·exact⟨ab,0,c,fun _=>.slice none 0 0,fun _=>0,fun _ _=>0,0,0,#[],0,rfl,⟨.inl rfl⟩,fun i hi=>absurd hi (Nat.not_lt_zero _)⟩
 have: ∀i,i<m-> ∃x:Value×Nat×(Nat->Nat),bcs[ob+i*1]?=some x.1/\NrAt W x.1 x.2.1 x.2.2/\x.2.1<=maxLen:=fun i hi=>by
  obtain⟨l,k,x,hl,hg,hd⟩:=hel i hi
  match l,hl with
  |[v],_=>
   obtain⟨ai,n,ci,e,gi,oi,bi,ti,rfl,hnc,hcm,hni⟩:=nats_of hd
   exact⟨(_,n,e),by have:=hg 0 _ rfl;rwa [Nat.add_zero]at this,⟨ai,ci,gi,oi,bi,ti,rfl,hni⟩,Nat.le_trans hnc hcm⟩
 obtain⟨e,he⟩:=Deep.choose_lt this
 exact⟨_,m,c,fun i=>(e i).1,fun i=>(e i).2.1,fun i=>(e i).2.2,gb,ob,bcs,tb,rfl,⟨.inr ⟨rfl,hR,fun i hi=>(he i hi).1⟩⟩,fun i hi=>(he i hi).2⟩
/-- Own slices of numbers. -/
structure FamO (w:World)(base:Nat)(P:Nat->Value)(N:Nat->Nat)(V:Nat->Nat->Nat)(m:Nat):Prop where
 own: ∀j,j<m->OwnI w base (P j) (N j) (V j)
section
variable {w w2:World}{base m:Nat}{P:Nat->Value}{N:Nat->Nat}{V:Nat->Nat->Nat}
theorem FamO.on (h:FamO w base P N V m){S:List Nat}(k:Kept S w w2)(hS: ∀j,j<m-> ∀b,(P j).ownBlock=some b->b∉S):FamO w2 base P N V m:=⟨fun j hj=>(h.own j hj).on k (hS j hj)⟩
theorem FamO.below (h:FamO w base P N V m)(hb:Below w.heap.size w w2):FamO w2 base P N V m:=h.on (Kept.ofBelow hb) (fun _ _=>own_ne0 _)
theorem famO_nil (w:World)(base:Nat)(P:Nat->Value)(N:Nat->Nat)(V:Nat->Nat->Nat):FamO w base P N V 0:=⟨fun j hj=>absurd hj (by omega)⟩
/-- One more value. -/
def upV (P:Nat->Value)(m:Nat)(v:Value):Nat->Value:=fun j=>if j=m then v else P j
theorem upV_at (P:Nat->Value)(m:Nat)(v:Value):upV P m v m=v:=if_pos rfl
theorem upV_lt (P:Nat->Value){m j:Nat}{v:Value}(h:j<m):upV P m v j=P j:=if_neg (by omega)
theorem FamO.add (h:FamO w base P N V m){v:Value}(hv:OwnI w base v (N m) (V m)):FamO w base (upV P m v) N V (m+1):=⟨fun j hj=>by
 by_cases e:j=m
 ·subst e;rw[upV_at];exact hv
 ·rw[upV_lt P (show j<m by omega)];exact h.own j (by omega)⟩
theorem z_add {v x:Value}(h: ∀j,j<m-> ∀b,(P j).ownBlock=some b->v.ownBlock≠some b)(hx: ∀b,x.ownBlock=some b->v.ownBlock≠some b): ∀j,j<m+1-> ∀b,(upV P m x j).ownBlock=some b->v.ownBlock≠some b:=fun j hj=>by
 by_cases e:j=m
 ·subst e;rw[upV_at];exact hx
 ·rw[upV_lt P (show j<m by omega)];exact h j (by omega)
theorem FamO.ni (h:FamO w base P N V m){j:Nat}(hj:j<m):NiAt w (P j) (N j) (V j):=by
 have ho:=h.own j hj
 obtain⟨ab,c,e⟩:=own_shape ho
 rw[e]at ho
 obtain⟨_,gb,cur,hn⟩:=ownI_nums ho
 exact⟨ab,c,gb,0,cur,_,e,hn⟩
end
theorem OwnI.from {w:World}{b b':Nat}{v:Value}{n:Nat}{u:Nat->Nat}(h:OwnI w b v n u)(hb:b'<=b):OwnI w b' v n u:=by
 refine⟨h.1,h.2.imp id ?_⟩
 rintro⟨g,cap,cur,h1,h2,h3⟩
 exact⟨g,cap,cur,h1,Nat.le_trans hb h2,h3⟩
/-- Whether the equations may be, as far as the first i rows tell. -/
def mB (m nr:Nat)(N:Nat->Nat):Nat->Bool
 |0=>decide (0<m)&&decide (m=nr)
 |i+1=>mB m nr N i&&(decide (N i=N 0)&&decide (0<N i))
theorem mB_yes {m nr:Nat}{N:Nat->Nat}: ∀i,mB m nr N i=true->0<m/\m=nr/\ ∀j,j<i->N j=N 0/\0<N j
 |0,h=>by
  simp only[mB,Bool.and_eq_true,decide_eq_true_eq]at h
  exact⟨h.1,h.2,fun j hj=>absurd hj (by omega)⟩
 |i+1,h=>by
  simp only[mB,Bool.and_eq_true,decide_eq_true_eq]at h
  obtain⟨h1,h2,h3⟩:=mB_yes i h.1
  exact⟨h1,h2,fun j hj=>if e:j=i then(e▸h.2)else h3 j (by omega)⟩
theorem mB_of {m nr:Nat}{N:Nat->Nat}(h1:0<m)(h2:m=nr): ∀i,(∀j,j<i->N j=N 0/\0<N j)->mB m nr N i=true
 |0,_=>by simp only[mB,Bool.and_eq_true,decide_eq_true_eq];exact⟨h1,h2⟩
 |i+1,h=>by
  simp only[mB,Bool.and_eq_true,decide_eq_true_eq]
  exact⟨mB_of h1 h2 i fun j hj=>h j (by omega),h i (by omega)⟩
theorem aeq_colx (ab ar a0:Option Addr)(m c cr n c0:Nat)(S:Nat->Value)(gb ob:Nat)(bcs:Array Value)(tb:TypeId)(w:World)(h1:0<m)(h16:m<=16)(hna:VsAt w ab m S gb ob bcs tb)(hS0:S 0= .slice a0 n c0)(h:n<1∨16<n):
  Calls Tryz.prog 21 #[.slice ab m c,.slice ar m cr] w fun e w'=>e= .returned (.bool false)/\Below w.heap.size w w':=by
 by_cases h2:n<1
 ·clear h
  go_enter Tryz.func21,Tryz.ntmps21
  have sb:=sbmk w
  iterate 2 go_step
  refine rp ?_;refine p_v (.bool false) (fun _=>rfl) (pw_nil ?_);simp only[pv]
  iterate 4 go_step
  refine rp ?_;refine p_m ?_;simp only[pv];refine p_v (.int .i64 m) (n_l ab m c sl_ll) ?_;refine p_v (.bool false) (lt_f m 1) ?_;refine p_m ?_;refine p_m ?_;simp only[pv];refine p_v (.int .i64 m) (n_l ab m c sl_ll) ?_;refine p_v (.bool false) (gt_f m 16) ?_;refine p_k false (.bool false) ?_;refine p_m ?_;refine p_m ?_;simp only[pv];refine p_v (.int .i64 m) (n_l ar m cr sl_natsX) ?_;refine p_m ?_;simp only[pv];refine p_v (.int .i64 m) (n_l ab m c sl_ll) ?_;simp only[pv];refine p_v (.bool false) (exec_neq_k .i64 _ _ _ _ rfl m m rfl rfl false (by rw[decide_eq_true rfl];rfl)) ?_;refine p_k false (.bool false) (pw_nil ?_);simp only[pv]
  obtain h0|⟨rfl,rB,hbt⟩:=hna.at'
  ·exact absurd h0 (by omega)
  have hbt':=hbt 0 h1
  rw[hS0]at hbt'
  clear hbt
  iterate 7 go_step
  refine rp ?_;refine p_m ?_;simp only[pv];refine p_x 0 h1 Tryz.underlying22 Tryz.sizeOf23 ?_;simp only[pv];refine p_d (ob+0*1) rB (.slice a0 n c0) hbt' Tryz.isAgg23 ?_;simp only[pv];refine p_v (.int .i64 n) (n_l a0 n c0 sl_natsX) ?_;simp only[pv];refine pw_newv (by rfl) 3 rfl (.int .i64 0) z_int rfl ?_;intro g5 z3004 n0 r5 k;simp only[pv]
  have b5:=Nat.le_trans sb.size n0
  clear n0;replace sb:=kk sb k;clear k;refine pw_putv (by rfl) 3 _ _ rfl _ (0) rfl r5 (.int .i64 n) rfl rfl rfl size1tint (by exact Nat.one_pos) (#[.int .i64 n]) rfl ?_;clear r5;intro z3005 r5 k;simp only[Act.put];replace sb:=kk sb k;clear k;refine pw_nil ?_;clear rB hbt'
  iterate 4 go_step
  refine rp ?_;refine p_d 0 r5.r (.int .i64 n) rfl Tryz.isAgg3 ?_;refine p_v (.bool true) (lt_t n 1) ?_;refine p_m ?_;refine p_s ?_;refine p_s ?_;simp only[pv];refine p_k true (.bool true) (pw_nil ?_);simp only[pv]
  iterate 4 go_step
  refine rp ?_;refine p_v (.bool false) (fun _=>rfl) (pw_nil ?_);simp only[pv]
  go_wp2
  go_ret
  exact⟨rfl,sb⟩
 ·have h3:16<n:=by omega
  clear h
  go_enter Tryz.func21,Tryz.ntmps21
  have sb:=sbmk w
  iterate 2 go_step
  refine rp ?_;refine p_v (.bool false) (fun _=>rfl) (pw_nil ?_);simp only[pv]
  iterate 4 go_step
  refine rp ?_;refine p_m ?_;simp only[pv];refine p_v (.int .i64 m) (n_l ab m c sl_ll) ?_;refine p_v (.bool false) (lt_f m 1) ?_;refine p_m ?_;refine p_m ?_;simp only[pv];refine p_v (.int .i64 m) (n_l ab m c sl_ll) ?_;refine p_v (.bool false) (gt_f m 16) ?_;refine p_k false (.bool false) ?_;refine p_m ?_;refine p_m ?_;simp only[pv];refine p_v (.int .i64 m) (n_l ar m cr sl_natsX) ?_;refine p_m ?_;simp only[pv];refine p_v (.int .i64 m) (n_l ab m c sl_ll) ?_;simp only[pv];refine p_v (.bool false) (exec_neq_k .i64 _ _ _ _ rfl m m rfl rfl false (by rw[decide_eq_true rfl];rfl)) ?_;refine p_k false (.bool false) (pw_nil ?_);simp only[pv]
  obtain h0|⟨rfl,rB,hbt⟩:=hna.at'
  ·exact absurd h0 (by omega)
  have hbt':=hbt 0 h1
  rw[hS0]at hbt'
  clear hbt
  iterate 7 go_step
  refine rp ?_;refine p_m ?_;simp only[pv];refine p_x 0 h1 Tryz.underlying22 Tryz.sizeOf23 ?_;simp only[pv];refine p_d (ob+0*1) rB (.slice a0 n c0) hbt' Tryz.isAgg23 ?_;simp only[pv];refine p_v (.int .i64 n) (n_l a0 n c0 sl_natsX) ?_;simp only[pv];refine pw_newv (by rfl) 3 rfl (.int .i64 0) z_int rfl ?_;intro g5 z3004 n0 r5 k;simp only[pv]
  have b5:=Nat.le_trans sb.size n0
  clear n0;replace sb:=kk sb k;clear k;refine pw_putv (by rfl) 3 _ _ rfl _ (0) rfl r5 (.int .i64 n) rfl rfl rfl size1tint (by exact Nat.one_pos) (#[.int .i64 n]) rfl ?_;clear r5;intro z3005 r5 k;simp only[Act.put];replace sb:=kk sb k;clear k;refine pw_nil ?_;clear rB hbt'
  iterate 4 go_step
  refine rp ?_;refine p_d 0 r5.r (.int .i64 n) rfl Tryz.isAgg3 ?_;refine p_v (.bool false) (lt_f n 1) ?_;refine p_m ?_;simp only[pv];refine p_d 0 r5.r (.int .i64 n) rfl Tryz.isAgg3 ?_;refine p_v (.bool true) (gt_t n 16) ?_;refine p_k false (.bool true) (pw_nil ?_);simp only[pv]
  iterate 4 go_step
  refine rp ?_;refine p_v (.bool false) (fun _=>rfl) (pw_nil ?_);simp only[pv]
  go_wp2
  go_ret
  exact⟨rfl,sb⟩
/-- What Solve tells of any equations, few as they are. -/
def SvR {Q:Nat}[NeZero Q](base:Nat)(w':World)(M:Mx Q)(m nr:Nat)(N:Nat->Nat)(v:Value)(z:Int):Prop:=(mB m nr N m=true->N 0<=16->SolR base w' M m (N 0) v z)/\(mB m nr N m=false->z=1/\v= .slice none 0 0)
theorem solve_gen {Q:Nat}[NeZero Q]{g gr gf P G:Nat}{w:World}(ab ae:Option Addr)(m c nr ce:Nat)(S:Nat->Value)(N:Nat->Nat)(A:Nat->Nat->Nat)(b:Nat->Nat)(gb ob:Nat)(bcs:Array Value)(tb:TypeId)(ge oe:Nat)(ecs:Array Value)(te:TypeId)(q:FdQ Q)(hm:m<=6)(hna:VsAt w ab m S gb ob bcs tb)(hS: ∀i,i<m->NrAt w (S i) (N i) (A i))(hnr:NatsAt w ae nr b ge oe ecs te)(h:GrpAt w g gr gf P Q G):
  Calls Tryz.prog 6 #[.pointer (some ⟨g,0,none⟩),.slice ab m c,.slice ae nr ce] w fun e w'=> ∃v z,e= .returned (.tuple #[v,.int .i64 z])/\SvR w.heap.size w' (mxJ A b (N 0):Mx Q) m nr N v z/\Below w.heap.size w w':=by
 by_cases hok:mB m nr N m=true/\N 0<=16
 ·obtain⟨hb,h6⟩:=hok
  obtain⟨h1,h2,h3⟩:=mB_yes m hb
  subst h2
  refine(solve_any ab ae m c ce (N 0) S A b gb ob bcs tb ge oe ecs te q h1 (by omega) (h3 0 h1).2 h6 hna (fun i hi=>by have:=hS i hi;rw[(h3 i hi).1]at this;exact this) hnr h).mono ?_
  rintro e w' ⟨v,z,rfl,hR,hb2⟩
  exact⟨v,z,rfl,⟨fun _ _=>hR,fun h=>by rw[hb]at h;cases h⟩,hb2⟩
 ·have key: ∀w',Below w.heap.size w w'->Calls Tryz.prog 21 #[.slice ab m c,.slice ae nr ce] w' fun e w2=>e= .returned (.bool false)/\Below w'.heap.size w' w2:=fun w' hb'=>by
   by_cases h1:m<1∨16<m∨nr≠m
   ·exact aeq_few ab ae m c nr ce w' h1
   ·have h2:nr=m:=by omega
    subst h2
    have h0:0<nr:=by omega
    obtain⟨a0,c0,_,_,_,_,e0,_⟩:=hS 0 h0
    by_cases h3:N 0<1∨16<N 0
    ·exact aeq_colx ab ae a0 nr c ce (N 0) c0 S gb ob bcs tb w' h0 (by omega) (hna.below hb') e0 h3
    ·have hany:anB (fun i=> !decide ((N i:Int)=N 0)) nr=true:=by
      cases hx:anB (fun i=> !decide ((N i:Int)=N 0)) nr with
      |true=>rfl
      |false=>
       refine absurd ⟨mB_of h0 rfl nr fun j hj=>?_,by omega⟩ hok
       have e:N j=N 0:=by
        have h4: ¬(!decide ((N j:Int)=N 0))=true:=fun h5=>by
         rw[(anB_iff _ _).2 ⟨j,hj,h5⟩]at hx
         cases hx
        simp only[Bool.not_eq_true',decide_eq_false_iff_not,Decidable.not_not]at h4
        omega
       exact⟨e,by omega⟩
     exact aeq_all ab ae a0 nr c ce (N 0) c0 S gb ob bcs tb w' h0 (by omega) (hna.below hb') e0 (by omega) (by omega) N true (fun i hi=>by
      obtain⟨ai,ci,_,_,_,_,e,_⟩:=hS i hi
      exact⟨ai,ci,e⟩) hany
  refine(solve_arg (.slice ab m c) (.slice ae nr ce) h key).mono ?_
  rintro e w' ⟨rfl,hb2⟩
  exact⟨_,1,rfl,⟨fun h h6=>absurd ⟨h,h6⟩ hok,fun _=>⟨rfl,rfl⟩⟩,hb2⟩
theorem SolR.below {Q:Nat}[NeZero Q]{base:Nat}{w' w2:World}{M:Mx Q}{m n:Nat}{v:Value}{z:Int}(h:SolR base w' M m n v z)(hb:Below w'.heap.size w' w2):SolR base w2 M m n v z:=h.imp id fun⟨h1,gX,X,h2,h3,h4,h5⟩=>⟨h1,gX,X,h2,h3,h4.belowAll hb,h5⟩
theorem SvR.below {Q:Nat}[NeZero Q]{base:Nat}{w' w2:World}{M:Mx Q}{m nr:Nat}{N:Nat->Nat}{v:Value}{z:Int}(h:SvR base w' M m nr N v z)(hb:Below w'.heap.size w' w2):SvR base w2 M m nr N v z:=⟨fun h1 h2=>SolR.below (h.1 h1 h2) hb,h.2⟩
theorem ni_congr {w:World}{v:Value}{n:Nat}{F G:Nat->Nat}(h:NiAt w v n F)(he: ∀k,k<n->F k=G k):NiAt w v n G:=by
 obtain⟨ab,c,gb,ob,bcs,tb,h1,h2⟩:=h
 exact⟨ab,c,gb,ob,bcs,tb,h1,h2.congr he⟩
theorem vs_own {w:World}{bs:Nat}{v:Value}{n:Nat}{S:Nat->Value}(h:OwnE 1 32 w bs v n (fun j=>#[S j])): ∃ab c gb cur,v= .slice ab n c/\VsAt w ab n S gb 0 cur 32:=by
 obtain⟨ab,c,gb,cur,e,_,hp⟩:=ownE_els (k:=1) (C:=fun j=>#[S j]) (fun _=>rfl) h
 exact⟨ab,c,gb,cur,e,⟨hp.at'.imp id fun⟨h1,h2,h3⟩=>⟨h1,h2,fun i hi=>by have:=h3 i hi 0 _ rfl;rwa [Nat.add_zero]at this⟩⟩⟩
section
variable {P:Program}{ops:Array Oper}{C:World->Prop}{Q:Act->World->Prop}{fn:Nat->Bool}{i:Nat}{L:DL}{a:Act}{w:World}{o:Oper}
/-- An assignment that comes last. -/
theorem ew_asH {t:Tmp}{v:Value}(hw:Region.wanted o (yielded ops a.tmps)=true)(ho:o.op= .assign (.tmp t))(hx:a.tmps.toList[t]?=some v)(hf:fn i=true)(h: ∀w2,Below w.heap.size w w2->EW P ops C Q fn L (a.put o.dst v) w2):EW P ops C Q fn ((i,o,true)::L) a w:=by
 refine ew_hard hw fun w2 hb=>?_
 have he:a.eval (.tmp t)=v:=by
  show a.tmps.getD t undef=v
  rw[Array.getD_eq_getD_getElem?,<-Array.getElem?_toList,hx]
  rfl
 have hr:(execOp a.eval o).run P w2= .ok (.value v) w2:=by
  unfold execOp
  simp only[ho,he]
  rfl
 rw[hr]
 exact⟨fun h3=>(by rw[hf]at h3;cases h3),h w2 hb⟩
/-- A literal of no elements, in a drawn region. -/
theorem ew_lit0 (hw:Region.wanted o (yielded ops a.tmps)=true)(t e:TypeId)(ho:o.op= .buildSlice t 0 #[])(ie:TypeInfo)(hu:P.underlying t=some (.slice e))(hie:P.info? e=some ie)
  (h: ∀w2,Below w.heap.size w w2-> ∀g w3,w2.heap.size<=g->Below w2.heap.size w2 w3->(fn i=false->C w3)/\EW P ops C Q fn L (a.put o.dst (.slice (some ⟨g,0,none⟩) 0 0)) w3):EW P ops C Q fn ((i,o,true)::L) a w:=by
 refine ew_hard hw fun w2 hb=>?_
 have hr:(Instr.buildSlice t 0 #[]).run P w2= .ok (.slice (some ⟨w2.heap.size,0,none⟩) 0 0) (w2.alloc (.cells #[] e)):=by
  simp[Instr.buildSlice,run_underlying hu,sizeOf,typeInfo,hie,newRow,Instr.fill]
  congr 2
  exact Array.eq_empty_of_size_eq_zero (by simp)
 have hd:(execOp a.eval o).run P w2= .ok (.value (.slice (some ⟨w2.heap.size,0,none⟩) 0 0)) (w2.alloc (.cells #[] e)):=by
  unfold execOp
  simp only[ho,Sem.run_bind];simp only[List.map_toArray,List.map_nil,hr]
  rfl
 rw[hd]
 exact h w2 hb w2.heap.size _ (Nat.le_refl _) (below_alloc _)
end
section
variable {ops:Array Oper}{C:World->Prop}{Q:Act->World->Prop}{fn:Nat->Bool}{i:Nat}{L:DL}{a:Act}{w:World}{o:Oper}
/-- Numbers that are copied behind none, in a drawn region: an own slice. -/
theorem ew_cpI (hw:Region.wanted o (yielded ops a.tmps)=true)(s x:Operand)(ho:o.op= .call {callee:=.builtin .append,args:=#[s,x],argTypes:=#[32,32]})(g0:Nat)(hs:a.eval s= .slice (some ⟨g0,0,none⟩) 0 0)(v:Value)(n base:Nat)(u:Nat->Nat)(hx:a.eval x=v)(hown:OwnI w base v n u)(hn1:1<=n)(hn:n<=1000)
  (h: ∀w2,Below w.heap.size w w2-> ∀v' w3,OwnI w3 w2.heap.size v' n u->Below w2.heap.size w2 w3->(fn i=false->C w3)/\EW Tryz.prog ops C Q fn L (a.put o.dst v') w3):EW Tryz.prog ops C Q fn ((i,o,true)::L) a w:=by
 refine ew_hard hw fun w2 hb=>?_
 have own2:=own_below hown hb
 rcases own2.2 with ⟨_,rfl⟩|⟨gb,cap,cur,rfl,_,_,hnc,_,_,_⟩
 ·exact absurd hn1 (by decide)
 have hl1:(isC n u).toList.length=n:=by rw[Array.length_toList,isC_size]
 have hnews:=own2.cells (g:=gb) rfl
 obtain⟨cp,hge,hcm,hd⟩:=run_cpI w2 s x ho g0 hs ⟨gb,0,none⟩ n cap u hx hn1 hn hnews
 rw[hd]
 refine h w2 hb _ _ ⟨by rw[hl1,Nat.mul_one],.inr ⟨w2.heap.size,cp,_,rfl,Nat.le_refl _,heap_alloc_new w2.drew _,hge,hcm,?_,?_⟩⟩ ⟨rfl,rfl,rfl,by simp,fun k hk=>heap_alloc_old w2.drew _ hk⟩
 ·simp only[Array.size_append,List.size_toArray,size_zeroCells,hl1]
  show 0+n+(cp-n)*1=cp*1
  omega
 ·rw[Nat.mul_one]
  simp only[Array.toList_append,List.nil_append]
  exact List.take_left' hl1
end
theorem core0 (a0:Int)(ab ae:Option Addr)(m c nr ce:Nat)(w:World)(h:6<m∨6<nr):
  Calls Tryz.prog 3 #[.int .i64 a0,.slice ab m c,.slice ae nr ce] w fun e w'=>e= .returned (.bool true)/\Below w.heap.size w w':=by
 have haw:=awake15_any
 go_enter Tryz.func3,Tryz.ntmps3
 have sb:=sbmk w
 iterate 2 go_step
 refine rp ?_;refine p_v (.bool false) (fun _=>rfl) (pw_nil ?_);simp only[pv]
 by_cases h1:6<m
 ·have h2:=h1
  iterate 4 go_step
  refine rp ?_;refine p_m ?_;simp only[pv];refine p_v (.int .i64 m) (n_l ab m c sl_ll) ?_;refine p_v (.bool true) (gt_t m 6) ?_;refine p_m ?_;refine p_s ?_;refine p_s ?_;simp only[pv];refine p_s ?_;refine p_k true (.bool true) (pw_nil ?_);simp only[pv]
  iterate 4 go_step
  refine rp ?_;refine p_c 4 Tryz.func4 #[] (haw _) ?_;intro z2000 k;simp only[pv];replace sb:=kk sb k;clear k;refine p_a (pw_nil ?_);simp only[pv]
  go_wp2
  go_ret
  exact⟨rfl,sb⟩
 ·have h2:6<nr:=by omega
  iterate 4 go_step
  refine rp ?_;refine p_m ?_;simp only[pv];refine p_v (.int .i64 m) (n_l ab m c sl_ll) ?_;refine p_v (.bool false) (gt_f m 6) ?_;refine p_m ?_;refine p_m ?_;simp only[pv];refine p_v (.int .i64 nr) (n_l ae nr ce sl_natsX) ?_;refine p_v (.bool true) (gt_t nr 6) ?_;refine p_k false (.bool true) (pw_nil ?_);simp only[pv]
  iterate 4 go_step
  refine rp ?_;refine p_c 4 Tryz.func4 #[] (haw _) ?_;intro z2000 k;simp only[pv];replace sb:=kk sb k;clear k;refine p_a (pw_nil ?_);simp only[pv]
  go_wp2
  go_ret
  exact⟨rfl,sb⟩
theorem slv_call {Q:Nat}[NeZero Q](ay:Option Addr)(cy:Nat)(aP:Option Addr)(cP m nr n:Nat)(P1:Nat->Value)(N:Nat->Nat)(A:Nat->Nat->Nat)(b:Nat->Nat)(X:Nat->Fin Q)(gy:Nat)(ycs:Array Value)(gP:Nat)(curP:Array Value)(vz:Value)(w:World)(q:FdQ Q)(hq:Q<4611686018427387904)(hm:m<=6)(hn:n<=6)(hmn:m=nr)(hNj: ∀j,j<m->N j=n)(h1:IlAt w vz (fl n (fun k=>(X k).val):List (Fin Q)))(h2:VsAt w aP m P1 gP 0 curP 32)(h3: ∀j,j<m->NiAt w (P1 j) (N j) (fun k=>A j k%Q))(h4:NumsAt w ay nr (fun i=>b i%Q) gy 0 ycs 3)(hX:Sol (mxJ A b n:Mx Q) m n X):
  Calls Tryz.prog 9 #[vz,.slice aP m cP,.slice ay nr cy,.int .i64 (Q:Nat)] w fun e w'=>e= .returned (.bool true)/\Below w.heap.size w w':=by
 obtain⟨az,cz,gz,oz,zcs,tz,rfl,_,hzn⟩:=h1
 rw[fl_length]at hzn ⊢
 subst hmn
 exact solves_any aP az ay m cP n cz cy P1 (mxJ A b n) X gP 0 curP _ gz oz zcs tz gy 0 ycs _ w q hq (by omega) (by omega) h2 (fun j hj=>by
  have h5:=h3 j hj
  rw[hNj j hj]at h5
  exact ni_congr h5 fun k hk=>by
   show A j k%Q=(if k=n then fi (b j)else fi (A j k):Fin Q).val
   rw[if_neg (by omega)];rfl) (hzn.congr fun k hk=>by rw[fl_co _ _ _ hk,fi_of]) (h4.congr fun i _=>by
  show b i%Q=(if n=n then fi (b i)else fi (A i n):Fin Q).val
  rw[if_pos rfl];rfl) hX
theorem same_call {Q:Nat}[NeZero Q](n gX:Nat)(X:Nat->Fin Q)(vn:Value)(w:World)(q:FdQ Q)(hn:n<=6){xcs:Array Value}{tx:TypeId}(h0:NatsAt w (some ⟨gX,0,none⟩) n (fun k=>(X k).val) gX 0 xcs tx)(h1:PlAt w vn (fl n (fun k=>(X k).val):List (Fin Q))):
  Calls Tryz.prog 10 #[.slice (some ⟨gX,0,none⟩) n n,vn] w fun e w'=>e= .returned (.bool true)/\Below w.heap.size w w':=by
 obtain⟨an,cn,gn,on,ncs,tn,rfl,hnn⟩:=h1
 rw[fl_length]at hnn ⊢
 exact rsame_yes n n cn (some ⟨gX,0,none⟩) an (fun k=>(X k).val) gX 0 gn on xcs ncs tx tn w (by omega) h0 (hnn.congr fun k hk=>by rw[fl_co _ _ _ hk,fi_of])
section
variable {w w2 z0 zr:World}{b np nl n ma mb:Nat}{p l r v1 vx:Value}{CP CL:Nat->Array Value}{u:Nat->Nat}{PA PB:Nat->Value}{NA NB:Nat->Nat}{VA VB:Nat->Nat->Nat}
/-- What is carried on. -/
structure Cr (z0 zr:World)(p l r:Value)(np nl n:Nat)(CP CL:Nat->Array Value)(u:Nat->Nat)(PA PB:Nat->Value)(NA NB:Nat->Nat)(VA VB:Nat->Nat->Nat)(ma mb:Nat)(w:World):Prop where
 hP:OwnE 1 32 w z0.heap.size p np CP
 hL:OwnE 1 32 w z0.heap.size l nl CL
 hR:OwnI w z0.heap.size r n u
 hA:FamO w z0.heap.size PA NA VA ma
 hB:FamO w z0.heap.size PB NB VB mb
 sd:Below z0.heap.size z0 w
 cb:Below zr.heap.size zr w
theorem Cr.on (h:Cr z0 zr p l r np nl n CP CL u PA PB NA NB VA VB ma mb w)(hb:Below w.heap.size w w2):Cr z0 zr p l r np nl n CP CL u PA PB NA NB VA VB ma mb w2:=⟨h.hP.on (Kept.ofBelow hb) (own_ne0 _),h.hL.on (Kept.ofBelow hb) (own_ne0 _),h.hR.on (Kept.ofBelow hb) (own_ne0 _),h.hA.below hb,h.hB.below hb,below_on h.sd (Nat.le_refl _) hb,below_on h.cb (Nat.le_refl _) hb⟩
theorem Cr.app (h:Cr z0 zr p l r np nl n CP CL u PA PB NA NB VA VB ma mb w)(hp:v1.ownBlock=vx.ownBlock∨v1.ownBlock=some w.heap.size)(k:Kept vx.ownBlock.toList w w2)(zP: ∀x,p.ownBlock=some x->vx.ownBlock≠some x)(zL: ∀x,l.ownBlock=some x->vx.ownBlock≠some x)(zR: ∀x,r.ownBlock=some x->vx.ownBlock≠some x)(zA: ∀j,j<ma-> ∀x,(PA j).ownBlock=some x->vx.ownBlock≠some x)(zB: ∀j,j<mb-> ∀x,(PB j).ownBlock=some x->vx.ownBlock≠some x)(h1: ∀x∈vx.ownBlock.toList,z0.heap.size<=x)(h2: ∀x∈vx.ownBlock.toList,zr.heap.size<=x):
  Cr z0 zr p l r np nl n CP CL u PA PB NA NB VA VB ma mb w2/\(∀x,p.ownBlock=some x->v1.ownBlock≠some x)/\(∀x,l.ownBlock=some x->v1.ownBlock≠some x)/\(∀j,j<ma-> ∀x,(PA j).ownBlock=some x->v1.ownBlock≠some x)/\(∀j,j<mb-> ∀x,(PB j).ownBlock=some x->v1.ownBlock≠some x):=
 ⟨⟨h.hP.on k (own_nin2 zP),h.hL.on k (own_nin2 zL),h.hR.on k (own_nin2 zR),h.hA.on k (fun j hj=>own_nin2 (zA j hj)),h.hB.on k (fun j hj=>own_nin2 (zB j hj)),h.sd.trans (k.below _ h.sd.size h1),h.cb.trans (k.below _ h.cb.size h2)⟩,own_two h.hP hp zP,own_two h.hL hp zL,fun j hj=>own_two (h.hA.own j hj) hp (zA j hj),fun j hj=>own_two (h.hB.own j hj) hp (zB j hj)⟩
theorem Cr.low (h:Cr z0 zr p l r np nl n CP CL u PA PB NA NB VA VB ma mb w){k:Nat}{u2:Nat->Nat}(hN:OwnI w2 w.heap.size vx k u2):(∀x,p.ownBlock=some x->vx.ownBlock≠some x)/\(∀x,l.ownBlock=some x->vx.ownBlock≠some x)/\(∀x,r.ownBlock=some x->vx.ownBlock≠some x)/\(∀j,j<ma-> ∀x,(PA j).ownBlock=some x->vx.ownBlock≠some x)/\ ∀j,j<mb-> ∀x,(PB j).ownBlock=some x->vx.ownBlock≠some x:=
 ⟨fun x hx=>hN.low (World.ownsRow.lt h.hP x hx).2,fun x hx=>hN.low (World.ownsRow.lt h.hL x hx).2,fun x hx=>hN.low (World.ownsRow.lt h.hR x hx).2,fun j hj x hx=>hN.low (World.ownsRow.lt (h.hA.own j hj) x hx).2,fun j hj x hx=>hN.low (World.ownsRow.lt (h.hB.own j hj) x hx).2⟩
theorem z_low {a:Nat}{v:Value}(h:OwnI w b r n u)(hl: ∀x,v.ownBlock=some x->a<=x/\x<b): ∀x,r.ownBlock=some x->v.ownBlock≠some x:=own_sym fun x hx=>h.low (hl x hx).2
theorem app_all (hp:v1.ownBlock=vx.ownBlock∨v1.ownBlock=some w.heap.size)(k:Kept vx.ownBlock.toList w w2)(hL:OwnE 1 32 w b l nl CL)(hR:OwnI w b r n u)(hA:FamO w b PA NA VA ma)(hB:FamO w b PB NB VB mb)(zL: ∀x,l.ownBlock=some x->vx.ownBlock≠some x)(zR: ∀x,r.ownBlock=some x->vx.ownBlock≠some x)(zA: ∀j,j<ma-> ∀x,(PA j).ownBlock=some x->vx.ownBlock≠some x)(zB: ∀j,j<mb-> ∀x,(PB j).ownBlock=some x->vx.ownBlock≠some x):
  OwnE 1 32 w2 b l nl CL/\(∀x,l.ownBlock=some x->v1.ownBlock≠some x)/\OwnI w2 b r n u/\(∀x,r.ownBlock=some x->v1.ownBlock≠some x)/\FamO w2 b PA NA VA ma/\(∀j,j<ma-> ∀x,(PA j).ownBlock=some x->v1.ownBlock≠some x)/\FamO w2 b PB NB VB mb/\(∀j,j<mb-> ∀x,(PB j).ownBlock=some x->v1.ownBlock≠some x):=
 ⟨hL.on k (own_nin2 zL),own_two hL hp zL,hR.on k (own_nin2 zR),own_two hR hp zR,hA.on k (fun j hj=>own_nin2 (zA j hj)),fun j hj=>own_two (hA.own j hj) hp (zA j hj),hB.on k (fun j hj=>own_nin2 (zB j hj)),fun j hj=>own_two (hB.own j hj) hp (zB j hj)⟩
theorem car4 (hb:Below w.heap.size w w2)(hP:OwnE 1 32 w b p np CP)(hL:OwnE 1 32 w b l nl CL)(hA:FamO w b PA NA VA ma)(hB:FamO w b PB NB VB mb):OwnE 1 32 w2 b p np CP/\OwnE 1 32 w2 b l nl CL/\FamO w2 b PA NA VA ma/\FamO w2 b PB NB VB mb:=⟨hP.on (Kept.ofBelow hb) (own_ne0 _),hL.on (Kept.ofBelow hb) (own_ne0 _),hA.below hb,hB.below hb⟩
end
theorem r_up {w:World}{bs n bi:Nat}{v:Value}{F:Nat->Nat}(h:w.ownsRow bs 3 1 v (n+1) ((isC n F).toList++(#[.int .i64 (bi:Nat)]:Array Value).toList)):OwnI w bs v (n+1) (fun k=>if k=n then bi else F k):=by
 rw[isC_congr n (u2:=fun k=>if k=n then bi else F k) (fun k hk=>(if_neg (by omega)).symm),show(#[.int .i64 (bi:Nat)]:Array Value)=#[.int .i64 (((fun k=>if k=n then bi else F k) n:Nat):Int)] by rw[show((fun k=>if k=n then bi else F k) n)=bi from if_pos rfl],isC_snoc]at h
 exact h
theorem l_up {w:World}{bs n:Nat}{v x:Value}(P:Nat->Value)(h:w.ownsRow bs 32 1 v (n+1) ((esC 1 n (fun j=>#[P j])).toList++(#[x]:Array Value).toList)):OwnE 1 32 w bs v (n+1) (fun j=>#[upV P n x j]):=by
 rw[esC_congr (D:=fun j=>#[upV P n x j]) (fun j hj=>by show #[_]=#[_];rw[upV_lt P hj]),show(#[x]:Array Value)=(fun j=>#[upV P n x j]) n by show _=#[_];rw[upV_at],esC_snoc (C:=fun j=>#[upV P n x j]) (fun _=>rfl) n]at h
 exact h
section
variable (a0:Int)(ab ae:Option Addr)(m c nr ce:Nat)(S:Nat->Value)(N:Nat->Nat)(A:Nat->Nat->Nat)(b:Nat->Nat)(gb ob:Nat)(bcs:Array Value)(tb:TypeId)(ge oe:Nat)(ecs:Array Value)(te:TypeId)(QQ PP GG:Nat)[NeZero QQ](w:World)(q:FdQ QQ)(hq:QQ<4611686018427387904)(hm:m<=6)(hnr6:nr<=6)(hN: ∀i,i<m->N i<=maxLen)
  (hsm: ∀w',Calls Tryz.prog 5 #[.int .i64 a0] w' fun e w2=> ∃g gr gf,e= .returned (.tuple #[.pointer (some ⟨g,0,none⟩),.int .i64 (QQ:Nat),.bool true])/\GrpAt w2 g gr gf PP QQ GG/\Below w'.heap.size w' w2)(hna:VsAt w ab m S gb ob bcs tb)(hS: ∀i,i<m->NrAt w (S i) (N i) (A i))(hnr:NatsAt w ae nr b ge oe ecs te)
include q hq hm hnr6 hN hsm hna hS hnr
theorem coreZ (hm0:m=0):
  Calls Tryz.prog 3 #[.int .i64 a0,.slice ab m c,.slice ae nr ce] w fun e w'=>e= .returned (.bool true)/\Below w.heap.size w w':=by
 have haw:=awake15_any
 have hsv:=fun w' (hb:Below w.heap.size w w') g gr gf (hg:GrpAt w' g gr gf PP QQ GG)=>solve_gen ab ae m c nr ce S N A b gb ob bcs tb ge oe ecs te q hm (hna.below hb) (fun i hi=>(hS i hi).below hb) (hnr.below hb) hg
 have hay:=fun w' (hb:Below w.heap.size w w')=>rall_any ae nr ce QQ b ge oe ecs te w' (by omega) q.pos hq (hnr.below hb)
 go_enter Tryz.func3,Tryz.ntmps3
 have sb:=sbmk w
 iterate 2 go_step
 refine rp ?_;refine p_v (.bool false) (fun _=>rfl) (pw_nil ?_);simp only[pv]
 iterate 4 go_step
 refine rp ?_;refine p_m ?_;simp only[pv];refine p_v (.int .i64 m) (n_l ab m c sl_ll) ?_;refine p_v (.bool false) (gt_f m 6) ?_;refine p_m ?_;refine p_m ?_;simp only[pv];refine p_v (.int .i64 nr) (n_l ae nr ce sl_natsX) ?_;refine p_v (.bool false) (gt_f nr 6) ?_;refine p_k false (.bool false) (pw_nil ?_);simp only[pv]
 iterate 7 go_step
 refine rp ?_;refine p_m ?_;simp only[pv];refine p_f 5 Tryz.func5 #[.int .i64 a0] (hsm _) ?_
 rintro _ z3001 ⟨g,gr,gf,rfl,hg,hb⟩
 refine⟨_,rfl,?_⟩
 simp only[pv]
 have k:=Kept.ofBelow hb
 clear hb;replace sb:=kk sb k;clear k;refine p_m ?_;refine p_e ?_;refine p_e ?_;refine p_e ?_;refine p_a ?_;simp only[pv];refine p_a ?_;refine p_a (pw_nil ?_);simp only[pv];clear hsm
 iterate 3 go_step
 refine rp ?_;refine p_m ?_;refine p_m ?_;refine p_m ?_;simp only[pv];refine p_f 6 Tryz.func6 #[.pointer (some ⟨g,0,none⟩),.slice ab m c,.slice ae nr ce] (hsv _ sb g gr gf hg) ?_
 rintro _ z4003 ⟨vx,zx,rfl,hX,hb⟩
 refine⟨_,rfl,?_⟩
 simp only[pv]
 have k:=Kept.ofBelow hb
 clear hb;replace hg:=hg.below k.nil;replace sb:=kk sb k;clear k;refine p_m ?_;refine p_e ?_;refine p_e ?_;refine p_a ?_;refine p_a (pw_nil ?_);simp only[pv];clear hsv hg
 iterate 3 go_step
 refine rp ?_;refine p_m ?_;simp only[pv];refine p_v (.int .i64 m) (n_l ab m c sl_ll) ?_;refine p_v (.bool false) (gt_f m 0) ?_;refine p_m ?_;refine p_s ?_;refine p_s ?_;simp only[pv];refine p_s ?_;refine p_s ?_;refine p_s ?_;refine p_k false (.bool false) ?_;refine p_a (pw_nil ?_);simp only[pv]
 iterate 3 go_step
 refine rp ?_;refine p_v (.slice none 0 0) ((fun _=>rfl)) ?_;simp only[pv];refine p_v (.slice none 0 0) ((fun _=>rfl)) (pw_nil ?_);simp only[pv]
 iterate 3 go_step
 refine rp ?_;refine p_m ?_;refine p_m ?_;simp only[pv];refine p_f 7 Tryz.func7 #[.slice ae nr ce,.int .i64 (QQ:Nat)] (hay _ sb) ?_
 rintro _ z7002 ⟨vy,rfl,hY,hb⟩
 refine⟨_,rfl,?_⟩
 simp only[pv]
 have k:=Kept.ofBelow hb
 clear hb;replace hX:=hX.below k.nil;replace sb:=kk sb k;clear k;refine p_a (pw_nil ?_);simp only[pv];clear hay
 obtain⟨ay,cy,rfl⟩:=own_shape hY
 obtain⟨_,gy,ycs,hYn⟩:=ownI_nums hY
 clear hY
 iterate 4 go_step
 refine rp ?_;refine p_v (.int .i64 0) (fun _=>rfl) (pw_nil ?_);simp only[pv]
 obtain⟨rfl,rfl⟩:=hX.2 (by subst hm0;rfl)
 subst hm0
 go_wp2_with fail
 go_loopg [12,13,14,16,17] 0 (fun z s12 s13 s14 s16 s17 wr=>s16= .int .i64 0/\s12= .bool false/\Below w.heap.size w wr)
 case atStart=>exact⟨rfl,rfl,sb⟩
 case round=>
  clear sb hX
  obtain⟨rfl,rfl,sb⟩:=hrel
  iterate 2 go_step
  refine rp ?_;refine p_m ?_;refine p_m ?_;simp only[pv];refine p_v (.int .i64 0) (n_l ab 0 c sl_ll) ?_;simp only[pv];refine p_v (.bool false) (exec_lt_b _ _ _ _ rfl 0 0 rfl rfl false rfl) (pw_nil ?_);simp only[pv]
  iterate 8 go_step
  refine rp ?_;refine p_m ?_;simp only[pv];refine p_v (.bool true) (exec_not _ _ rfl false rfl) (pw_nil ?_);simp only[pv]
  iterate 4 go_step
  refine rp ?_;refine p_m ?_;refine p_m ?_;refine p_m ?_;simp only[pv];refine p_v (.int .i64 0) (n_l none 0 0 sl_natsX) ?_;simp only[pv];refine p_v (.bool true) (exec_eql_k .i64 _ _ _ _ rfl 0 0 rfl rfl true rfl) ?_;refine p_k true (.bool true) ?_;refine p_m ?_;refine p_m ?_;simp only[pv];refine p_v (.bool true) (exec_eql_k .i64 _ _ _ _ rfl 1 1 rfl rfl true rfl) ?_;refine p_k true (.bool true) ?_;refine p_m ?_;simp only[pv];refine p_c 4 Tryz.func4 #[] (haw _) ?_;intro z19011 k;simp only[pv];replace sb:=kk sb k;clear k;refine p_k true (.bool true) ?_;refine p_a (pw_nil ?_);simp only[pv]
  go_wp2
  go_ret
  exact⟨rfl,sb⟩
set_option maxHeartbeats 8000000 in
theorem core1 (hm0:0<m):
  Calls Tryz.prog 3 #[.int .i64 a0,.slice ab m c,.slice ae nr ce] w fun e w'=>e= .returned (.bool true)/\Below w.heap.size w w':=by
 have haw:=awake15_any
 have hsv:=fun w' (hb:Below w.heap.size w w') g gr gf (hg:GrpAt w' g gr gf PP QQ GG)=>solve_gen ab ae m c nr ce S N A b gb ob bcs tb ge oe ecs te q hm (hna.below hb) (fun i hi=>(hS i hi).below hb) (hnr.below hb) hg
 have hay:=fun w' (hb:Below w.heap.size w w')=>rall_any ae nr ce QQ b ge oe ecs te w' (by omega) q.pos hq (hnr.below hb)
 obtain⟨ii,hii,hzi,hszi,hbyi⟩:=info_int'
 obtain⟨is',his,hzs,hszs,hbys⟩:=info_sli
 have hi1: ¬1*ii.size>2^24:=by rw[hszi];decide
 have hi2: ¬1*ii.size=0:=by rw[hszi];decide
 have hli:=fun a=>lit_i1 a ii.size hszi
 have hs1: ¬1*is'.size>2^24:=by rw[hszs];decide
 have hs2: ¬1*is'.size=0:=by rw[hszs];decide
 have hls:=fun a n c=>lit_si a n c is'.size hszs
 have HB:Hid (VsAt w ab m S gb ob bcs tb):=hna
 have HS:Hid (∀i,i<m->NrAt w (S i) (N i) (A i)):=hS
 clear hna hS hnr hN
 go_enter Tryz.func3,Tryz.ntmps3
 have sb:=sbmk w
 iterate 2 go_step
 refine rp ?_;refine p_v (.bool false) (fun _=>rfl) (pw_nil ?_);simp only[pv]
 iterate 4 go_step
 refine rp ?_;refine p_m ?_;simp only[pv];refine p_v (.int .i64 m) (n_l ab m c sl_ll) ?_;refine p_v (.bool false) (gt_f m 6) ?_;refine p_m ?_;refine p_m ?_;simp only[pv];refine p_v (.int .i64 nr) (n_l ae nr ce sl_natsX) ?_;refine p_v (.bool false) (gt_f nr 6) ?_;refine p_k false (.bool false) (pw_nil ?_);simp only[pv]
 iterate 7 go_step
 refine rp ?_;refine p_m ?_;simp only[pv];refine p_f 5 Tryz.func5 #[.int .i64 a0] (hsm _) ?_
 rintro _ z3001 ⟨g,gr,gf,rfl,hg,hb⟩
 refine⟨_,rfl,?_⟩
 simp only[pv]
 have k:=Kept.ofBelow hb
 clear hb;replace sb:=kk sb k;clear k;refine p_m ?_;refine p_e ?_;refine p_e ?_;refine p_e ?_;refine p_a ?_;simp only[pv];refine p_a ?_;refine p_a (pw_nil ?_);simp only[pv];clear hsm
 iterate 3 go_step
 refine rp ?_;refine p_m ?_;refine p_m ?_;refine p_m ?_;simp only[pv];refine p_f 6 Tryz.func6 #[.pointer (some ⟨g,0,none⟩),.slice ab m c,.slice ae nr ce] (hsv _ sb g gr gf hg) ?_
 rintro _ z4003 ⟨vx,zx,rfl,hX,hb⟩
 refine⟨_,rfl,?_⟩
 simp only[pv]
 have k:=Kept.ofBelow hb
 clear hb;replace hg:=hg.below k.nil;replace sb:=kk sb k;clear k;refine p_m ?_;refine p_e ?_;refine p_e ?_;refine p_a ?_;refine p_a (pw_nil ?_);simp only[pv];clear hsv hg
 iterate 3 go_step
 refine rp ?_;refine p_m ?_;simp only[pv];refine p_v (.int .i64 m) (n_l ab m c sl_ll) ?_;refine p_v (.bool true) (gt_t m 0) ?_;refine p_m ?_;refine p_m ?_;simp only[pv];refine p_v (.int .i64 m) (n_l ab m c sl_ll) ?_;refine p_m ?_;simp only[pv];refine p_v (.int .i64 nr) (n_l ae nr ce sl_natsX) ?_;simp only[pv];refine p_v (.bool (decide (m=nr))) (exec_eql_k .i64 _ _ _ _ rfl m nr rfl rfl _ (decide_eq_decide.2 ⟨fun h=>by omega,fun h=>by omega⟩)) ?_;simp only[pv];refine pw_pick (by rfl) true (v:=.bool (decide (m=nr))) rfl rfl rfl ?_;refine p_a (pw_nil ?_);simp only[pv]
 iterate 3 go_step
 refine rp ?_;refine p_v (.slice none 0 0) ((fun _=>rfl)) ?_;simp only[pv];refine p_v (.slice none 0 0) ((fun _=>rfl)) (pw_nil ?_);simp only[pv]
 iterate 3 go_step
 refine rp ?_;refine p_m ?_;refine p_m ?_;simp only[pv];refine p_f 7 Tryz.func7 #[.slice ae nr ce,.int .i64 (QQ:Nat)] (hay _ sb) ?_
 rintro _ z7002 ⟨vy,rfl,hY,hb⟩
 refine⟨_,rfl,?_⟩
 simp only[pv]
 have k:=Kept.ofBelow hb
 clear hb;replace hX:=hX.below k.nil;replace sb:=kk sb k;clear k;refine p_a (pw_nil ?_);simp only[pv];clear hay
 obtain⟨ay,cy,rfl⟩:=own_shape hY
 obtain⟨_,gy,ycs,hYn⟩:=ownI_nums hY
 clear hY
 have sd:=sbmk z7002
 have HB1:Hid (VsAt z7002 ab m S gb ob bcs tb):=HB.out.below sb
 have HS1:Hid (∀i,i<m->NrAt z7002 (S i) (N i) (A i)):=fun i hi=>(HS.out i hi).below sb
 have HX1:Hid (SvR _ z7002 (mxJ A b (N 0):Mx QQ) m nr N vx zx):=hX
 have HY1:Hid (NumsAt z7002 ay nr (fun i=>b i%QQ) gy 0 ycs 3):=hYn
 have hmb00:decide (m=nr)=mB m nr N 0:=by
  show _=(decide (0<m)&&decide (m=nr))
  rw[decide_eq_true hm0,Bool.true_and]
 clear hX hYn HB HS
 iterate 4 go_step
 refine rp ?_;refine p_v (.int .i64 0) (fun _=>rfl) (pw_nil ?_);simp only[pv]
 go_wp2_with fail
 go_loopg [12,13,14,16,17] m (fun z s12 s13 s14 s16 s17 wr=> ∃(i cnt:Nat) (P1 P2:Nat->Value),i+z=m/\s16= .int .i64 i/\s12= .bool (mB m nr N i)/\OwnE 1 32 wr z7002.heap.size s13 i (fun j=>#[P1 j])/\FamO wr z7002.heap.size P1 N (fun j k=>A j k%QQ) i/\OwnE 1 32 wr z7002.heap.size s14 cnt (fun j=>#[P2 j])/\FamO wr z7002.heap.size P2 (fun j=>N j+1) (fun j k=>if k=N j then b j%QQ else A j k%QQ) cnt/\((mB m nr N i)=true->cnt=i)/\cnt<=i/\(∀j,j<i->N j<=6)/\(∀b,s14.ownBlock=some b->s13.ownBlock≠some b)/\(∀j,j<i-> ∀b,(P1 j).ownBlock=some b->s13.ownBlock≠some b)/\(∀j,j<cnt-> ∀b,(P2 j).ownBlock=some b->s13.ownBlock≠some b)/\(∀j,j<i-> ∀b,(P1 j).ownBlock=some b->s14.ownBlock≠some b)/\(∀j,j<cnt-> ∀b,(P2 j).ownBlock=some b->s14.ownBlock≠some b)/\Below z7002.heap.size z7002 wr)
 case atStart=>exact⟨0,0,fun _=>.slice none 0 0,fun _=>.slice none 0 0,by omega,rfl,(by first|rfl|rw[hmb00]),ownE_nil _ _ _ _,famO_nil _ _ _ _ _,ownE_nil _ _ _ _,famO_nil _ _ _ _ _,(fun _=>rfl),Nat.le_refl _,(fun j hj=>absurd hj (by omega)),(fun b h=>by cases h),(fun j hj=>absurd hj (by omega)),(fun j hj=>absurd hj (by omega)),(fun j hj=>absurd hj (by omega)),(fun j hj=>absurd hj (by omega)),sd⟩
 case round=>
  clear sd
  obtain⟨i,cnt,P1,P2,hi,rfl,rfl,hP,hA,hL,hB,hcm,hci,h6,zhPxhL,zhPxhA,zhPxhB,zhLxhA,zhLxhB,sd⟩:=hrel
  have zhLxhP:=own_sym zhPxhL
  cases gk with
  |succ z=>
   have hlt:i<m:=by omega
   obtain⟨ai,ci,gi,oi,bi,ti,hSi,hni⟩:=HS1.out i hlt
   have HN1:Hid (NatsAt z7002 ai (N i) (A i) gi oi bi ti):=hni
   obtain⟨a00,c00,_,_,_,_,hS0,_⟩:=HS1.out 0 hm0
   clear hni
   obtain h0|⟨rfl,rB,hbt⟩:=(HB1.out.below sd).at'
   ·exact absurd h0 (by omega)
   have hbt':=hbt i hlt
   have hbt0:=hbt 0 hm0
   rw[hSi]at hbt'
   rw[hS0]at hbt0
   clear hbt
   have hro:=fun w' (s:Below z7002.heap.size z7002 w')=>(HB1.out.below s).at'.resolve_left (fun h=>absurd h (by omega))
   iterate 2 go_step
   refine rp ?_;refine p_m ?_;refine p_m ?_;simp only[pv];refine p_v (.int .i64 m) (n_l (some ⟨gb,ob,none⟩) m c sl_ll) ?_;refine p_v (.bool true) (lt_t i m) (pw_nil ?_);simp only[pv]
   by_cases h6i:6<N i
   ·clear rB
    have rB:=(hro _ sd).2.1
    iterate 10 go_step
    refine rp ?_;refine p_m ?_;refine p_m ?_;simp only[pv];refine p_x i hlt Tryz.underlying22 Tryz.sizeOf23 ?_;simp only[pv];refine p_d (ob+i*1) rB (.slice ai (N i) ci) hbt' Tryz.isAgg23 ?_;simp only[pv];refine p_v (.int .i64 (N i:Nat)) (n_l ai ((N i:Nat)) ci sl_natsX) ?_;simp only[pv];refine p_v (.bool true) (gt_t (N i:Nat) 6) (pw_nil ?_);simp only[pv]
    iterate 4 go_step
    refine rp ?_;refine p_c 4 Tryz.func4 #[] (haw _) ?_;intro z12000 k;simp only[pv];replace sd:=kk sd k;clear k;refine p_a (pw_nil ?_);simp only[pv]
    go_wp2
    go_ret
    exact⟨rfl,below_on sb (Nat.le_refl _) sd⟩
   ·clear rB
    have rB:=(hro _ sd).2.1
    iterate 10 go_step
    refine rp ?_;refine p_m ?_;refine p_m ?_;simp only[pv];refine p_x i hlt Tryz.underlying22 Tryz.sizeOf23 ?_;simp only[pv];refine p_d (ob+i*1) rB (.slice ai (N i) ci) hbt' Tryz.isAgg23 ?_;simp only[pv];refine p_v (.int .i64 (N i:Nat)) (n_l ai ((N i:Nat)) ci sl_natsX) ?_;simp only[pv];refine p_v (.bool false) (gt_f (N i:Nat) 6) (pw_nil ?_);simp only[pv];clear rB
    have hal:=fun w' (hb:Below z7002.heap.size z7002 w')=>rall_any ai (N i) ci QQ (A i) gi oi bi ti w' (by omega) q.pos hq (HN1.out.below hb)
    have h6n: ∀j,j<i+1->N j<=6:=fun j hj=>if e:j=i then(by rw[e];omega)else h6 j (by omega)
    cases hmb0:mB m nr N i with
    |false=>
     have hmb:mB m nr N (i+1)=false:=by show(mB m nr N i&&_)=false;rw[hmb0];rfl
     have rB:=(hro _ sd).2.1
     iterate 7 go_step
     refine wp_region_qw (by kernel_rfl) (by kernel_rfl) ?_;refine q_m ?_;refine q_m ?_;simp only[pv];refine qw_skip (by rfl) ?_;simp only[pv];refine qw_skip (by rfl) ?_;simp only[pv];refine qw_skip (by rfl) ?_;simp only[pv];refine qw_skip (by rfl) ?_;simp only[pv];refine qw_skip (by rfl) ?_;simp only[pv];refine qw_skip (by rfl) ?_;simp only[pv];refine qw_skip (by rfl) ?_;simp only[pv];refine qw_skip (by rfl) ?_;simp only[pv];refine qw_skip (by rfl) ?_;simp only[pv];refine qw_skip (by rfl) ?_;refine q_p false (.bool false) ?_;refine q_m ?_;simp only[pv];refine qw_skip (by rfl) ?_;simp only[pv];refine qw_skip (by rfl) ?_;simp only[pv];refine qw_skip (by rfl) ?_;simp only[pv];refine qw_skip (by rfl) ?_;simp only[pv];refine qw_skip (by rfl) ?_;simp only[pv];refine qw_skip (by rfl) ?_;refine q_p false (.bool false) ?_;refine q_a ?_;simp only[pv];refine qw_nil ?_;intro w13 hqb
     obtain⟨hP,hL,hA,hB⟩:=car4 hqb hP hL hA hB
     replace sd:=b_o sd hqb;clear hqb rB
     have hsd0:=sd.size
     have hPlt:=World.ownsRow.lt hP
     have hLlt:=World.ownsRow.lt hL
     have rB:=(hro _ sd).2.1
     iterate 3 go_step
     refine rp ?_;refine p_m ?_;refine p_m ?_;simp only[pv];refine p_x i hlt Tryz.underlying22 Tryz.sizeOf23 ?_;simp only[pv];refine p_d (ob+i*1) rB (.slice ai (N i) ci) hbt' Tryz.isAgg23 ?_;refine p_m ?_;simp only[pv];refine p_f 7 Tryz.func7 #[.slice ai (N i) ci,.int .i64 (QQ:Nat)] (hal _ sd) ?_
     rintro _ z14005 ⟨vr,rfl,hR,hb⟩
     refine⟨_,rfl,?_⟩
     simp only[pv]
     have k:=Kept.ofBelow hb
     clear hb
     obtain⟨hP,hL,hA,hB⟩:=car4 k.nil hP hL hA hB
     replace sd:=kk sd k;clear k;refine p_a (pw_nil ?_);simp only[pv];clear rB
     have zhPxhR:=z_low hR hPlt
     have zhLxhR:=z_low hR hLlt
     replace hR:=OwnI.from hR (show z7002.heap.size<=_ from hsd0)
     obtain⟨ar,cr,rfl⟩:=own_shape hR
     iterate 3 go_step
     refine rp ?_;refine p_m ?_;refine p_m ?_;simp only[pv];refine pw_litr (by rfl) 31 32 1 _ rfl (#[.slice ar (N i) cr]) is' _ Tryz.underlying31 his hzs hs1 hs2 [(0,.slice ar (N i) cr)] rfl (hls _ _ _) ?_;intro gY z15002 n0 rY k;simp only[pv]
     have ehPxY:=hP.new n0
     clear n0
     obtain⟨hP,hL,hA,hB⟩:=car4 k.nil hP hL hA hB
     replace hR:=hR.on k (own_ne0 _)
     replace sd:=kk sd k;clear k
     replace hP:=ownE_cong (D:=fun j=>#[(upV P1 i (.slice ar (N i) cr)) j]) hP (fun j hj=>by show #[_]=#[_];rw[upV_lt P1 hj])
     refine pw_appE (by rfl) _ _ (31) rfl (z7002.heap.size) 32 is' _ 1 24 Tryz.underlying31 his hzs hszs hbys rfl (by decide) (by decide) (_) (i) ((fun j=>#[(upV P1 i (.slice ar (N i) cr)) j])) ((fun _=>rfl)) rfl hP gY _ rfl (by show Row _ gY #[(upV P1 i (.slice ar (N i) cr)) i] _;rw[upV_at];exact rY) ((by show(#[(upV P1 i (.slice ar (N i) cr)) i]:Array Value).all _=true;rw[upV_at];exact one_si _ _ _)) ((by omega)) sd.size ?_
     have h0:=hP
     clear hP;intro v1 z15003 hP k hp;simp only[pv]
     have zt:=app_all hp k hL hR hA hB zhPxhL zhPxhR zhPxhA zhPxhB
     clear hL hR hA hB zhPxhL zhLxhP zhPxhR zhPxhA zhPxhB
     obtain⟨hL,zhPxhL,hR,zhPxhR,hA,zhPxhA,hB,zhPxhB⟩:=zt
     have zhLxhP:=own_sym zhPxhL
     have crY:=rY.lt
     replace rY:=k.row rY (by first|exact own_nin ehPxY|exact own_nin (h0.low (by omega)))
     (try replace ehPxY:=own_apart hp crY ehPxY)
     clear crY;clear hp
     replace sd:=sd.trans (k.below z7002.heap.size sd.size h0.base)
     clear h0;clear k;refine p_a (pw_nil ?_);simp only[pv];clear rY
     have hA2:=hA.add hR
     have zPA:=z_add zhPxhA zhPxhR
     have zLA:=z_add zhLxhA zhLxhR
     iterate 3 go_step
     refine rp ?_;refine p_m ?_;refine p_m ?_;refine p_s ?_;refine p_s ?_;refine p_s ?_;simp only[pv];refine p_s ?_;refine p_k false (.bool false) (pw_nil ?_);simp only[pv];clear hA hR zhPxhA zhLxhA zhPxhR zhLxhR
     have hA:=hA2
     clear hA2
     iterate 6 go_step
     refine rp ?_;refine p_m ?_;simp only[pv];refine p_v (.int .i64 ((i+1:Nat):Int)) (x_a (i) 1) ?_;refine p_a (pw_nil ?_);simp only[pv]
     go_wp2
     go_roundg z
     case measure=>omega
     case rel=>exact⟨i+1,cnt,(upV P1 i (.slice ar (N i) cr)),P2,by omega,rfl,(by rw[hmb]),hP,hA,hL,hB,(fun h=>by rw[hmb]at h;cases h),by omega,h6n,zhPxhL,zPA,zhPxhB,zLA,zhLxhB,sd⟩
    |true=>
     have HC:Hid (cnt=i):=hcm hmb0
     have hinr:i<nr:=by
      obtain⟨_,hmn,_⟩:=mB_yes i hmb0
      omega
     by_cases he:N i=N 0
     ·by_cases hp0:0<N i
      ·have hmb:mB m nr N (i+1)=true:=by show(mB m nr N i&&(decide (N i=N 0)&&decide (0<N i)))=true;rw[hmb0,decide_eq_true he,decide_eq_true hp0];rfl
       have he1:N i<=N 0:=by omega
       have he2:N 0<=N i:=by omega
       clear he
       have rB:=(hro _ sd).2.1
       iterate 7 go_step
       refine wp_region_qw (by kernel_rfl) (by kernel_rfl) ?_;refine q_m ?_;refine q_m ?_;refine q_m ?_;refine q_m ?_;simp only[pv];refine q_x i hlt Tryz.underlying22 Tryz.sizeOf23 ?_;simp only[pv];refine qw_loadcR (by rfl) 23 _ rfl _ (ob+i*1) rfl rB (.slice ai (N i) ci) hbt' Tryz.isAgg23 ?_;simp only[pv];refine q_v (.int .i64 (N i:Nat)) (n_l ai ((N i:Nat)) ci sl_natsX) ?_;refine q_m ?_;simp only[pv];refine q_x 0 hm0 Tryz.underlying22 Tryz.sizeOf23 ?_;simp only[pv];refine qw_loadcR (by rfl) 23 _ rfl _ (ob+0*1) rfl rB (.slice a00 (N 0) c00) hbt0 Tryz.isAgg23 ?_;simp only[pv];refine q_v (.int .i64 (N 0:Nat)) (n_l a00 ((N 0:Nat)) c00 sl_natsX) ?_;simp only[pv];refine q_v (.bool true) (exec_eql_k .i64 _ _ _ _ rfl (N i:Nat) (N 0:Nat) rfl rfl true (decide_eq_true (by omega))) ?_;refine q_p true (.bool true) ?_;refine q_m ?_;refine q_m ?_;refine q_m ?_;simp only[pv];refine q_x i hlt Tryz.underlying22 Tryz.sizeOf23 ?_;simp only[pv];refine qw_loadcR (by rfl) 23 _ rfl _ (ob+i*1) rfl rB (.slice ai (N i) ci) hbt' Tryz.isAgg23 ?_;simp only[pv];refine q_v (.int .i64 (N i:Nat)) (n_l ai ((N i:Nat)) ci sl_natsX) ?_;simp only[pv];refine q_v (.bool true) (gt_t (N i:Nat) 0) ?_;refine q_p true (.bool true) ?_;refine q_a ?_;simp only[pv];refine qw_nil ?_;intro w13 hqb
       obtain⟨hP,hL,hA,hB⟩:=car4 hqb hP hL hA hB
       replace sd:=b_o sd hqb;clear hqb rB
       have hsd0:=sd.size
       have hPlt:=World.ownsRow.lt hP
       have hLlt:=World.ownsRow.lt hL
       have rB:=(hro _ sd).2.1
       iterate 3 go_step
       refine rp ?_;refine p_m ?_;refine p_m ?_;simp only[pv];refine p_x i hlt Tryz.underlying22 Tryz.sizeOf23 ?_;simp only[pv];refine p_d (ob+i*1) rB (.slice ai (N i) ci) hbt' Tryz.isAgg23 ?_;refine p_m ?_;simp only[pv];refine p_f 7 Tryz.func7 #[.slice ai (N i) ci,.int .i64 (QQ:Nat)] (hal _ sd) ?_
       rintro _ z14005 ⟨vr,rfl,hR,hb⟩
       refine⟨_,rfl,?_⟩
       simp only[pv]
       have k:=Kept.ofBelow hb
       clear hb
       obtain⟨hP,hL,hA,hB⟩:=car4 k.nil hP hL hA hB
       replace sd:=kk sd k;clear k;refine p_a (pw_nil ?_);simp only[pv];clear rB
       have zhPxhR:=z_low hR hPlt
       have zhLxhR:=z_low hR hLlt
       replace hR:=OwnI.from hR (show z7002.heap.size<=_ from hsd0)
       obtain⟨ar,cr,rfl⟩:=own_shape hR
       iterate 3 go_step
       refine rp ?_;refine p_m ?_;refine p_m ?_;simp only[pv];refine pw_litr (by rfl) 31 32 1 _ rfl (#[.slice ar (N i) cr]) is' _ Tryz.underlying31 his hzs hs1 hs2 [(0,.slice ar (N i) cr)] rfl (hls _ _ _) ?_;intro gY z15002 n0 rY k;simp only[pv]
       have ehPxY:=hP.new n0
       clear n0
       obtain⟨hP,hL,hA,hB⟩:=car4 k.nil hP hL hA hB
       replace hR:=hR.on k (own_ne0 _)
       replace sd:=kk sd k;clear k
       replace hP:=ownE_cong (D:=fun j=>#[(upV P1 i (.slice ar (N i) cr)) j]) hP (fun j hj=>by show #[_]=#[_];rw[upV_lt P1 hj])
       refine pw_appE (by rfl) _ _ (31) rfl (z7002.heap.size) 32 is' _ 1 24 Tryz.underlying31 his hzs hszs hbys rfl (by decide) (by decide) (_) (i) ((fun j=>#[(upV P1 i (.slice ar (N i) cr)) j])) ((fun _=>rfl)) rfl hP gY _ rfl (by show Row _ gY #[(upV P1 i (.slice ar (N i) cr)) i] _;rw[upV_at];exact rY) ((by show(#[(upV P1 i (.slice ar (N i) cr)) i]:Array Value).all _=true;rw[upV_at];exact one_si _ _ _)) ((by omega)) sd.size ?_
       have h0:=hP
       clear hP;intro v1 z15003 hP k hp;simp only[pv]
       have zt:=app_all hp k hL hR hA hB zhPxhL zhPxhR zhPxhA zhPxhB
       clear hL hR hA hB zhPxhL zhLxhP zhPxhR zhPxhA zhPxhB
       obtain⟨hL,zhPxhL,hR,zhPxhR,hA,zhPxhA,hB,zhPxhB⟩:=zt
       have zhLxhP:=own_sym zhPxhL
       have crY:=rY.lt
       replace rY:=k.row rY (by first|exact own_nin ehPxY|exact own_nin (h0.low (by omega)))
       (try replace ehPxY:=own_apart hp crY ehPxY)
       clear crY;clear hp
       replace sd:=sd.trans (k.below z7002.heap.size sd.size h0.base)
       clear h0;clear k;refine p_a (pw_nil ?_);simp only[pv];clear rY
       have hA2:=hA.add hR
       have zPA:=z_add zhPxhA zhPxhR
       have zLA:=z_add zhLxhA zhLxhR
       iterate 3 go_step
       refine rp ?_;refine p_m ?_;refine p_m ?_;refine p_m ?_;refine p_m ?_;simp only[pv];refine p_v (.int .i64 nr) (n_l ay nr cy sl_intsX) ?_;refine p_v (.bool true) (lt_t i nr) ?_;refine p_k true (.bool true) (pw_nil ?_);simp only[pv];clear hA zhPxhA zhLxhA
       obtain h0|⟨rfl,rY,hyt⟩:=(HY1.out.below sd).at'
       ·exact absurd h0 (by omega)
       have hyt':=hyt i (by omega)
       clear hyt
       iterate 3 go_step
       refine wp_region_otb (by kernel_rfl) [11,12] (.node 1 8 (.node 3 8 (.leaf [(0,false),(2,false),(4,false),(5,false),(6,false),(7,false),(1,true),(3,true),(8,true),(9,true),(10,true),(11,true),(12,true)]) (.leaf [(0,false),(2,false),(4,false),(5,false),(6,false),(7,false),(1,true),(8,true),(3,true),(9,true),(10,true),(11,true),(12,true)])) (.leaf [(0,false),(2,false),(4,false),(5,false),(6,false),(7,false),(8,true),(1,true),(3,true),(9,true),(10,true),(11,true),(12,true)])) ?_ (by kernel_rfl)
       refine⟨⟨?_,?_⟩,?_⟩
       ·show EW _ _ _ _ _ _ _ _
        have I:=Cr.mk hP hL hR hA2 hB sd (below_self sd)
        clear hP hL hR hA2 hB sd;refine e_m ?_;refine e_m ?_;refine e_m ?_;refine e_m ?_;simp only[pv];refine e_v (.pointer (some ⟨gy,0+i*1,none⟩)) ((exec_index_s 32 _ _ rfl (gy) (0) (nr) (cy) rfl (i) rfl (hinr) _ Tryz.underlying32 1 Tryz.sizeOf3)) ?_;simp only[pv];refine ew_loadk (by rfl) 3 _ rfl _ (0+i*1) rfl (fun _ hb=>rY.belowAll hb) (.int .i64 (b i%QQ:Nat)) hyt' Tryz.isAgg3 ?_;simp only[pv];refine ew_lit0 (by rfl) 32 3 rfl ii Tryz.underlying32 hii ?_;intro wa1 hqb gZ wb1 n0 hb;replace I:=I.on hqb;replace I:=I.on hb
        refine⟨fun _=>I.cb,?_⟩
        simp only[pv];clear hqb hb n0;refine ew_cpI (by rfl) _ _ rfl gZ rfl (.slice ar (N i) cr) (N i) z7002.heap.size (fun k=>A i k%QQ) rfl I.hR (by omega) (by omega) ?_;intro wa3 hqb vN wb3 hN hb;replace I:=I.on hqb
        obtain⟨zNhP,zNhL,zNhR,zNhA2,zNhB⟩:=I.low hN
        have hNz:=fun x hx=>Nat.le_trans I.cb.size (hN.base x hx)
        replace hN:=OwnI.from hN I.sd.size;replace I:=I.on hb
        refine⟨fun _=>I.cb,?_⟩
        simp only[pv];clear hqb hb;refine ew_litr (by rfl) 32 3 1 _ rfl #[.int .i64 (b i%QQ:Nat)] ii _ Tryz.underlying32 hii hzi hi1 hi2 [(0,.int .i64 (b i%QQ:Nat))] rfl (hli _) ?_;intro wa8 hqb gI wb8 n0 rI hb;replace I:=I.on hqb
        replace hN:=hN.on (Kept.ofBelow hqb) (own_ne0 _)
        replace I:=I.on hb
        replace hN:=hN.on (Kept.ofBelow hb) (own_ne0 _)
        refine⟨fun _=>I.cb,?_⟩
        simp only[pv];clear hqb hb n0;refine ew_app1 (by rfl) _ _ 32 rfl z7002.heap.size 3 ii _ 1 8 Tryz.underlying32 hii hzi hszi hbyi rfl (by decide) vN (N i) _ rfl hN gI 1 rfl rI rfl (by simp[Value.oneCell']) (by unfold maxLen;omega) (by omega) I.sd.size ?_;intro wa9 hqb vM wb9 hM0 kp hp;replace I:=I.on hqb
        replace hN:=hN.on (Kept.ofBelow hqb) (own_ne0 _)
        replace rI:=rI.belowAll hqb
        have zt:=I.app hp kp zNhP zNhL zNhR zNhA2 zNhB hN.base hNz
        have hM:=r_up hM0
        clear I hN rI hM0 hp kp hqb hNz zNhP zNhL zNhR zNhA2 zNhB
        obtain⟨I,zMhP,zMhL,zMhA2,zMhB⟩:=zt
        obtain⟨aM,cM,rfl⟩:=own_shape hM
        refine⟨fun _=>I.cb,?_⟩
        simp only[pv];refine ew_litr (by rfl) 31 32 1 _ rfl #[.slice aM (N i+1) cM] is' _ Tryz.underlying31 his hzs hs1 hs2 [(0,.slice aM (N i+1) cM)] rfl (hls _ _ _) ?_;intro wa10 hqb gB wb10 n0 rB hb;replace I:=I.on hqb
        replace hM:=hM.on (Kept.ofBelow hqb) (own_ne0 _)
        replace I:=I.on hb
        replace hM:=hM.on (Kept.ofBelow hb) (own_ne0 _)
        refine⟨fun _=>I.cb,?_⟩
        simp only[pv];clear hqb hb n0;refine ew_app1 (by rfl) _ _ 31 rfl z7002.heap.size 32 is' _ 1 24 Tryz.underlying31 his hzs hszs hbys rfl (by decide) _ cnt _ rfl I.hL gB 1 rfl rB rfl (one_si _ _ _) (by unfold maxLen;omega) (by omega) I.sd.size ?_;intro wa11 hqb vB wb11 hL0 kp hp;replace I:=I.on hqb
        replace hM:=hM.on (Kept.ofBelow hqb) (own_ne0 _)
        replace rB:=rB.belowAll hqb
        have hL2:=l_up P2 hL0
        obtain⟨hP,hL,_,hA2,hB,sd,_⟩:=I
        have zt:=app_all hp kp hP hM hA2 hB zhLxhP (own_sym zMhL) zLA zhLxhB
        replace sd:=sd.trans (kp.below _ sd.size hL.base)
        refine⟨fun h=>(by cases h),?_⟩
        simp only[pv];clear hP hM hA2 hB hL hL0 hqb kp hp rB
        obtain⟨hP,zLP,hM,zLM,hA2,zLA2,hB,zLB⟩:=zt
        have I:=Cr.mk hP hL2 hM hA2 hB sd sd
        clear hP hL2 hM hA2 hB sd;refine ew_asH (by rfl) rfl rfl rfl ?_;intro w16 hqb;simp only[pv];replace I:=I.on hqb;clear hqb;refine ew_nil ?_;intro w17 hqb;replace I:=I.on hqb;clear hqb
        obtain⟨hP,hL2,hM,hA2,hB,sd,_⟩:=I
        have hB2:=hB.add (v:=.slice aM (N i+1) cM) (by rw[HC.out];exact hM)
        have zPB:=z_add zhPxhB (own_sym zMhP)
        have zLB2:=z_add zLB zLM
        have zPL:=own_sym zLP
        iterate 2 go_step
        refine rp ?_;refine p_m ?_;simp only[pv];refine p_v (.int .i64 ((i+1:Nat):Int)) (x_a (i) 1) ?_;refine p_a (pw_nil ?_);simp only[pv]
        go_wp2
        go_roundg z
        case measure=>omega
        case rel=>exact⟨i+1,cnt+1,(upV P1 i (.slice ar (N i) cr)),_,by omega,rfl,(by rw[hmb]),hP,hA2,hL2,hB2,(fun _=>by rw[HC.out]),by omega,h6n,zPL,zPA,zPB,zLA2,zLB2,sd⟩
       ·show EW _ _ _ _ _ _ _ _
        have I:=Cr.mk hP hL hR hA2 hB sd (below_self sd)
        clear hP hL hR hA2 hB sd;refine e_m ?_;refine e_m ?_;refine e_m ?_;refine e_m ?_;simp only[pv];refine e_v (.pointer (some ⟨gy,0+i*1,none⟩)) ((exec_index_s 32 _ _ rfl (gy) (0) (nr) (cy) rfl (i) rfl (hinr) _ Tryz.underlying32 1 Tryz.sizeOf3)) ?_;simp only[pv];refine ew_loadk (by rfl) 3 _ rfl _ (0+i*1) rfl (fun _ hb=>rY.belowAll hb) (.int .i64 (b i%QQ:Nat)) hyt' Tryz.isAgg3 ?_;simp only[pv];refine ew_lit0 (by rfl) 32 3 rfl ii Tryz.underlying32 hii ?_;intro wa1 hqb gZ wb1 n0 hb;replace I:=I.on hqb;replace I:=I.on hb
        refine⟨fun _=>I.cb,?_⟩
        simp only[pv];clear hqb hb n0;refine ew_litr (by rfl) 32 3 1 _ rfl #[.int .i64 (b i%QQ:Nat)] ii _ Tryz.underlying32 hii hzi hi1 hi2 [(0,.int .i64 (b i%QQ:Nat))] rfl (hli _) ?_;intro wa8 hqb gI wb8 n0 rI hb;replace I:=I.on hqb;replace I:=I.on hb
        refine⟨fun _=>I.cb,?_⟩
        simp only[pv];clear hqb hb n0;refine ew_cpI (by rfl) _ _ rfl gZ rfl (.slice ar (N i) cr) (N i) z7002.heap.size (fun k=>A i k%QQ) rfl I.hR (by omega) (by omega) ?_;intro wa3 hqb vN wb3 hN hb;replace I:=I.on hqb;replace rI:=rI.belowAll hqb
        obtain⟨zNhP,zNhL,zNhR,zNhA2,zNhB⟩:=I.low hN
        have hNz:=fun x hx=>Nat.le_trans I.cb.size (hN.base x hx)
        replace hN:=OwnI.from hN I.sd.size;replace I:=I.on hb;replace rI:=rI.belowAll hb
        refine⟨fun _=>I.cb,?_⟩
        simp only[pv];clear hqb hb;refine ew_app1 (by rfl) _ _ 32 rfl z7002.heap.size 3 ii _ 1 8 Tryz.underlying32 hii hzi hszi hbyi rfl (by decide) vN (N i) _ rfl hN gI 1 rfl rI rfl (by simp[Value.oneCell']) (by unfold maxLen;omega) (by omega) I.sd.size ?_;intro wa9 hqb vM wb9 hM0 kp hp;replace I:=I.on hqb
        replace hN:=hN.on (Kept.ofBelow hqb) (own_ne0 _)
        replace rI:=rI.belowAll hqb
        have zt:=I.app hp kp zNhP zNhL zNhR zNhA2 zNhB hN.base hNz
        have hM:=r_up hM0
        clear I hN rI hM0 hp kp hqb hNz zNhP zNhL zNhR zNhA2 zNhB
        obtain⟨I,zMhP,zMhL,zMhA2,zMhB⟩:=zt
        obtain⟨aM,cM,rfl⟩:=own_shape hM
        refine⟨fun _=>I.cb,?_⟩
        simp only[pv];refine ew_litr (by rfl) 31 32 1 _ rfl #[.slice aM (N i+1) cM] is' _ Tryz.underlying31 his hzs hs1 hs2 [(0,.slice aM (N i+1) cM)] rfl (hls _ _ _) ?_;intro wa10 hqb gB wb10 n0 rB hb;replace I:=I.on hqb
        replace hM:=hM.on (Kept.ofBelow hqb) (own_ne0 _)
        replace I:=I.on hb
        replace hM:=hM.on (Kept.ofBelow hb) (own_ne0 _)
        refine⟨fun _=>I.cb,?_⟩
        simp only[pv];clear hqb hb n0;refine ew_app1 (by rfl) _ _ 31 rfl z7002.heap.size 32 is' _ 1 24 Tryz.underlying31 his hzs hszs hbys rfl (by decide) _ cnt _ rfl I.hL gB 1 rfl rB rfl (one_si _ _ _) (by unfold maxLen;omega) (by omega) I.sd.size ?_;intro wa11 hqb vB wb11 hL0 kp hp;replace I:=I.on hqb
        replace hM:=hM.on (Kept.ofBelow hqb) (own_ne0 _)
        replace rB:=rB.belowAll hqb
        have hL2:=l_up P2 hL0
        obtain⟨hP,hL,_,hA2,hB,sd,_⟩:=I
        have zt:=app_all hp kp hP hM hA2 hB zhLxhP (own_sym zMhL) zLA zhLxhB
        replace sd:=sd.trans (kp.below _ sd.size hL.base)
        refine⟨fun h=>(by cases h),?_⟩
        simp only[pv];clear hP hM hA2 hB hL hL0 hqb kp hp rB
        obtain⟨hP,zLP,hM,zLM,hA2,zLA2,hB,zLB⟩:=zt
        have I:=Cr.mk hP hL2 hM hA2 hB sd sd
        clear hP hL2 hM hA2 hB sd;refine ew_asH (by rfl) rfl rfl rfl ?_;intro w16 hqb;simp only[pv];replace I:=I.on hqb;clear hqb;refine ew_nil ?_;intro w17 hqb;replace I:=I.on hqb;clear hqb
        obtain⟨hP,hL2,hM,hA2,hB,sd,_⟩:=I
        have hB2:=hB.add (v:=.slice aM (N i+1) cM) (by rw[HC.out];exact hM)
        have zPB:=z_add zhPxhB (own_sym zMhP)
        have zLB2:=z_add zLB zLM
        have zPL:=own_sym zLP
        iterate 2 go_step
        refine rp ?_;refine p_m ?_;simp only[pv];refine p_v (.int .i64 ((i+1:Nat):Int)) (x_a (i) 1) ?_;refine p_a (pw_nil ?_);simp only[pv]
        go_wp2
        go_roundg z
        case measure=>omega
        case rel=>exact⟨i+1,cnt+1,(upV P1 i (.slice ar (N i) cr)),_,by omega,rfl,(by rw[hmb]),hP,hA2,hL2,hB2,(fun _=>by rw[HC.out]),by omega,h6n,zPL,zPA,zPB,zLA2,zLB2,sd⟩
       ·show EW _ _ _ _ _ _ _ _
        have I:=Cr.mk hP hL hR hA2 hB sd (below_self sd)
        clear hP hL hR hA2 hB sd;refine e_m ?_;refine e_m ?_;refine e_m ?_;refine e_m ?_;simp only[pv];refine e_v (.pointer (some ⟨gy,0+i*1,none⟩)) ((exec_index_s 32 _ _ rfl (gy) (0) (nr) (cy) rfl (i) rfl (hinr) _ Tryz.underlying32 1 Tryz.sizeOf3)) ?_;simp only[pv];refine ew_loadk (by rfl) 3 _ rfl _ (0+i*1) rfl (fun _ hb=>rY.belowAll hb) (.int .i64 (b i%QQ:Nat)) hyt' Tryz.isAgg3 ?_;simp only[pv];refine ew_litr (by rfl) 32 3 1 _ rfl #[.int .i64 (b i%QQ:Nat)] ii _ Tryz.underlying32 hii hzi hi1 hi2 [(0,.int .i64 (b i%QQ:Nat))] rfl (hli _) ?_;intro wa8 hqb gI wb8 n0 rI hb;replace I:=I.on hqb;replace I:=I.on hb
        refine⟨fun _=>I.cb,?_⟩
        simp only[pv];clear hqb hb n0;refine ew_lit0 (by rfl) 32 3 rfl ii Tryz.underlying32 hii ?_;intro wa1 hqb gZ wb1 n0 hb;replace I:=I.on hqb;replace rI:=rI.belowAll hqb;replace I:=I.on hb;replace rI:=rI.belowAll hb
        refine⟨fun _=>I.cb,?_⟩
        simp only[pv];clear hqb hb n0;refine ew_cpI (by rfl) _ _ rfl gZ rfl (.slice ar (N i) cr) (N i) z7002.heap.size (fun k=>A i k%QQ) rfl I.hR (by omega) (by omega) ?_;intro wa3 hqb vN wb3 hN hb;replace I:=I.on hqb;replace rI:=rI.belowAll hqb
        obtain⟨zNhP,zNhL,zNhR,zNhA2,zNhB⟩:=I.low hN
        have hNz:=fun x hx=>Nat.le_trans I.cb.size (hN.base x hx)
        replace hN:=OwnI.from hN I.sd.size;replace I:=I.on hb;replace rI:=rI.belowAll hb
        refine⟨fun _=>I.cb,?_⟩
        simp only[pv];clear hqb hb;refine ew_app1 (by rfl) _ _ 32 rfl z7002.heap.size 3 ii _ 1 8 Tryz.underlying32 hii hzi hszi hbyi rfl (by decide) vN (N i) _ rfl hN gI 1 rfl rI rfl (by simp[Value.oneCell']) (by unfold maxLen;omega) (by omega) I.sd.size ?_;intro wa9 hqb vM wb9 hM0 kp hp;replace I:=I.on hqb
        replace hN:=hN.on (Kept.ofBelow hqb) (own_ne0 _)
        replace rI:=rI.belowAll hqb
        have zt:=I.app hp kp zNhP zNhL zNhR zNhA2 zNhB hN.base hNz
        have hM:=r_up hM0
        clear I hN rI hM0 hp kp hqb hNz zNhP zNhL zNhR zNhA2 zNhB
        obtain⟨I,zMhP,zMhL,zMhA2,zMhB⟩:=zt
        obtain⟨aM,cM,rfl⟩:=own_shape hM
        refine⟨fun _=>I.cb,?_⟩
        simp only[pv];refine ew_litr (by rfl) 31 32 1 _ rfl #[.slice aM (N i+1) cM] is' _ Tryz.underlying31 his hzs hs1 hs2 [(0,.slice aM (N i+1) cM)] rfl (hls _ _ _) ?_;intro wa10 hqb gB wb10 n0 rB hb;replace I:=I.on hqb
        replace hM:=hM.on (Kept.ofBelow hqb) (own_ne0 _)
        replace I:=I.on hb
        replace hM:=hM.on (Kept.ofBelow hb) (own_ne0 _)
        refine⟨fun _=>I.cb,?_⟩
        simp only[pv];clear hqb hb n0;refine ew_app1 (by rfl) _ _ 31 rfl z7002.heap.size 32 is' _ 1 24 Tryz.underlying31 his hzs hszs hbys rfl (by decide) _ cnt _ rfl I.hL gB 1 rfl rB rfl (one_si _ _ _) (by unfold maxLen;omega) (by omega) I.sd.size ?_;intro wa11 hqb vB wb11 hL0 kp hp;replace I:=I.on hqb
        replace hM:=hM.on (Kept.ofBelow hqb) (own_ne0 _)
        replace rB:=rB.belowAll hqb
        have hL2:=l_up P2 hL0
        obtain⟨hP,hL,_,hA2,hB,sd,_⟩:=I
        have zt:=app_all hp kp hP hM hA2 hB zhLxhP (own_sym zMhL) zLA zhLxhB
        replace sd:=sd.trans (kp.below _ sd.size hL.base)
        refine⟨fun h=>(by cases h),?_⟩
        simp only[pv];clear hP hM hA2 hB hL hL0 hqb kp hp rB
        obtain⟨hP,zLP,hM,zLM,hA2,zLA2,hB,zLB⟩:=zt
        have I:=Cr.mk hP hL2 hM hA2 hB sd sd
        clear hP hL2 hM hA2 hB sd;refine ew_asH (by rfl) rfl rfl rfl ?_;intro w16 hqb;simp only[pv];replace I:=I.on hqb;clear hqb;refine ew_nil ?_;intro w17 hqb;replace I:=I.on hqb;clear hqb
        obtain⟨hP,hL2,hM,hA2,hB,sd,_⟩:=I
        have hB2:=hB.add (v:=.slice aM (N i+1) cM) (by rw[HC.out];exact hM)
        have zPB:=z_add zhPxhB (own_sym zMhP)
        have zLB2:=z_add zLB zLM
        have zPL:=own_sym zLP
        iterate 2 go_step
        refine rp ?_;refine p_m ?_;simp only[pv];refine p_v (.int .i64 ((i+1:Nat):Int)) (x_a (i) 1) ?_;refine p_a (pw_nil ?_);simp only[pv]
        go_wp2
        go_roundg z
        case measure=>omega
        case rel=>exact⟨i+1,cnt+1,(upV P1 i (.slice ar (N i) cr)),_,by omega,rfl,(by rw[hmb]),hP,hA2,hL2,hB2,(fun _=>by rw[HC.out]),by omega,h6n,zPL,zPA,zPB,zLA2,zLB2,sd⟩
      ·have hmb:mB m nr N (i+1)=false:=by show(mB m nr N i&&(decide (N i=N 0)&&decide (0<N i)))=false;rw[decide_eq_false hp0,Bool.and_false,Bool.and_false]
       have he1:N i<=N 0:=by omega
       have he2:N 0<=N i:=by omega
       clear he
       have rB:=(hro _ sd).2.1
       iterate 7 go_step
       refine wp_region_qw (by kernel_rfl) (by kernel_rfl) ?_;refine q_m ?_;refine q_m ?_;refine q_m ?_;refine q_m ?_;simp only[pv];refine q_x i hlt Tryz.underlying22 Tryz.sizeOf23 ?_;simp only[pv];refine qw_loadcR (by rfl) 23 _ rfl _ (ob+i*1) rfl rB (.slice ai (N i) ci) hbt' Tryz.isAgg23 ?_;simp only[pv];refine q_v (.int .i64 (N i:Nat)) (n_l ai ((N i:Nat)) ci sl_natsX) ?_;refine q_m ?_;simp only[pv];refine q_x 0 hm0 Tryz.underlying22 Tryz.sizeOf23 ?_;simp only[pv];refine qw_loadcR (by rfl) 23 _ rfl _ (ob+0*1) rfl rB (.slice a00 (N 0) c00) hbt0 Tryz.isAgg23 ?_;simp only[pv];refine q_v (.int .i64 (N 0:Nat)) (n_l a00 ((N 0:Nat)) c00 sl_natsX) ?_;simp only[pv];refine q_v (.bool true) (exec_eql_k .i64 _ _ _ _ rfl (N i:Nat) (N 0:Nat) rfl rfl true (decide_eq_true (by omega))) ?_;refine q_p true (.bool true) ?_;refine q_m ?_;refine q_m ?_;refine q_m ?_;simp only[pv];refine q_x i hlt Tryz.underlying22 Tryz.sizeOf23 ?_;simp only[pv];refine qw_loadcR (by rfl) 23 _ rfl _ (ob+i*1) rfl rB (.slice ai (N i) ci) hbt' Tryz.isAgg23 ?_;simp only[pv];refine q_v (.int .i64 (N i:Nat)) (n_l ai ((N i:Nat)) ci sl_natsX) ?_;simp only[pv];refine q_v (.bool false) (gt_f (N i:Nat) 0) ?_;refine q_p true (.bool false) ?_;refine q_a ?_;simp only[pv];refine qw_nil ?_;intro w13 hqb
       obtain⟨hP,hL,hA,hB⟩:=car4 hqb hP hL hA hB
       replace sd:=b_o sd hqb;clear hqb rB
       have hsd0:=sd.size
       have hPlt:=World.ownsRow.lt hP
       have hLlt:=World.ownsRow.lt hL
       have rB:=(hro _ sd).2.1
       iterate 3 go_step
       refine rp ?_;refine p_m ?_;refine p_m ?_;simp only[pv];refine p_x i hlt Tryz.underlying22 Tryz.sizeOf23 ?_;simp only[pv];refine p_d (ob+i*1) rB (.slice ai (N i) ci) hbt' Tryz.isAgg23 ?_;refine p_m ?_;simp only[pv];refine p_f 7 Tryz.func7 #[.slice ai (N i) ci,.int .i64 (QQ:Nat)] (hal _ sd) ?_
       rintro _ z14005 ⟨vr,rfl,hR,hb⟩
       refine⟨_,rfl,?_⟩
       simp only[pv]
       have k:=Kept.ofBelow hb
       clear hb
       obtain⟨hP,hL,hA,hB⟩:=car4 k.nil hP hL hA hB
       replace sd:=kk sd k;clear k;refine p_a (pw_nil ?_);simp only[pv];clear rB
       have zhPxhR:=z_low hR hPlt
       have zhLxhR:=z_low hR hLlt
       replace hR:=OwnI.from hR (show z7002.heap.size<=_ from hsd0)
       obtain⟨ar,cr,rfl⟩:=own_shape hR
       iterate 3 go_step
       refine rp ?_;refine p_m ?_;refine p_m ?_;simp only[pv];refine pw_litr (by rfl) 31 32 1 _ rfl (#[.slice ar (N i) cr]) is' _ Tryz.underlying31 his hzs hs1 hs2 [(0,.slice ar (N i) cr)] rfl (hls _ _ _) ?_;intro gY z15002 n0 rY k;simp only[pv]
       have ehPxY:=hP.new n0
       clear n0
       obtain⟨hP,hL,hA,hB⟩:=car4 k.nil hP hL hA hB
       replace hR:=hR.on k (own_ne0 _)
       replace sd:=kk sd k;clear k
       replace hP:=ownE_cong (D:=fun j=>#[(upV P1 i (.slice ar (N i) cr)) j]) hP (fun j hj=>by show #[_]=#[_];rw[upV_lt P1 hj])
       refine pw_appE (by rfl) _ _ (31) rfl (z7002.heap.size) 32 is' _ 1 24 Tryz.underlying31 his hzs hszs hbys rfl (by decide) (by decide) (_) (i) ((fun j=>#[(upV P1 i (.slice ar (N i) cr)) j])) ((fun _=>rfl)) rfl hP gY _ rfl (by show Row _ gY #[(upV P1 i (.slice ar (N i) cr)) i] _;rw[upV_at];exact rY) ((by show(#[(upV P1 i (.slice ar (N i) cr)) i]:Array Value).all _=true;rw[upV_at];exact one_si _ _ _)) ((by omega)) sd.size ?_
       have h0:=hP
       clear hP;intro v1 z15003 hP k hp;simp only[pv]
       have zt:=app_all hp k hL hR hA hB zhPxhL zhPxhR zhPxhA zhPxhB
       clear hL hR hA hB zhPxhL zhLxhP zhPxhR zhPxhA zhPxhB
       obtain⟨hL,zhPxhL,hR,zhPxhR,hA,zhPxhA,hB,zhPxhB⟩:=zt
       have zhLxhP:=own_sym zhPxhL
       have crY:=rY.lt
       replace rY:=k.row rY (by first|exact own_nin ehPxY|exact own_nin (h0.low (by omega)))
       (try replace ehPxY:=own_apart hp crY ehPxY)
       clear crY;clear hp
       replace sd:=sd.trans (k.below z7002.heap.size sd.size h0.base)
       clear h0;clear k;refine p_a (pw_nil ?_);simp only[pv];clear rY
       have hA2:=hA.add hR
       have zPA:=z_add zhPxhA zhPxhR
       have zLA:=z_add zhLxhA zhLxhR
       iterate 3 go_step
       refine rp ?_;refine p_m ?_;refine p_m ?_;refine p_s ?_;refine p_s ?_;refine p_s ?_;simp only[pv];refine p_s ?_;refine p_k false (.bool false) (pw_nil ?_);simp only[pv];clear hA hR zhPxhA zhLxhA zhPxhR zhLxhR
       have hA:=hA2
       clear hA2
       iterate 6 go_step
       refine rp ?_;refine p_m ?_;simp only[pv];refine p_v (.int .i64 ((i+1:Nat):Int)) (x_a (i) 1) ?_;refine p_a (pw_nil ?_);simp only[pv]
       go_wp2
       go_roundg z
       case measure=>omega
       case rel=>exact⟨i+1,cnt,(upV P1 i (.slice ar (N i) cr)),P2,by omega,rfl,(by rw[hmb]),hP,hA,hL,hB,(fun h=>by rw[hmb]at h;cases h),by omega,h6n,zhPxhL,zPA,zhPxhB,zLA,zhLxhB,sd⟩
     ·have hmb:mB m nr N (i+1)=false:=by show(mB m nr N i&&(decide (N i=N 0)&&decide (0<N i)))=false;rw[decide_eq_false he,Bool.false_and,Bool.and_false]
      have rB:=(hro _ sd).2.1
      iterate 7 go_step
      refine wp_region_qw (by kernel_rfl) (by kernel_rfl) ?_;refine q_m ?_;refine q_m ?_;refine q_m ?_;refine q_m ?_;simp only[pv];refine q_x i hlt Tryz.underlying22 Tryz.sizeOf23 ?_;simp only[pv];refine qw_loadcR (by rfl) 23 _ rfl _ (ob+i*1) rfl rB (.slice ai (N i) ci) hbt' Tryz.isAgg23 ?_;simp only[pv];refine q_v (.int .i64 (N i:Nat)) (n_l ai ((N i:Nat)) ci sl_natsX) ?_;refine q_m ?_;simp only[pv];refine q_x 0 hm0 Tryz.underlying22 Tryz.sizeOf23 ?_;simp only[pv];refine qw_loadcR (by rfl) 23 _ rfl _ (ob+0*1) rfl rB (.slice a00 (N 0) c00) hbt0 Tryz.isAgg23 ?_;simp only[pv];refine q_v (.int .i64 (N 0:Nat)) (n_l a00 ((N 0:Nat)) c00 sl_natsX) ?_;simp only[pv];refine q_v (.bool false) (exec_eql_k .i64 _ _ _ _ rfl (N i:Nat) (N 0:Nat) rfl rfl false (decide_eq_false (by omega))) ?_;refine q_p true (.bool false) ?_;refine q_m ?_;simp only[pv];refine qw_skip (by rfl) ?_;simp only[pv];refine qw_skip (by rfl) ?_;simp only[pv];refine qw_skip (by rfl) ?_;simp only[pv];refine qw_skip (by rfl) ?_;simp only[pv];refine qw_skip (by rfl) ?_;simp only[pv];refine qw_skip (by rfl) ?_;refine q_p false (.bool false) ?_;refine q_a ?_;simp only[pv];refine qw_nil ?_;intro w13 hqb
      obtain⟨hP,hL,hA,hB⟩:=car4 hqb hP hL hA hB
      replace sd:=b_o sd hqb;clear hqb rB
      have hsd0:=sd.size
      have hPlt:=World.ownsRow.lt hP
      have hLlt:=World.ownsRow.lt hL
      have rB:=(hro _ sd).2.1
      iterate 3 go_step
      refine rp ?_;refine p_m ?_;refine p_m ?_;simp only[pv];refine p_x i hlt Tryz.underlying22 Tryz.sizeOf23 ?_;simp only[pv];refine p_d (ob+i*1) rB (.slice ai (N i) ci) hbt' Tryz.isAgg23 ?_;refine p_m ?_;simp only[pv];refine p_f 7 Tryz.func7 #[.slice ai (N i) ci,.int .i64 (QQ:Nat)] (hal _ sd) ?_
      rintro _ z14005 ⟨vr,rfl,hR,hb⟩
      refine⟨_,rfl,?_⟩
      simp only[pv]
      have k:=Kept.ofBelow hb
      clear hb
      obtain⟨hP,hL,hA,hB⟩:=car4 k.nil hP hL hA hB
      replace sd:=kk sd k;clear k;refine p_a (pw_nil ?_);simp only[pv];clear rB
      have zhPxhR:=z_low hR hPlt
      have zhLxhR:=z_low hR hLlt
      replace hR:=OwnI.from hR (show z7002.heap.size<=_ from hsd0)
      obtain⟨ar,cr,rfl⟩:=own_shape hR
      iterate 3 go_step
      refine rp ?_;refine p_m ?_;refine p_m ?_;simp only[pv];refine pw_litr (by rfl) 31 32 1 _ rfl (#[.slice ar (N i) cr]) is' _ Tryz.underlying31 his hzs hs1 hs2 [(0,.slice ar (N i) cr)] rfl (hls _ _ _) ?_;intro gY z15002 n0 rY k;simp only[pv]
      have ehPxY:=hP.new n0
      clear n0
      obtain⟨hP,hL,hA,hB⟩:=car4 k.nil hP hL hA hB
      replace hR:=hR.on k (own_ne0 _)
      replace sd:=kk sd k;clear k
      replace hP:=ownE_cong (D:=fun j=>#[(upV P1 i (.slice ar (N i) cr)) j]) hP (fun j hj=>by show #[_]=#[_];rw[upV_lt P1 hj])
      refine pw_appE (by rfl) _ _ (31) rfl (z7002.heap.size) 32 is' _ 1 24 Tryz.underlying31 his hzs hszs hbys rfl (by decide) (by decide) (_) (i) ((fun j=>#[(upV P1 i (.slice ar (N i) cr)) j])) ((fun _=>rfl)) rfl hP gY _ rfl (by show Row _ gY #[(upV P1 i (.slice ar (N i) cr)) i] _;rw[upV_at];exact rY) ((by show(#[(upV P1 i (.slice ar (N i) cr)) i]:Array Value).all _=true;rw[upV_at];exact one_si _ _ _)) ((by omega)) sd.size ?_
      have h0:=hP
      clear hP;intro v1 z15003 hP k hp;simp only[pv]
      have zt:=app_all hp k hL hR hA hB zhPxhL zhPxhR zhPxhA zhPxhB
      clear hL hR hA hB zhPxhL zhLxhP zhPxhR zhPxhA zhPxhB
      obtain⟨hL,zhPxhL,hR,zhPxhR,hA,zhPxhA,hB,zhPxhB⟩:=zt
      have zhLxhP:=own_sym zhPxhL
      have crY:=rY.lt
      replace rY:=k.row rY (by first|exact own_nin ehPxY|exact own_nin (h0.low (by omega)))
      (try replace ehPxY:=own_apart hp crY ehPxY)
      clear crY;clear hp
      replace sd:=sd.trans (k.below z7002.heap.size sd.size h0.base)
      clear h0;clear k;refine p_a (pw_nil ?_);simp only[pv];clear rY
      have hA2:=hA.add hR
      have zPA:=z_add zhPxhA zhPxhR
      have zLA:=z_add zhLxhA zhLxhR
      iterate 3 go_step
      refine rp ?_;refine p_m ?_;refine p_m ?_;refine p_s ?_;refine p_s ?_;refine p_s ?_;simp only[pv];refine p_s ?_;refine p_k false (.bool false) (pw_nil ?_);simp only[pv];clear hA hR zhPxhA zhLxhA zhPxhR zhLxhR
      have hA:=hA2
      clear hA2
      iterate 6 go_step
      refine rp ?_;refine p_m ?_;simp only[pv];refine p_v (.int .i64 ((i+1:Nat):Int)) (x_a (i) 1) ?_;refine p_a (pw_nil ?_);simp only[pv]
      go_wp2
      go_roundg z
      case measure=>omega
      case rel=>exact⟨i+1,cnt,(upV P1 i (.slice ar (N i) cr)),P2,by omega,rfl,(by rw[hmb]),hP,hA,hL,hB,(fun h=>by rw[hmb]at h;cases h),by omega,h6n,zhPxhL,zPA,zhPxhB,zLA,zhLxhB,sd⟩
  |zero=>
   obtain rfl:i=m:=by omega
   clear hi
   iterate 2 go_step
   refine rp ?_;refine p_m ?_;refine p_m ?_;simp only[pv];refine p_v (.int .i64 i) (n_l ab i c sl_ll) ?_;refine p_v (.bool false) (lt_f i i) (pw_nil ?_);simp only[pv]
   cases hmb:mB i nr N i with
   |false=>
    obtain⟨rfl,rfl⟩:=HX1.out.2 hmb
    iterate 8 go_step
    refine rp ?_;refine p_m ?_;simp only[pv];refine p_v (.bool true) (exec_not _ _ rfl false rfl) (pw_nil ?_);simp only[pv]
    iterate 4 go_step
    refine rp ?_;refine p_m ?_;refine p_m ?_;refine p_m ?_;simp only[pv];refine p_v (.int .i64 0) (n_l none 0 0 sl_natsX) ?_;simp only[pv];refine p_v (.bool true) (exec_eql_k .i64 _ _ _ _ rfl 0 0 rfl rfl true rfl) ?_;refine p_k true (.bool true) ?_;refine p_m ?_;refine p_m ?_;simp only[pv];refine p_v (.bool true) (exec_eql_k .i64 _ _ _ _ rfl 1 1 rfl rfl true rfl) ?_;refine p_k true (.bool true) ?_;refine p_m ?_;simp only[pv];refine p_c 4 Tryz.func4 #[] (haw _) ?_;intro z19011 k;simp only[pv];replace sd:=kk sd k;clear k;refine p_k true (.bool true) ?_;refine p_a (pw_nil ?_);simp only[pv]
    go_wp2
    go_ret
    exact⟨rfl,below_on sb (Nat.le_refl _) sd⟩
   |true=>
    obtain⟨_,hmn,hNall⟩:=mB_yes i hmb
    obtain rfl:cnt=i:=hcm hmb
    have hN0:=hNall 0 hm0
    have h60:=h6 0 hm0
    obtain⟨n,hn⟩: ∃n,N 0=n:=⟨_,rfl⟩
    rw[hn]at hN0 h60
    have hXs:=HX1.out.1 hmb (by omega)
    rw[hn]at hXs
    obtain⟨aP,cP,gP,curP,rfl,hvP⟩:=vs_own hP
    obtain⟨aL,cL,gL,curL,rfl,hvL⟩:=vs_own hL
    have hNj: ∀j,j<cnt->N j=n:=fun j hj=>(hNall j hj).1.trans hn
    have hra:=fun w' (h1:VsAt w' aP cnt P1 gP 0 curP 32) (h2:FamO w' z7002.heap.size P1 N (fun j k=>A j k%QQ) cnt)=>rank_any (Q:=QQ) aP cnt cP n P1 (fun j k=>fi (A j k)) gP 0 curP _ w' q hq (by omega) (by omega) (by omega) (by omega) h1 (fun j hj=>by have:=h2.ni hj;rw[hNj j hj]at this;exact this)
    have hrb:=fun w' (h1:VsAt w' aL cnt P2 gL 0 curL 32) (h2:FamO w' z7002.heap.size P2 (fun j=>N j+1) (fun j k=>if k=N j then b j%QQ else A j k%QQ) cnt)=>rank_any (Q:=QQ) aL cnt cL (n+1) P2 (mxJ A b n) gL 0 curL _ w' q hq (by omega) (by omega) (by omega) (by omega) h1 (fun j hj=>by
     have h3:=h2.ni hj
     rw[show N j+1=n+1 by rw[hNj j hj]]at h3
     refine ni_congr h3 fun k hk=>?_
     show(if k=N j then _ else _)=(if k=n then fi (b j)else fi (A j k):Fin QQ).val
     rw[hNj j hj]
     by_cases e:k=n
     ·rw[if_pos e,if_pos e];rfl
     ·rw[if_neg e,if_neg e];rfl)
    have hrk:=rk_sol (ivF (Q:=QQ)) (ivF_is q) cnt n (mxJ A b n:Mx QQ) (fun j k=>fi (A j k)) (fun j k hk=>if_neg (by omega))
    obtain⟨ra,hra0⟩: ∃ra,(rkC ivF cnt (fun j k=>(fi (A j k):Fin QQ)) n).2=ra:=⟨_,rfl⟩
    obtain⟨rb,hrb0⟩: ∃rb,(rkC ivF cnt (mxJ A b n:Mx QQ) (n+1)).2=rb:=⟨_,rfl⟩
    rw[hra0,hrb0]at hrk
    rw[hra0]at hra
    rw[hrb0]at hrb
    clear hP hL hcm
    iterate 8 go_step
    refine rp ?_;refine p_m ?_;simp only[pv];refine p_v (.bool false) (exec_not _ _ rfl true rfl) (pw_nil ?_);simp only[pv]
    by_cases hsol: ∃x,Sol (mxJ A b n:Mx QQ) cnt n x
    ·have hle:=hrk.2 hsol
     iterate 8 go_step
     refine rp ?_;refine p_m ?_;refine p_m ?_;simp only[pv];refine p_c 8 Tryz.func8 #[.slice aL cnt cL,.int .i64 (QQ:Nat)] (hrb _ hvL hB) ?_;intro z20002 k;simp only[pv];replace hvP:=hvP.below k.nil;replace hvL:=hvL.below k.nil;replace hA:=hA.below k.nil;replace hB:=hB.below k.nil;replace sd:=kk sd k;clear k;refine p_m ?_;refine p_m ?_;simp only[pv];refine p_c 8 Tryz.func8 #[.slice aP cnt cP,.int .i64 (QQ:Nat)] (hra _ hvP hA) ?_;intro z20005 k;simp only[pv];replace hvP:=hvP.below k.nil;replace hvL:=hvL.below k.nil;replace hA:=hA.below k.nil;replace hB:=hB.below k.nil;replace sd:=kk sd k;clear k;refine p_v (.bool false) (gt_f rb ra) (pw_nil ?_);simp only[pv];clear hra hrb hvL hB
     rcases hXs with ⟨_,_,hno⟩|⟨rfl,gX,X,rfl,_,rX0,hX⟩
     ·exact absurd hsol hno
     have HX0:Hid (Row z7002 gX (nsC n (fun k=>(X k).val)) 43):=rX0
     have hXl: ∀k,k<n->(X k).val<2^256:=fun k _=>Nat.lt_trans (X k).isLt q.m
     have hal:=fun w' (h:Below z7002.heap.size z7002 w')=>rallL (Q:=QQ) (some ⟨gX,0,none⟩) n n (fun k=>(X k).val) gX 0 _ _ w' (by omega) q hq (nats_row (HX0.out.belowAll h) hXl)
     clear rX0
     iterate 7 go_step
     refine rp ?_;refine p_m ?_;refine p_m ?_;simp only[pv];refine p_f 7 Tryz.func7 #[.slice (some ⟨gX,0,none⟩) n n,.int .i64 (QQ:Nat)] (hal _ sd) ?_
     rintro _ z22002 ⟨vz,rfl,hz,hb⟩
     refine⟨_,rfl,?_⟩
     simp only[pv]
     have k:=Kept.ofBelow hb
     clear hb;replace hvP:=hvP.below k.nil;replace hA:=hA.below k.nil;replace sd:=kk sd k;clear k;refine p_a (pw_nil ?_);simp only[pv];clear hal
     have hso:=fun w' vz (h0:Below z7002.heap.size z7002 w') (h1:IlAt w' vz (fl n (fun k=>(X k).val):List (Fin QQ))) (h2:VsAt w' aP cnt P1 gP 0 curP 32) (h3:FamO w' z7002.heap.size P1 N (fun j k=>A j k%QQ) cnt)=>slv_call ay cy aP cP cnt nr n P1 N A b X gy ycs gP curP vz w' q hq (by omega) (by omega) hmn hNj h1 h2 (fun j hj=>h3.ni hj) (HY1.out.below h0) hX
     have hna2:=fun w' vz (h1:IlAt w' vz (fl n (fun k=>(X k).val):List (Fin QQ)))=>rnatsL vz _ w' (by rw[fl_length];omega) hq h1
     have hsa:=fun w' vn (h0:Below z7002.heap.size z7002 w') (h1:PlAt w' vn (fl n (fun k=>(X k).val):List (Fin QQ)))=>same_call n gX X vn w' q (by omega) (nats_row (HX0.out.belowAll h0) hXl) h1
     iterate 3 go_step
     refine rp ?_;refine p_m ?_;refine p_m ?_;refine p_m ?_;simp only[pv];refine p_v (.bool true) (exec_eql_k .i64 _ _ _ _ rfl 0 0 rfl rfl true rfl) ?_;refine p_k true (.bool true) ?_;refine p_m ?_;refine p_m ?_;refine p_m ?_;simp only[pv];refine p_m ?_;refine p_m ?_;simp only[pv];refine p_c 9 Tryz.func9 #[vz,.slice aP cnt cP,.slice ay nr cy,.int .i64 (QQ:Nat)] (hso _ vz sd hz hvP hA) ?_;intro z23010 k;simp only[pv];replace hvP:=hvP.below k.nil;replace hA:=hA.below k.nil;replace hz:=hz.below k.nil;replace sd:=kk sd k;clear k;refine p_k true (.bool true) ?_;refine p_m ?_;refine p_m ?_;refine p_m ?_;simp only[pv];refine p_f 11 Tryz.func11 #[vz] (hna2 _ vz hz) ?_
     rintro _ z23015 ⟨vn,rfl,hn2,hb⟩
     refine⟨_,rfl,?_⟩
     simp only[pv]
     have k:=Kept.ofBelow hb
     clear hb;replace hvP:=hvP.below k.nil;replace hA:=hA.below k.nil;replace hz:=hz.below k.nil;replace sd:=kk sd k;clear k;refine p_c 10 Tryz.func10 #[.slice (some ⟨gX,0,none⟩) n n,vn] (hsa _ vn sd hn2) ?_;intro z23016 k;simp only[pv];replace hvP:=hvP.below k.nil;replace hA:=hA.below k.nil;replace hz:=hz.below k.nil;replace hn2:=hn2.below k.nil;replace sd:=kk sd k;clear k;refine p_k true (.bool true) ?_;refine p_m ?_;simp only[pv];refine p_c 4 Tryz.func4 #[] (haw _) ?_;intro z23019 k;simp only[pv];replace hvP:=hvP.below k.nil;replace hA:=hA.below k.nil;replace hz:=hz.below k.nil;replace hn2:=hn2.below k.nil;replace sd:=kk sd k;clear k;refine p_k true (.bool true) ?_;refine p_a (pw_nil ?_);simp only[pv]
     go_wp2
     go_ret
     exact⟨rfl,below_on sb (Nat.le_refl _) sd⟩
    ·have hgt:ra<rb:=Nat.lt_of_not_le fun h=>hsol (hrk.1 h)
     rcases hXs with ⟨rfl,rfl,_⟩|⟨_,gX,X,_,_,_,hX⟩
     case inr=>exact absurd ⟨X,hX⟩ hsol
     iterate 8 go_step
     refine rp ?_;refine p_m ?_;refine p_m ?_;simp only[pv];refine p_c 8 Tryz.func8 #[.slice aL cnt cL,.int .i64 (QQ:Nat)] (hrb _ hvL hB) ?_;intro z20002 k;simp only[pv];replace hvP:=hvP.below k.nil;replace hvL:=hvL.below k.nil;replace hA:=hA.below k.nil;replace hB:=hB.below k.nil;replace sd:=kk sd k;clear k;refine p_m ?_;refine p_m ?_;simp only[pv];refine p_c 8 Tryz.func8 #[.slice aP cnt cP,.int .i64 (QQ:Nat)] (hra _ hvP hA) ?_;intro z20005 k;simp only[pv];replace hvP:=hvP.below k.nil;replace hvL:=hvL.below k.nil;replace hA:=hA.below k.nil;replace hB:=hB.below k.nil;replace sd:=kk sd k;clear k;refine p_v (.bool true) (gt_t rb ra) (pw_nil ?_);simp only[pv]
     iterate 4 go_step
     refine rp ?_;refine p_m ?_;refine p_m ?_;refine p_m ?_;simp only[pv];refine p_v (.int .i64 0) (n_l none 0 0 sl_natsX) ?_;simp only[pv];refine p_v (.bool true) (exec_eql_k .i64 _ _ _ _ rfl 0 0 rfl rfl true rfl) ?_;refine p_k true (.bool true) ?_;refine p_m ?_;refine p_m ?_;simp only[pv];refine p_v (.bool true) (exec_eql_k .i64 _ _ _ _ rfl 3 3 rfl rfl true rfl) ?_;refine p_k true (.bool true) ?_;refine p_m ?_;simp only[pv];refine p_c 4 Tryz.func4 #[] (haw _) ?_;intro z21011 k;simp only[pv];replace sd:=kk sd k;clear k;refine p_k true (.bool true) ?_;refine p_a (pw_nil ?_);simp only[pv]
     go_wp2
     go_ret
     exact⟨rfl,below_on sb (Nat.le_refl _) sd⟩
end
theorem walk (a0:Int)(ab:Option Addr)(m c:Nat)(S:Nat->Value)(N:Nat->Nat)(A:Nat->Nat->Nat)(gb ob:Nat)(bcs:Array Value)(tb:TypeId)(ae:Option Addr)(nr ce:Nat)(b:Nat->Nat)(ge oe:Nat)(ecs:Array Value)(te:TypeId)(w:World)(_: -9223372036854775808<=a0/\a0<=9223372036854775807)(hna:VsAt w ab m S gb ob bcs tb)(hS: ∀i,i<m->NrAt w (S i) (N i) (A i)/\N i<=maxLen)(hnr:NatsAt w ae nr b ge oe ecs te):
  Calls Tryz.prog 3 #[.int .i64 a0,.slice ab m c,.slice ae nr ce] w fun e w'=>e= .returned (.bool true)/\Below w.heap.size w w':=by
 by_cases h:6<m∨6<nr
 ·exact core0 a0 ab ae m c nr ce w h
 have q:=(sm_fd a0).1
 have h62:=(sm_fd a0).2
 haveI:NeZero (smQ a0):=⟨by have:=q.two;omega⟩
 by_cases hm0:m=0
 ·exact coreZ a0 ab ae m c nr ce S N A b gb ob bcs tb ge oe ecs te (smQ a0) (smP a0) (smG a0) w q h62 (by omega) (by omega) (fun i hi=>(hS i hi).2) (fun w'=>sml15_any a0 w') hna (fun i hi=>(hS i hi).1) hnr hm0
 ·exact core1 a0 ab ae m c nr ce S N A b gb ob bcs tb ge oe ecs te (smQ a0) (smP a0) (smG a0) w q h62 (by omega) (by omega) (fun i hi=>(hS i hi).2) (fun w'=>sml15_any a0 w') hna (fun i hi=>(hS i hi).1) hnr (by omega)
theorem lifted (os:Os)(started:os.Started)(H:Type)(enc:TypeId×Value->H):
  ReturnsInHanded {} Tryz.checked os 3 .any (Rows.welchSolvesSpec.pre6 enc Tryz.prog Tryz.f3 Rows.welchSolvesRow.domain false) (Rows.welchSolvesSpec.post enc Tryz.prog Tryz.f3 false true false false):=by
 refine returnsInHanded_of_change (C:=Tryz.checked) own started (by kernel_rfl) Tryz.func3
  (ChangeSpec.witness6 (enc:=enc) (C:=Tryz.checked) false ⟨#[],#[.int .i64 0,.slice none 0 0,.slice none 0 0],[]⟩ 8 (by kernel_rfl) (by kernel_rfl) (by kernel_rfl) (by kernel_rfl)) ?_
 intro W base args ds gs before hval0 hW hcnd _
 have hval: ∀(j:Nat) t v,Tryz.f3.params[j]?=some t->args[j]?=some v->Value.okWide Tryz.prog W .any base t v:=hval0
 have hW':=hW
 obtain⟨p,q,hA0,hV,rfl,hfz,hnd⟩:=hW
 have hA:DataW.TrodAll enc Tryz.prog W 0 (fun _=>true) true Tryz.f3.params.toList args.toList ds p:=hA0
 rw[Tryz.params3]at hA hval
 obtain⟨v0,vs0,d0,ds0,p0,q0,hargs,rfl,rfl,h0,r0⟩:=trodAll_cons hA
 obtain⟨v1,vs1,d1,ds1,p1,q1,rfl,rfl,rfl,h1,r1⟩:=trodAll_cons r0
 obtain⟨v2,vs2,d2,ds2,p2,q2,rfl,rfl,rfl,h2,r2⟩:=trodAll_cons r1
 obtain⟨rfl,rfl,rfl⟩:=trodAll_nil r2
 obtain rfl:args=#[v0,v1,v2]:=by cases args;simp_all
 obtain⟨rfl,rfl⟩:=trodVars_none hV
 have k0:=h0
 have lt0:=lt_of_trod h0
 obtain⟨a0,rfl,rfl,rfl,w0⟩:=open_int Tryz.underlying3 (hval 0 3 v0 rfl rfl) h0
 have k1:=h1
 have lt1:=lt_of_trod h1
 obtain⟨ab1,m1,c1,S1,N1,A1,gb1,ob1,bcs1,tb1,rfl,hvs1,hrs1⟩:=open_lls (hval 1 22 v1 rfl rfl) h1
 have k2:=h2
 have lt2:=lt_of_trod h2
 obtain⟨ab2,n2,c2,F2,gb2,ob2,bcs2,tb2,rfl,_,_,hn2⟩:=open_nats (hval 2 23 v2 rfl rfl) h2
 clear hA0 hval0
 refine(walk a0 ab1 m1 c1 S1 N1 A1 gb1 ob1 bcs1 tb1 ab2 n2 c2 F2 gb2 ob2 bcs2 tb2 W (bounds_i64 w0) hvs1 hrs1 hn2).mono fun e W' ⟨he,bel⟩=>?_
 subst he
 exact⟨_,rfl,_,_,_,[],_,[],hW',trodAll_mk1 (shut_bool Tryz.underlying4 _),(trodAll_cons_mk (Below.trod laidOut (by kernel_rfl) (of_decide_eq_true (by kernel_rfl)) k0 bel lt0) (trodAll_cons_mk (Below.trod laidOut (by kernel_rfl) (of_decide_eq_true (by kernel_rfl)) k1 bel lt1) (trodAll_cons_mk (Below.trod laidOut (by kernel_rfl) (of_decide_eq_true (by kernel_rfl)) k2 bel lt2) trodAll_mk0))),rfl,bel.frame _,fun h=>by cases h⟩
theorem over:Rows.welchSolvesRow.holds Tryz.pinned (OpenSpec.ofChange Rows.welchSolvesSpec):=
 OpenClaim.holds_of_wide 3 Tryz.f3 rfl rfl rfl rfl rfl rfl rfl ⟨rfl,rfl,rfl,rfl,rfl⟩ rfl rfl rfl rfl rfl (by kernel_rfl) Tryz.func3 (by kernel_rfl)
  (of_decide_eq_true (by kernel_rfl)) (by unfold Func.isWrapper;first|(rw[if_pos (by decide+kernel)];kernel_rfl)|(rw[if_neg (by decide+kernel)];exact⟨rfl,rfl⟩))
  (fun os started H enc _=>lifted os started H enc)
end welchSolvesP
/-- for every number, list of lists of naturals and list of naturals: in one of the two small groups, of up to 6 rows of up to 6 numbers and up to 6 on the right: a solution is told, if there is one, and it is one; none is told only if there is none; no condition. -/
theorem welchSolves_holds:Rows.WelchSolvesSaid:=welchSolvesP.over
end Go.Proofs.YtighhihgmkcabaaGreat
