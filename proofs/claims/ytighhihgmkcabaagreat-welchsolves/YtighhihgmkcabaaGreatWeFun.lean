import Derived.Test.YtighhihgmkcabaaGreatSB
import Derived.Test.YtighhihgmkcabaaGreatCW
import Derived.Test.YtighhihgmkcabaaGreatWX
set_option maxRecDepth 100000
set_option maxHeartbeats 2000000
namespace Go.Proofs.YtighhihgmkcabaaGreat
open Go.RowKit
set_option linter.unusedVariables false
set_option linter.unusedSectionVars false
set_option linter.unusedSimpArgs false
theorem sl_ll:Tryz.prog.underlying 22=some (.slice (Tryz.prog.elem 22)):=by kernel_rfl
theorem z_int (w:World):(zeroValue 3).run Tryz.prog w= .ok (.int .i64 0) w:=by kernel_rfl
theorem z_sl (w:World):(zeroValue 23).run Tryz.prog w= .ok (.slice none 0 0) w:=by kernel_rfl
section
variable {P:Program}{ops:Array Oper}{C:World->Prop}{Q:Act->World->Prop}{fn:Nat->Bool}{i:Nat}{L:DL}{a:Act}{w:World}{o:Oper}
theorem ew_make (hw:Region.wanted o (yielded ops a.tmps)=true)(t e:TypeId)(x y:Operand)(ho:o.op= .makeSlice t x y)(it:TypeInfo)(z:Value)(ht:P.underlying t=some (.slice e))(hi:P.info? e=some it)(hz:it.zero=some z)(m:Nat)(hx:a.eval x= .int .i64 m)(hy:a.eval y= .int .i64 m)
  (hcells:m*it.size<=16777216)(hbytes:it.bytes*m<=281474976710656)(h63:m<=9223372036854775807)
  (h: ∀w2,Below w.heap.size w w2-> ∀g w3,w2.heap.size<=g->Row w3 g (madeCells z.cells (m*it.size)) e->Below w2.heap.size w2 w3->(fn i=false->C w3)/\EW P ops C Q fn L (a.put o.dst (.slice (some ⟨g,0,none⟩) m m)) w3):EW P ops C Q fn ((i,o,true)::L) a w:=by
 refine ew_hard hw fun w2 hb=>?_
 have hr:(execOp a.eval o).run P w2= .ok (.value (.slice (some ⟨w2.heap.size,0,none⟩) m m)) (w2.alloc (.cells (madeCells z.cells (m*it.size)) e)):=by
  have hb':(it.bytes:Int)*(m:Int)<=281474976710656:=by rw[<-Int.natCast_mul];omega
  have hr:=run_makeSlice (P:=P) w2 t e it z ht hi hz .i64 .i64 (m:Int) (m:Int) (by omega) (by omega) (by rw[Int.toNat_natCast];exact hcells) hb' (by omega)
  rw[Int.toNat_natCast]at hr
  unfold execOp
  simp only[ho,hx,hy,Sem.run_bind,hr,Result.andThen_ok]
  rfl
 rw[hr]
 exact h w2 hb w2.heap.size _ (Nat.le_refl _) (Row.new _ _ _) (below_alloc _)
end
structure VsAt (w:World)(ab:Option Addr)(n:Nat)(S:Nat->Value)(gb ob:Nat)(bcs:Array Value)(tb:TypeId):Prop where
 at':n=0∨(ab=some ⟨gb,ob,none⟩/\RowR w gb bcs tb/\ ∀i,i<n->bcs[ob+i*1]?=some (S i))
theorem VsAt.below {w w2:World}{ab:Option Addr}{n:Nat}{S:Nat->Value}{gb ob:Nat}{bcs:Array Value}{tb:TypeId}(h:VsAt w ab n S gb ob bcs tb)(hb:Below w.heap.size w w2):VsAt w2 ab n S gb ob bcs tb:=
 ⟨h.at'.imp id fun⟨h1,h2,h3⟩=>⟨h1,h2.belowAll hb,h3⟩⟩
def rsO (n r:Nat):Nat:=if n=r then 0 else 0+r*1
theorem vs_rest {w:World}{g n r:Nat}{S:Nat->Value}{t:TypeId}(q:Row w g (vsC n S) t)(h:r<=n):VsAt w (some ⟨g,rsO n r,none⟩) (n-r) (fun i=>S (r+i)) g (rsO n r) (vsC n S) t:=by
 by_cases e:n=r
 ·exact⟨.inl (by omega)⟩
 ·refine⟨.inr ⟨rfl,q.r,fun i hi=>?_⟩⟩
  rw[show rsO n r=0+r*1 from if_neg e,show 0+r*1+i*1=r+i by omega]
  exact vsC_get S (by omega)
def NrAt (w:World)(v:Value)(n:Nat)(F:Nat->Nat):Prop:= ∃ab c gb ob bcs tb,v= .slice ab n c/\NatsAt w ab n F gb ob bcs tb
theorem NrAt.below {w w2:World}{v:Value}{n:Nat}{F:Nat->Nat}(h:NrAt w v n F)(hb:Below w.heap.size w w2):NrAt w2 v n F:=by
 obtain⟨ab,c,gb,ob,bcs,tb,h1,h2⟩:=h
 exact⟨ab,c,gb,ob,bcs,tb,h1,h2.below hb⟩
theorem wgrp_any (v f:Option Addr)(P Q G:Nat)(r:Option Addr)(w:World)(h:KnAt w v P Q G r f):
  Calls Tryz.prog 20 #[.pointer v] w fun e w'=>e= .returned (.bool (!f.isNone))/\Below w.heap.size w w':=by
 have hf:=fun w' (hb:Below w.heap.size w w')=>grpField_any v P Q G r f w' (h.below hb)
 go_enter Tryz.func20,Tryz.ntmps20
 have sb:=sbmk w
 iterate 2 go_step
 refine rp ?_;refine p_v (.bool false) (fun _=>rfl) (pw_nil ?_);simp only[pv]
 iterate 3 go_step
 refine rp ?_;refine p_m ?_;simp only[pv];refine p_c 43 Tryz.func43 #[.pointer v] (hf _ sb) ?_;intro z1001 k;simp only[pv];replace sb:=kk sb k;clear k;refine p_v (.bool (!f.isNone)) (exec_neq_nilp _ _ _ _ rfl f rfl rfl ptr_ring8) ?_;refine p_a (pw_nil ?_);simp only[pv]
 go_wp2
 go_ret
 exact⟨rfl,sb⟩
theorem idxl_any {fn:Func}(ab:Option Addr)(n c:Nat)(S:Nat->Value)(gb ob:Nat)(bcs:Array Value)(tb:TypeId)(f:FuncId)(caps:Array Value)(B:Nat->Bool)(w:World)(hf:Tryz.prog.funcs[f]?=some fn)(hb0:(fn.name== "runtime.NumGoroutine" ||fn.body.isNone)=false)(hn:n<4611686018427387904)(hna:VsAt w ab n S gb ob bcs tb)
  (hc: ∀k:Nat,k<n-> ∀w',Below w.heap.size w w'->Calls Tryz.prog f (#[S k]++caps) w' (Rt (.bool (B k)) w')):
  Calls Tryz.prog 49 #[.slice ab n c,.func (.func f) #[] caps] w fun e w'=> ∃z:Int,e= .returned (.int .i64 z)/\((z= -1/\anB B n=false)∨ ∃j:Nat,z=j/\j<n/\B j=true)/\Below w.heap.size w w':=by
 have HB:Hid (VsAt w ab n S gb ob bcs tb):=hna
 clear hna
 go_enter Tryz.func49,Tryz.ntmps49
 have sb:=sbmk w
 iterate 2 go_step
 refine rp ?_;refine p_v (.int .i64 0) (fun _=>rfl) (pw_nil ?_);simp only[pv]
 iterate 4 go_step
 refine rp ?_;refine p_m ?_;simp only[pv];refine p_v (.int .i64 n) (n_l ab n c sl_ll) ?_;refine p_v (.int .i64 0) (fun _=>rfl) (pw_nil ?_);simp only[pv]
 go_wp2_with fail
 go_loopg [5,8] n (fun x s5 s8 wr=> ∃k:Nat,k+x=n/\s8= .int .i64 k/\anB B k=false/\Below w.heap.size w wr)
 case atStart=>exact⟨0,by omega,rfl,rfl,sb⟩
 case round=>
  clear sb
  obtain⟨k,hk,rfl,han,sb⟩:=hrel
  cases gk with
  |zero=>
   obtain rfl:k=n:=by omega
   have HF:Hid (anB B k=false):=han
   clear hk hc han
   go_step
   refine rp ?_;refine p_v (.bool false) (lt_f k k) (pw_nil ?_);simp only[pv]
   iterate 8 go_step
   refine rp ?_;refine p_v (.int .i64 (-1)) ((fun _=>rfl)) (pw_nil ?_);simp only[pv]
   go_wp2
   go_ret
   exact⟨_,rfl,.inl ⟨rfl,HF.out⟩,sb⟩
  |succ x=>
   have hlt:k<n:=by omega
   have hck:=hc k hlt
   clear hc
   obtain h0|⟨rfl,rB,hbt⟩:=(HB.out.below sb).at'
   ·exact absurd h0 (by omega)
   have hbt':=hbt k hlt
   clear hbt
   go_step
   refine rp ?_;refine p_v (.bool true) (lt_t k n) (pw_nil ?_);simp only[pv]
   iterate 10 go_step
   refine rp ?_;refine p_m ?_;refine p_a (pw_nil ?_);simp only[pv]
   cases hBk:B k with
   |true=>
    have HF:Hid (B k=true):=hBk
    rw[hBk]at hck
    iterate 3 go_step
    refine rp ?_;refine p_m ?_;refine p_m ?_;refine p_m ?_;simp only[pv];refine p_x k hlt Tryz.underlying22 Tryz.sizeOf23 ?_;simp only[pv];refine p_d (ob+k*1) rB (S k) hbt' Tryz.isAgg23 ?_;simp only[pv];refine pw_callC (by rfl) (f) _ _ _ rfl (caps) rfl (hf) (hb0) #[S k] rfl _ (hck _ sb) ?_;intro z4005 k;simp only[pv];replace sb:=kk sb k;clear k;refine pw_nil ?_;clear rB
    iterate 4 go_step
    refine rp ?_;refine p_m ?_;refine p_a (pw_nil ?_);simp only[pv]
    go_wp2
    go_ret
    exact⟨_,rfl,.inr ⟨k,rfl,hlt,HF.out⟩,sb⟩
   |false=>
    have hnx:anB B (k+1)=false:=by
     show(anB B k||B k)=false
     rw[han,hBk];rfl
    rw[hBk]at hck
    iterate 3 go_step
    refine rp ?_;refine p_m ?_;refine p_m ?_;refine p_m ?_;simp only[pv];refine p_x k hlt Tryz.underlying22 Tryz.sizeOf23 ?_;simp only[pv];refine p_d (ob+k*1) rB (S k) hbt' Tryz.isAgg23 ?_;simp only[pv];refine pw_callC (by rfl) (f) _ _ _ rfl (caps) rfl (hf) (hb0) #[S k] rfl _ (hck _ sb) ?_;intro z4005 k;simp only[pv];replace sb:=kk sb k;clear k;refine pw_nil ?_;clear rB
    iterate 6 go_step
    refine rp ?_;refine p_v (.int .i64 ((k+1:Nat):Int)) (x_a k 1) ?_;refine p_m (pw_nil ?_);simp only[pv]
    go_wp2
    go_roundg x
    case measure=>omega
    case rel=>exact⟨k+1,by omega,rfl,hnx,sb⟩
theorem conl_any {fn:Func}(ab:Option Addr)(n c:Nat)(S:Nat->Value)(gb ob:Nat)(bcs:Array Value)(tb:TypeId)(f:FuncId)(caps:Array Value)(B:Nat->Bool)(w:World)(hf:Tryz.prog.funcs[f]?=some fn)(hb0:(fn.name== "runtime.NumGoroutine" ||fn.body.isNone)=false)(hn:n<4611686018427387904)(hna:VsAt w ab n S gb ob bcs tb)
  (hc: ∀k:Nat,k<n-> ∀w',Below w.heap.size w w'->Calls Tryz.prog f (#[S k]++caps) w' (Rt (.bool (B k)) w')):
  Calls Tryz.prog 44 #[.slice ab n c,.func (.func f) #[] caps] w fun e w'=>e= .returned (.bool (anB B n))/\Below w.heap.size w w':=by
 have hix:=fun w' (hb:Below w.heap.size w w')=>idxl_any ab n c S gb ob bcs tb f caps B w' hf hb0 hn (hna.below hb) (fun k hk w2 h2=>hc k hk w2 (below_on hb (Nat.le_refl _) h2))
 clear hna hc
 go_enter Tryz.func44,Tryz.ntmps44
 have sb:=sbmk w
 iterate 2 go_step
 refine rp ?_;refine p_v (.bool false) (fun _=>rfl) (pw_nil ?_);simp only[pv]
 have hzd: ∀z:Int,((z= -1/\anB B n=false)∨ ∃j:Nat,z=j/\j<n/\B j=true)->decide (0<=z)=anB B n:=by
  rintro z (⟨rfl,h⟩|⟨j,rfl,h1,h2⟩)
  ·rw[h];rfl
  ·rw[(anB_iff B n).2 ⟨j,h1,h2⟩]
   exact decide_eq_true (by omega)
 iterate 3 go_step
 refine rp ?_;refine p_m ?_;refine p_m ?_;simp only[pv];refine p_f 49 Tryz.func49 #[.slice ab n c,.func (.func f) #[] caps] (hix _ sb) ?_
 rintro _ z1002 ⟨z,rfl,hz,hb⟩
 refine⟨_,rfl,?_⟩
 simp only[pv]
 have k:=Kept.ofBelow hb
 clear hb;replace sb:=kk sb k;clear k;refine p_v (.bool (anB B n)) (exec_geq_i _ _ _ _ rfl z 0 rfl rfl (anB B n) (hzd z hz)) ?_;refine p_a (pw_nil ?_);simp only[pv]
 go_wp2
 go_ret
 exact⟨rfl,sb⟩
theorem aeq1_any (ab:Option Addr)(n c m g1:Nat)(b:Bool)(w:World)(hb:(!decide ((n:Int)=m))=b)(r1:Row w g1 #[.int .i64 m] 3):
  Calls Tryz.prog 45 #[.slice ab n c,.pointer (some ⟨g1,0,none⟩)] w fun e w'=>e= .returned (.bool b)/\Below w.heap.size w w':=by
 go_enter Tryz.func45,Tryz.ntmps45
 have sb:=sbmk w
 iterate 2 go_step
 refine rp ?_;refine p_v (.bool false) (fun _=>rfl) (pw_nil ?_);simp only[pv]
 iterate 3 go_step
 refine rp ?_;refine p_m ?_;simp only[pv];refine p_v (.int .i64 n) (n_l ab n c sl_natsX) ?_;simp only[pv];refine p_d 0 r1.r (.int .i64 m) rfl Tryz.isAgg3 ?_;simp only[pv];refine p_v (.bool b) (exec_neq_k .i64 _ _ _ _ rfl n m rfl rfl b hb) ?_;refine p_a (pw_nil ?_);simp only[pv]
 go_wp2
 go_ret
 exact⟨rfl,sb⟩
theorem aeq_few (ab ar:Option Addr)(m c nr cr:Nat)(w:World)(h:m<1∨16<m∨nr≠m):
  Calls Tryz.prog 21 #[.slice ab m c,.slice ar nr cr] w fun e w'=>e= .returned (.bool false)/\Below w.heap.size w w':=by
 by_cases h1:m<1
 ·clear h
  go_enter Tryz.func21,Tryz.ntmps21
  have sb:=sbmk w
  iterate 2 go_step
  refine rp ?_;refine p_v (.bool false) (fun _=>rfl) (pw_nil ?_);simp only[pv]
  iterate 4 go_step
  refine rp ?_;refine p_m ?_;simp only[pv];refine p_v (.int .i64 m) (n_l ab m c sl_ll) ?_;refine p_v (.bool true) (lt_t m 1) ?_;refine p_m ?_;refine p_s ?_;refine p_s ?_;simp only[pv];refine p_s ?_;refine p_k true (.bool true) ?_;refine p_m ?_;refine p_s ?_;refine p_s ?_;simp only[pv];refine p_s ?_;refine p_s ?_;refine p_s ?_;refine p_k true (.bool true) (pw_nil ?_);simp only[pv]
  iterate 4 go_step
  refine rp ?_;refine p_v (.bool false) (fun _=>rfl) (pw_nil ?_);simp only[pv]
  go_wp2
  go_ret
  exact⟨rfl,sb⟩
 ·by_cases h2:16<m
  ·clear h
   go_enter Tryz.func21,Tryz.ntmps21
   have sb:=sbmk w
   iterate 2 go_step
   refine rp ?_;refine p_v (.bool false) (fun _=>rfl) (pw_nil ?_);simp only[pv]
   iterate 4 go_step
   refine rp ?_;refine p_m ?_;simp only[pv];refine p_v (.int .i64 m) (n_l ab m c sl_ll) ?_;refine p_v (.bool false) (lt_f m 1) ?_;refine p_m ?_;refine p_m ?_;simp only[pv];refine p_v (.int .i64 m) (n_l ab m c sl_ll) ?_;refine p_v (.bool true) (gt_t m 16) ?_;refine p_k false (.bool true) ?_;refine p_m ?_;refine p_s ?_;simp only[pv];refine p_s ?_;refine p_s ?_;refine p_s ?_;refine p_s ?_;refine p_k true (.bool true) (pw_nil ?_);simp only[pv]
   iterate 4 go_step
   refine rp ?_;refine p_v (.bool false) (fun _=>rfl) (pw_nil ?_);simp only[pv]
   go_wp2
   go_ret
   exact⟨rfl,sb⟩
  ·have h3:nr≠m:=by omega
   clear h
   go_enter Tryz.func21,Tryz.ntmps21
   have sb:=sbmk w
   iterate 2 go_step
   refine rp ?_;refine p_v (.bool false) (fun _=>rfl) (pw_nil ?_);simp only[pv]
   iterate 4 go_step
   refine rp ?_;refine p_m ?_;simp only[pv];refine p_v (.int .i64 m) (n_l ab m c sl_ll) ?_;refine p_v (.bool false) (lt_f m 1) ?_;refine p_m ?_;refine p_m ?_;simp only[pv];refine p_v (.int .i64 m) (n_l ab m c sl_ll) ?_;refine p_v (.bool false) (gt_f m 16) ?_;refine p_k false (.bool false) ?_;refine p_m ?_;refine p_m ?_;simp only[pv];refine p_v (.int .i64 nr) (n_l ar nr cr sl_natsX) ?_;refine p_m ?_;simp only[pv];refine p_v (.int .i64 m) (n_l ab m c sl_ll) ?_;simp only[pv];refine p_v (.bool true) (exec_neq_k .i64 _ _ _ _ rfl nr m rfl rfl true (by rw[decide_eq_false (by omega)];rfl)) ?_;refine p_k false (.bool true) (pw_nil ?_);simp only[pv]
   iterate 4 go_step
   refine rp ?_;refine p_v (.bool false) (fun _=>rfl) (pw_nil ?_);simp only[pv]
   go_wp2
   go_ret
   exact⟨rfl,sb⟩
theorem aeq_all (ab ar a0:Option Addr)(m c cr n c0:Nat)(S:Nat->Value)(gb ob:Nat)(bcs:Array Value)(tb:TypeId)(w:World)(h1:0<m)(h16:m<=16)(hna:VsAt w ab m S gb ob bcs tb)(hS0:S 0= .slice a0 n c0)(hn1:1<=n)(hn16:n<=16)(N:Nat->Nat)(b:Bool)(hN: ∀i,i<m-> ∃ai ci,S i= .slice ai (N i) ci)(hb:anB (fun i=> !decide ((N i:Int)=n)) m=b):
  Calls Tryz.prog 21 #[.slice ab m c,.slice ar m cr] w fun e w'=>e= .returned (.bool (!b))/\Below w.heap.size w w':=by
 have HB:Hid (VsAt w ab m S gb ob bcs tb):=hna
 have HN:Hid (∀i,i<m-> ∃ai ci,S i= .slice ai (N i) ci):=hN
 have HA:Hid (anB (fun i=> !decide ((N i:Int)=n)) m=b):=hb
 clear hN hb
 go_enter Tryz.func21,Tryz.ntmps21
 have sb:=sbmk w
 iterate 2 go_step
 refine rp ?_;refine p_v (.bool false) (fun _=>rfl) (pw_nil ?_);simp only[pv]
 iterate 4 go_step
 refine rp ?_;refine p_m ?_;simp only[pv];refine p_v (.int .i64 m) (n_l ab m c sl_ll) ?_;refine p_v (.bool false) (lt_f m 1) ?_;refine p_m ?_;refine p_m ?_;simp only[pv];refine p_v (.int .i64 m) (n_l ab m c sl_ll) ?_;refine p_v (.bool false) (gt_f m 16) ?_;refine p_k false (.bool false) ?_;refine p_m ?_;refine p_m ?_;simp only[pv];refine p_v (.int .i64 m) (n_l ar m cr sl_natsX) ?_;refine p_m ?_;simp only[pv];refine p_v (.int .i64 m) (n_l ab m c sl_ll) ?_;simp only[pv];refine p_v (.bool false) (exec_neq_k .i64 _ _ _ _ rfl m m rfl rfl false (by rw[decide_eq_true rfl];rfl)) ?_;refine p_k false (.bool false) (pw_nil ?_);simp only[pv]
 obtain h0|⟨rfl,rB,hbt⟩:=hna.at'
 ·exact absurd h0 (by omega)
 have hbt':=hbt 0 h1
 rw[hS0]at hbt'
 clear hbt
 iterate 7 go_step
 refine rp ?_;refine p_m ?_;simp only[pv];refine p_x 0 h1 Tryz.underlying22 Tryz.sizeOf23 ?_;simp only[pv];refine p_d (ob+0*1) rB (.slice a0 n c0) hbt' Tryz.isAgg23 ?_;simp only[pv];refine p_v (.int .i64 n) (n_l a0 n c0 sl_natsX) ?_;simp only[pv];refine pw_newv (by rfl) 3 rfl (.int .i64 0) z_int rfl ?_;intro g5 z3004 n0 r5 k;simp only[pv]
 have b5:=Nat.le_trans sb.size n0
 clear n0;replace sb:=kk sb k;clear k;refine pw_putv (by rfl) 3 _ _ rfl _ (0) rfl r5 (.int .i64 n) rfl rfl rfl size1tint (by exact Nat.one_pos) (#[.int .i64 n]) rfl ?_;clear r5;intro z3005 r5 k;simp only[Act.put];replace sb:=kk sb k;clear k;refine pw_nil ?_;clear rB hbt'
 iterate 4 go_step
 refine rp ?_;refine p_d 0 r5.r (.int .i64 n) rfl Tryz.isAgg3 ?_;refine p_v (.bool false) (lt_f n 1) ?_;refine p_m ?_;simp only[pv];refine p_d 0 r5.r (.int .i64 n) rfl Tryz.isAgg3 ?_;refine p_v (.bool false) (gt_f n 16) ?_;refine p_k false (.bool false) (pw_nil ?_);simp only[pv]
 have hco:=fun w' (hb:Below w.heap.size w w') (r5:Row w' g5 #[.int .i64 n] 3)=>conl_any (some ⟨gb,ob,none⟩) m c S gb ob bcs tb 45 #[.pointer (some ⟨g5,0,none⟩)] (fun i=> !decide ((N i:Int)=n)) w' Tryz.func45 (by kernel_rfl) (by omega) (HB.out.below hb) (fun k hk w2 h2=>by
  obtain⟨ai,ci,e⟩:=HN.out k hk
  rw[e]
  exact aeq1_any ai (N k) ci n g5 _ w2 rfl (r5.belowAll h2))
 rw[HA.out]at hco
 iterate 7 go_step
 refine rp ?_;refine p_m ?_;simp only[pv];refine p_v (.func (.func 45) #[] #[.pointer (some ⟨g5,0,none⟩)]) (exec_func _ _ rfl _ rfl) ?_;simp only[pv];refine p_c 44 Tryz.func44 #[.slice (some ⟨gb,ob,none⟩) m c,.func (.func 45) #[] #[.pointer (some ⟨g5,0,none⟩)]] (hco _ sb r5) ?_;intro z6002 k;simp only[pv];replace r5:=k.ro r5;replace sb:=kk sb k;clear k;refine p_v (.bool (!b)) (exec_not _ _ rfl b rfl) ?_;refine p_a (pw_nil ?_);simp only[pv]
 go_wp2
 go_ret
 exact⟨rfl,sb⟩
theorem turn_any {fn:Func}(gR n c:Nat)(X F:Nat->Nat)(f:FuncId)(caps:Array Value)(w:World)(hf:Tryz.prog.funcs[f]?=some fn)(hb0:(fn.name== "runtime.NumGoroutine" ||fn.body.isNone)=false)(hn:n<=4000)(rR:Row w gR (nsC n X) 43)
  (hc: ∀k:Nat,k<n-> ∀w',Kept [gR] w w'->Row w' gR (nsC n (fun j=>if j<k then F j else X j)) 43->Calls Tryz.prog f (#[.int .i64 k]++caps) w' (Rt (.agg (natC (F k))) w')):
  Calls Tryz.prog 46 #[.slice (some ⟨gR,0,none⟩) n c,.func (.func f) #[] caps] w fun e w'=>e= .returned (.tuple #[])/\Row w' gR (nsC n F) 43/\Kept [gR] w w':=by
 have sk:=Kept.refl [gR] w
 go_enter Tryz.func46,Tryz.ntmps46
 iterate 2 go_step
 refine rp ?_;refine p_m ?_;simp only[pv];refine p_v (.int .i64 n) (n_l (some ⟨gR,0,none⟩) n c sl_natsX) ?_;refine p_v (.int .i64 0) (fun _=>rfl) (pw_nil ?_);simp only[pv]
 go_wp2_with fail
 go_loopg [4,7] n (fun g s4 s7 wr=> ∃k:Nat,k+g=n/\s7= .int .i64 k/\Row wr gR (nsC n (fun j=>if j<k then F j else X j)) 43/\Kept [gR] w wr)
 case atStart=>exact⟨0,by omega,rfl,by rw[show(fun j=>if j<0 then F j else X j)=X from funext fun j=>if_neg (by omega)];exact rR,sk⟩
 case round=>
  clear rR sk
  obtain⟨k,hk,rfl,rR,sk⟩:=hrel
  cases gk with
  |zero=>
   obtain rfl:k=n:=by omega
   clear hk hc
   rw[nsC_congr k _ F (fun j hj=>if_pos hj)]at rR
   go_step
   refine rp ?_;refine p_v (.bool false) (lt_f k k) (pw_nil ?_);simp only[pv]
   go_wp2
   go_end0
   exact⟨rfl,rR,sk⟩
  |succ g=>
   have hlt:k<n:=by omega
   have hput:=nsC_put n (fun j=>if j<k then F j else X j) (fun j=>if j<k+1 then F j else X j) k hlt (0+k*4) (by omega) (F k) (fun j hj=>by
    by_cases hjk:j=k
    ·subst hjk
     rw[if_pos (by omega),if_pos rfl]
    ·rw[if_neg hjk]
     by_cases h2:j<k
     ·rw[if_pos h2,if_pos (by omega)]
     ·rw[if_neg h2,if_neg (by omega)])
   have hck:=hc k hlt
   go_step
   refine rp ?_;refine p_v (.bool true) (lt_t k n) (pw_nil ?_);simp only[pv]
   iterate 10 go_step
   refine rp ?_;refine p_m ?_;refine p_a (pw_nil ?_);simp only[pv]
   iterate 2 go_step
   refine rp ?_;refine p_m ?_;refine p_m ?_;refine p_m ?_;refine p_m ?_;simp only[pv];refine pw_callC (by rfl) (f) _ _ _ rfl (caps) rfl (hf) (hb0) #[.int .i64 (k:Nat)] rfl _ (hck _ sk rR) ?_;intro z3004 k;simp only[pv];replace rR:=k.ro rR
   replace sk:=sk.trans k (by simp<;>omega)
   clear k;refine p_x k hlt Tryz.underlying23 size_nat4 ?_;simp only[pv];refine pw_putm (by rfl) 43 _ _ rfl _ (0+k*4) rfl rR (natC (F k)) rfl (by exact size_nat) (by rw[nsC_size,natC_size];omega) (natC_one _) (nsC n (fun j=>if j<k+1 then F j else X j)) hput ?_;clear rR;intro z3006 rR k;simp only[Act.put]
   replace sk:=sk.trans k (by simp<;>omega)
   clear k;refine pw_nil ?_;clear hput hck
   iterate 2 go_step
   refine rp ?_;refine p_v (.int .i64 ((k+1:Nat):Int)) (x_a k 1) ?_;refine p_m (pw_nil ?_);simp only[pv]
   go_wp2
   go_roundg g
   case measure=>omega
   case rel=>exact⟨k+1,by omega,rfl,rR,sk⟩
theorem trw1_any (gR n c j g1:Nat)(X:Nat->Nat)(b:Bool)(w:World)(hj:j<n)(hX:X j<2^256)(hb:(!decide (X j=0))=b)(r1:Row w g1 #[.int .i64 j] 3)(rR:Row w gR (nsC n X) 43):
  Calls Tryz.prog 50 #[.slice (some ⟨gR,0,none⟩) n c,.pointer (some ⟨g1,0,none⟩)] w fun e w'=>e= .returned (.bool b)/\Below w.heap.size w w':=by
 have hne:(!decide (X j%2^256=0%2^256))=b:=by
  rw[<-hb,Nat.mod_eq_of_lt hX,Nat.zero_mod]
 have hpart:=nsC_part n X j hj (0+j*4) (by omega)
 go_enter Tryz.func50,Tryz.ntmps50
 have sb:=sbmk w
 iterate 2 go_step
 refine rp ?_;refine p_v (.bool false) (fun _=>rfl) (pw_nil ?_);simp only[pv]
 iterate 3 go_step
 refine rp ?_;refine p_m ?_;simp only[pv];refine p_d 0 r1.r (.int .i64 j) rfl Tryz.isAgg3 ?_;simp only[pv];refine p_x j hj Tryz.underlying23 size_nat4 ?_;simp only[pv];refine pw_loadm (by rfl) 43 _ rfl _ (0+j*4) rfl rR.r (natC (X j)) hpart _ Tryz.underlying43 rfl size_nat ?_;simp only[pv];refine p_v (.agg (natC 0)) (exec_build0 _ rfl _ built_nat) ?_;simp only[pv];refine p_v (.bool b) ((fun w'=>(exec_neq_nat _ _ _ rfl (X j) 0 rfl rfl w').trans (by rw[hne]))) ?_;refine p_a (pw_nil ?_);simp only[pv]
 go_wp2
 go_ret
 exact⟨rfl,sb⟩
section
variable {Q:Nat}[NeZero Q]{g gr gf P G:Nat}{w:World}
theorem jnd1_last (ab ar:Option Addr)(n c k m cr:Nat)(b:Nat->Nat)(g1 g2 g3 g4 ge oe:Nat)(ecs:Array Value)(te:TypeId)(q:FdQ Q)(hk:k<m)(hn:n<4611686018427387904)(r1:Row w g1 #[.slice ab n c] 23)(r2:Row w g2 #[.pointer (some ⟨g,0,none⟩)] 25)(r3:Row w g3 #[.slice ar m cr] 23)(r4:Row w g4 #[.int .i64 k] 3)(hnr:NatsAt w ar m b ge oe ecs te)(h:GrpAt w g gr gf P Q G):
  Calls Tryz.prog 47 #[.int .i64 n,.pointer (some ⟨g1,0,none⟩),.pointer (some ⟨g2,0,none⟩),.pointer (some ⟨g3,0,none⟩),.pointer (some ⟨g4,0,none⟩)] w fun e w'=>e= .returned (.agg (natC (fi (b k):Fin Q).val))/\Below w.heap.size w w':=by
 obtain h0|⟨rfl,rB,hbt⟩:=hnr.at'
 ·exact absurd h0 (by omega)
 have hbt':=hbt k hk
 have hBw:=rB.lt
 have hbk:=hnr.lt k hk
 have hof:=fun w' (hb:Below w.heap.size w w')=>fAdd_ok (b k) 0 g gr gf P Q G w' hbk (by decide) q (h.below hb)
 rw[Nat.add_zero,<-fi_val (q:=Q)]at hof
 generalize (fi (b k):Fin Q).val=S at*
 have HN:Hid (NatsAt w (some ⟨ge,oe,none⟩) m b ge oe ecs te):=hnr
 clear hbt rB hnr
 go_enter Tryz.func47,Tryz.ntmps47
 iterate 2 go_step
 refine rp ?_;refine pw_new (by rfl) 43 rfl _ zero_nat ?_;intro g6 z0 n0 r6 k;simp only[pv]
 have d2x6:=l_l r2.lt n0
 have d3x6:=l_l r3.lt n0
 have d4x6:=l_l r4.lt n0
 have b6:w.heap.size<=g6:=n0
 clear n0;replace r1:=k.ro r1;replace r2:=k.ro r2;replace r3:=k.ro r3;replace r4:=k.ro r4
 have sb:=k_b k
 clear k;refine pw_nil ?_
 obtain h0|⟨_,rB,_⟩:=(HN.out.below sb).at'
 ·exact absurd h0 (by omega)
 iterate 4 go_step
 refine rp ?_;refine p_m ?_;simp only[pv];refine p_d 0 r1.r (.slice ab n c) rfl Tryz.isAgg23 ?_;simp only[pv];refine p_v (.int .i64 n) (n_l ab n c sl_natsX) ?_;simp only[pv];refine p_v (.bool true) (exec_eql_k .i64 _ _ _ _ rfl n n rfl rfl true (decide_eq_true rfl)) (pw_nil ?_);simp only[pv]
 iterate 4 go_step
 apply wp_region_mix (by kernel_rfl) [(g6,43,natC 0)] [_,_,_,_,_,_,_,_] ⟨r6,trivial⟩ (by simp<;>omega)
 ·intro p;refine mx_loadc 25 _ rfl _ (0) rfl r2 (by simp<;>omega) (.pointer (some ⟨g,0,none⟩)) rfl Tryz.isAgg25 ?_;simp only[pv];refine mx_loadc 23 _ rfl _ (0) rfl r3 (by simp<;>omega) (.slice (some ⟨ge,oe,none⟩) m cr) rfl Tryz.isAgg23 ?_;simp only[pv];refine mx_loadc 3 _ rfl _ (0) rfl r4 (by simp<;>omega) (.int .i64 k) rfl Tryz.isAgg3 ?_;simp only[pv];refine m_x k hk Tryz.underlying23 size_nat4 ?_;simp only[pv];refine mx_loadmR 43 _ rfl _ (oe+k*4) rfl rB (by simp<;>omega) (natC (b k)) hbt' _ Tryz.underlying43 rfl size_nat ?_;simp only[pv];refine mx_val (.agg (natC 0)) (exec_build0 _ rfl _ built_nat) ?_;simp only[pv]
  refine m_k 48 Tryz.func48 #[.pointer (some ⟨g,0,none⟩),.agg (natC (b k)),.agg (natC 0)] (fun w' hk=>hof w' (sb.trans (hk.below w.heap.size sb.size (by simp<;>omega)))) ?_
  simp only[pv];refine m_p 0 S ?_;simp only[Act.put];refine mx_end ?_;intro w2 hkw hrw hnew hdis
  have zr6:Row w2 (g6) (natC S) 43:=hrw 0 (43,natC S) rfl
  replace sb:=kk sb hkw;clear hkw hrw hnew hdis r6
  have r6:=zr6
  clear zr6
  go_wp2
  exact ret_row rfl _ rfl r6 4 _ Tryz.underlying43 (by exact size_nat) rfl ⟨rfl,sb⟩
 ·kernel_rfl
theorem jnd1_row (ab:Option Addr)(v3 v4:Value)(n c j:Nat)(A:Nat->Nat)(g1 g2 gb ob:Nat)(bcs:Array Value)(tb:TypeId)(q:FdQ Q)(hj:j<n)(hn:n<4611686018427387904)(r1:Row w g1 #[.slice ab n c] 23)(r2:Row w g2 #[.pointer (some ⟨g,0,none⟩)] 25)(hna:NatsAt w ab n A gb ob bcs tb)(h:GrpAt w g gr gf P Q G):
  Calls Tryz.prog 47 #[.int .i64 j,.pointer (some ⟨g1,0,none⟩),.pointer (some ⟨g2,0,none⟩),v3,v4] w fun e w'=>e= .returned (.agg (natC (fi (A j):Fin Q).val))/\Below w.heap.size w w':=by
 obtain h0|⟨rfl,rB,hbt⟩:=hna.at'
 ·exact absurd h0 (by omega)
 have hbt':=hbt j hj
 have hBw:=rB.lt
 have hbk:=hna.lt j hj
 have hof:=fun w' (hb:Below w.heap.size w w')=>fAdd_ok (A j) 0 g gr gf P Q G w' hbk (by decide) q (h.below hb)
 rw[Nat.add_zero,<-fi_val (q:=Q)]at hof
 generalize (fi (A j):Fin Q).val=S at*
 have HN:Hid (NatsAt w (some ⟨gb,ob,none⟩) n A gb ob bcs tb):=hna
 clear hbt rB hna
 go_enter Tryz.func47,Tryz.ntmps47
 iterate 2 go_step
 refine rp ?_;refine pw_new (by rfl) 43 rfl _ zero_nat ?_;intro g6 z0 n0 r6 k;simp only[pv]
 have d1x6:=l_l r1.lt n0
 have d2x6:=l_l r2.lt n0
 have b6:w.heap.size<=g6:=n0
 clear n0;replace r1:=k.ro r1;replace r2:=k.ro r2
 have sb:=k_b k
 clear k;refine pw_nil ?_
 obtain h0|⟨_,rB,_⟩:=(HN.out.below sb).at'
 ·exact absurd h0 (by omega)
 iterate 4 go_step
 refine rp ?_;refine p_m ?_;simp only[pv];refine p_d 0 r1.r (.slice (some ⟨gb,ob,none⟩) n c) rfl Tryz.isAgg23 ?_;simp only[pv];refine p_v (.int .i64 n) (n_l (some ⟨gb,ob,none⟩) n c sl_natsX) ?_;simp only[pv];refine p_v (.bool false) (exec_eql_k .i64 _ _ _ _ rfl j n rfl rfl false (decide_eq_false (by omega))) (pw_nil ?_);simp only[pv]
 iterate 7 go_step
 apply wp_region_mix (by kernel_rfl) [(g6,43,natC 0)] [_,_,_,_,_,_,_,_] ⟨r6,trivial⟩ (by simp<;>omega)
 ·intro p;refine mx_loadc 25 _ rfl _ (0) rfl r2 (by simp<;>omega) (.pointer (some ⟨g,0,none⟩)) rfl Tryz.isAgg25 ?_;simp only[pv];refine mx_loadc 23 _ rfl _ (0) rfl r1 (by simp<;>omega) (.slice (some ⟨gb,ob,none⟩) n c) rfl Tryz.isAgg23 ?_;refine m_m ?_;simp only[pv];refine m_x j hj Tryz.underlying23 size_nat4 ?_;simp only[pv];refine mx_loadmR 43 _ rfl _ (ob+j*4) rfl rB (by simp<;>omega) (natC (A j)) hbt' _ Tryz.underlying43 rfl size_nat ?_;simp only[pv];refine mx_val (.agg (natC 0)) (exec_build0 _ rfl _ built_nat) ?_;simp only[pv]
  refine m_k 48 Tryz.func48 #[.pointer (some ⟨g,0,none⟩),.agg (natC (A j)),.agg (natC 0)] (fun w' hk=>hof w' (sb.trans (hk.below w.heap.size sb.size (by simp<;>omega)))) ?_
  simp only[pv];refine m_p 0 S ?_;simp only[Act.put];refine mx_end ?_;intro w2 hkw hrw hnew hdis
  have zr6:Row w2 (g6) (natC S) 43:=hrw 0 (43,natC S) rfl
  replace sb:=kk sb hkw;clear hkw hrw hnew hdis r6
  have r6:=zr6
  clear zr6
  go_wp2
  exact ret_row rfl _ rfl r6 4 _ Tryz.underlying43 (by exact size_nat) rfl ⟨rfl,sb⟩
 ·kernel_rfl
theorem trw2_any (n c k g1 g2 g3 gR:Nat)(X:Nat->Nat)(x y:Fin Q)(q:FdQ Q)(hk:k<n)(hX:X k=x.val)(r1:Row w g1 #[.pointer (some ⟨g,0,none⟩)] 25)(r2:Row w g2 #[.slice (some ⟨gR,0,none⟩) n c] 23)(r3:Row w g3 (natC y.val) 43)(rR:Row w gR (nsC n X) 43)(h:GrpAt w g gr gf P Q G):
  Calls Tryz.prog 52 #[.int .i64 k,.pointer (some ⟨g1,0,none⟩),.pointer (some ⟨g2,0,none⟩),.pointer (some ⟨g3,0,none⟩)] w fun e w'=>e= .returned (.agg (natC (x*y).val))/\Below w.heap.size w w':=by
 have hof:=fun w' (hb:Below w.heap.size w w')=>fMul_ok x.val y.val g gr gf P Q G w' (Nat.lt_trans x.isLt q.m) (Nat.lt_trans y.isLt q.m) q (h.below hb)
 rw[<-Fin.val_mul]at hof
 generalize (x*y).val=S at*
 have hpart:=nsC_part n X k hk (0+k*4) (by omega)
 rw[hX]at hpart
 go_enter Tryz.func52,Tryz.ntmps52
 iterate 2 go_step
 refine rp ?_;refine pw_new (by rfl) 43 rfl _ zero_nat ?_;intro g5 z0 n0 r5 k;simp only[pv]
 have d1x5:=l_l r1.lt n0
 have d2x5:=l_l r2.lt n0
 have d3x5:=l_l r3.lt n0
 have dRx5:=l_l rR.lt n0
 have b5:w.heap.size<=g5:=n0
 clear n0;replace r1:=k.ro r1;replace r2:=k.ro r2;replace r3:=k.ro r3;replace rR:=k.ro rR
 have sb:=k_b k
 clear k;refine pw_nil ?_
 iterate 3 go_step
 apply wp_region_mix (by kernel_rfl) [(g5,43,natC 0)] [_,_,_,_,_,_,_,_] ⟨r5,trivial⟩ (by simp<;>omega)
 ·intro p;refine mx_loadc 25 _ rfl _ (0) rfl r1 (by simp<;>omega) (.pointer (some ⟨g,0,none⟩)) rfl Tryz.isAgg25 ?_;simp only[pv];refine mx_loadc 23 _ rfl _ (0) rfl r2 (by simp<;>omega) (.slice (some ⟨gR,0,none⟩) n c) rfl Tryz.isAgg23 ?_;refine m_m ?_;simp only[pv];refine m_x k hk Tryz.underlying23 size_nat4 ?_;simp only[pv];refine mx_loadm 43 _ rfl _ (0+k*4) rfl rR (by simp<;>omega) (natC x.val) hpart _ Tryz.underlying43 rfl size_nat ?_;simp only[pv];refine m_l r3 ?_;simp only[pv]
  refine m_k 53 Tryz.func53 #[.pointer (some ⟨g,0,none⟩),.agg (natC x.val),.agg (natC y.val)] (fun w' hk=>hof w' (sb.trans (hk.below w.heap.size sb.size (by simp<;>omega)))) ?_
  simp only[pv];refine m_p 0 S ?_;simp only[Act.put];refine mx_end ?_;intro w2 hkw hrw hnew hdis
  have zr5:Row w2 (g5) (natC S) 43:=hrw 0 (43,natC S) rfl
  replace sb:=kk sb hkw;clear hkw hrw hnew hdis r5
  have r5:=zr5
  clear zr5
  go_wp2
  exact ret_row rfl _ rfl r5 4 _ Tryz.underlying43 (by exact size_nat) rfl ⟨rfl,sb⟩
 ·kernel_rfl
theorem sbN_val (x y:Fin Q):sbN x.val y.val Q=(x-y).val:=by
 have h:=congrArg Fin.val (fi_sub (q:=Q) x.val y.val)
 rw[fi_of,fi_of,fi_val,Nat.mod_mod]at h
 exact h
theorem trw3_any (n c k g1 g2 g3 g4 gR gL cl:Nat)(X L:Nat->Nat)(x y z:Fin Q)(q:FdQ Q)(hk:k<n)(hX:X k=x.val)(hL:L k=y.val)(r1:Row w g1 #[.pointer (some ⟨g,0,none⟩)] 25)(r2:Row w g2 #[.slice (some ⟨gR,0,none⟩) n c] 23)(r3:Row w g3 #[.slice (some ⟨gL,0,none⟩) n cl] 23)(r4:Row w g4 (natC z.val) 43)(rR:Row w gR (nsC n X) 43)(rL:Row w gL (nsC n L) 43)(h:GrpAt w g gr gf P Q G):
  Calls Tryz.prog 54 #[.int .i64 k,.pointer (some ⟨g1,0,none⟩),.pointer (some ⟨g2,0,none⟩),.pointer (some ⟨g3,0,none⟩),.pointer (some ⟨g4,0,none⟩)] w fun e w'=>e= .returned (.agg (natC (x-y*z).val))/\Below w.heap.size w w':=by
 have hof:=fun w' (hb:Below w.heap.size w w')=>fMul_ok y.val z.val g gr gf P Q G w' (Nat.lt_trans y.isLt q.m) (Nat.lt_trans z.isLt q.m) q (h.below hb)
 rw[<-Fin.val_mul]at hof
 have hsu:=fun w' (hb:Below w.heap.size w w')=>fSub_ok x.val (y*z).val g gr gf P Q G w' (Nat.lt_trans x.isLt q.m) (Nat.lt_trans (y*z).isLt q.m) q (h.below hb)
 rw[sbN_val]at hsu
 generalize (x-y*z).val=S at*
 generalize (y*z).val=T at*
 have hpart:=nsC_part n X k hk (0+k*4) (by omega)
 rw[hX]at hpart
 have hparL:=nsC_part n L k hk (0+k*4) (by omega)
 rw[hL]at hparL
 go_enter Tryz.func54,Tryz.ntmps54
 iterate 2 go_step
 refine rp ?_;refine pw_new (by rfl) 43 rfl _ zero_nat ?_;intro g6 z0 n0 r6 k;simp only[pv]
 have d1x6:=l_l r1.lt n0
 have d2x6:=l_l r2.lt n0
 have d3x6:=l_l r3.lt n0
 have d4x6:=l_l r4.lt n0
 have dRx6:=l_l rR.lt n0
 have dLx6:=l_l rL.lt n0
 have b6:w.heap.size<=g6:=n0
 clear n0;replace r1:=k.ro r1;replace r2:=k.ro r2;replace r3:=k.ro r3;replace r4:=k.ro r4;replace rR:=k.ro rR;replace rL:=k.ro rL
 have sb:=k_b k
 clear k;refine pw_nil ?_
 iterate 3 go_step
 apply wp_region_mix (by kernel_rfl) [(g6,43,natC 0)] [_,_,_,_,_,_,_,_,_,_,_,_,_,_] ⟨r6,trivial⟩ (by simp<;>omega)
 ·intro p;refine mx_loadc 25 _ rfl _ (0) rfl r1 (by simp<;>omega) (.pointer (some ⟨g,0,none⟩)) rfl Tryz.isAgg25 ?_;simp only[pv];refine mx_loadc 23 _ rfl _ (0) rfl r2 (by simp<;>omega) (.slice (some ⟨gR,0,none⟩) n c) rfl Tryz.isAgg23 ?_;refine m_m ?_;simp only[pv];refine m_x k hk Tryz.underlying23 size_nat4 ?_;simp only[pv];refine mx_loadm 43 _ rfl _ (0+k*4) rfl rR (by simp<;>omega) (natC x.val) hpart _ Tryz.underlying43 rfl size_nat ?_;simp only[pv];refine mx_loadc 25 _ rfl _ (0) rfl r1 (by simp<;>omega) (.pointer (some ⟨g,0,none⟩)) rfl Tryz.isAgg25 ?_;simp only[pv];refine mx_loadc 23 _ rfl _ (0) rfl r3 (by simp<;>omega) (.slice (some ⟨gL,0,none⟩) n cl) rfl Tryz.isAgg23 ?_;refine m_m ?_;simp only[pv];refine m_x k hk Tryz.underlying23 size_nat4 ?_;simp only[pv];refine mx_loadm 43 _ rfl _ (0+k*4) rfl rL (by simp<;>omega) (natC y.val) hparL _ Tryz.underlying43 rfl size_nat ?_;simp only[pv];refine m_l r4 ?_;simp only[pv]
  refine m_k 53 Tryz.func53 #[.pointer (some ⟨g,0,none⟩),.agg (natC y.val),.agg (natC z.val)] (fun w' hk=>hof w' (sb.trans (hk.below w.heap.size sb.size (by simp<;>omega)))) ?_
  simp only[pv]
  refine m_k 55 Tryz.func55 #[.pointer (some ⟨g,0,none⟩),.agg (natC x.val),.agg (natC T)] (fun w' hk=>hsu w' (sb.trans (hk.below w.heap.size sb.size (by simp<;>omega)))) ?_
  simp only[pv];refine m_p 0 S ?_;simp only[Act.put];refine mx_end ?_;intro w2 hkw hrw hnew hdis
  have zr6:Row w2 (g6) (natC S) 43:=hrw 0 (43,natC S) rfl
  replace sb:=kk sb hkw;clear hkw hrw hnew hdis r6
  have r6:=zr6
  clear zr6
  go_wp2
  exact ret_row rfl _ rfl r6 4 _ Tryz.underlying43 (by exact size_nat) rfl ⟨rfl,sb⟩
 ·kernel_rfl
end
end Go.Proofs.YtighhihgmkcabaaGreat
