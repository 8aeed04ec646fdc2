import Derived.Test.YtighhihgmkcabaaGreatWeSol
namespace Go.Proofs.YtighhihgmkcabaaGreat
open Go.RowKit
set_option linter.unusedVariables false
set_option linter.unusedSectionVars false
set_option linter.unusedSimpArgs false
theorem sl_lli:Tryz.prog.underlying 31=some (.slice (Tryz.prog.elem 31)):=by kernel_rfl
def NiAt (w:World)(v:Value)(n:Nat)(F:Nat->Nat):Prop:= ∃ab c gb ob bcs tb,v= .slice ab n c/\NumsAt w ab n F gb ob bcs tb
theorem NiAt.below {w w2:World}{v:Value}{n:Nat}{F:Nat->Nat}(h:NiAt w v n F)(hb:Below w.heap.size w w2):NiAt w2 v n F:=by
 obtain⟨ab,c,gb,ob,bcs,tb,h1,h2⟩:=h
 exact⟨ab,c,gb,ob,bcs,tb,h1,h2.below hb⟩
section
variable {Q:Nat}[NeZero Q]
theorem ivN_val (pr:IsP Q)(x:Fin Q):ivN x.val Q=(ivF x).val:=by
 have h:=iv_is (A:=x.val) pr
 rw[Nat.mod_eq_of_lt x.isLt]at h
 rw[<-h]
 exact(Nat.mod_eq_of_lt (inv_lt _ _ pr)).symm
theorem add_val (x y:Fin Q):(x.val+y.val)%Q=(x+y).val:=(Fin.val_add x y).symm
def slS (A x:Nat->Fin Q)(k:Nat):Fin Q:=psm (fun j=>A j*x j) k
end
set_option maxRecDepth 100000 in
set_option maxHeartbeats 2000000 in
theorem solves_any {Q:Nat}[NeZero Q](ab ax ay:Option Addr)(m c n cx cy:Nat)(S:Nat->Value)(A:Mx Q)(x:Nat->Fin Q)(gb ob:Nat)(bcs:Array Value)(tb:TypeId)(gx ox:Nat)(xcs:Array Value)(tx:TypeId)(gy oy:Nat)(ycs:Array Value)(ty:TypeId)(w:World)(q:FdQ Q)(hq:Q<4611686018427387904)(hm:m<=1000)(hn:n<=1000)(hna:VsAt w ab m S gb ob bcs tb)(hS: ∀i,i<m->NiAt w (S i) n (fun k=>(A i k).val))(hx:NumsAt w ax n (fun k=>(x k).val) gx ox xcs tx)(hy:NumsAt w ay m (fun i=>(A i n).val) gy oy ycs ty)(hso:Sol A m n x):
  Calls Tryz.prog 9 #[.slice ax n cx,.slice ab m c,.slice ay m cy,.int .i64 (Q:Nat)] w fun e w'=>e= .returned (.bool true)/\Below w.heap.size w w':=by
 have h0q:=q.pos
 have hmu:=fun(u v:Fin Q) w'=>rmul8_any u.val v.val Q w' h0q hq
 simp only[<-Fin.val_mul]at hmu
 have had:=fun(u v:Fin Q) w'=>radd8_any u.val v.val Q w' h0q (Nat.lt_trans u.isLt hq) (Nat.lt_trans v.isLt hq)
 simp only[add_val]at had
 have HB:Hid (VsAt w ab m S gb ob bcs tb):=hna
 have HS:Hid (∀i,i<m->NiAt w (S i) n (fun k=>(A i k).val)):=hS
 have HX:Hid (NumsAt w ax n (fun k=>(x k).val) gx ox xcs tx):=hx
 have HY:Hid (NumsAt w ay m (fun i=>(A i n).val) gy oy ycs ty):=hy
 have HO:Hid (Sol A m n x):=hso
 clear hna hS hx hy hso
 go_enter Tryz.func9,Tryz.ntmps9
 have sb:=sbmk w
 iterate 2 go_step
 refine rp ?_;refine p_v (.bool false) (fun _=>rfl) (pw_nil ?_);simp only[pv]
 iterate 4 go_step
 refine rp ?_;refine p_v (.int .i64 0) (fun _=>rfl) (pw_nil ?_);simp only[pv]
 go_wp2_with fail
 go_loopg [9,10,11] m (fun z s9 s10 s11 wr=> ∃i:Nat,i+z=m/\s9= .int .i64 i/\Below w.heap.size w wr)
 case atStart=>exact⟨0,by omega,rfl,sb⟩
 case round=>
  clear sb
  obtain⟨i,hi,rfl,sb⟩:=hrel
  cases gk with
  |zero=>
   obtain rfl:i=m:=by omega
   iterate 2 go_step
   refine rp ?_;refine p_m ?_;refine p_m ?_;simp only[pv];refine p_v (.int .i64 i) (n_l ab i c sl_lli) ?_;refine p_v (.bool false) (lt_f i i) ?_;refine p_m ?_;refine p_s ?_;refine p_s ?_;simp only[pv];refine p_s ?_;refine p_s ?_;refine p_k false (.bool false) (pw_nil ?_);simp only[pv]
   iterate 7 go_step
   refine rp ?_;refine p_v (.bool true) (fun _=>rfl) (pw_nil ?_);simp only[pv]
   go_wp2
   go_ret
   exact⟨rfl,sb⟩
  |succ z=>
   have hlt:i<m:=by omega
   obtain⟨ai,ci,gi,oi,bi,ti,hSi,hni⟩:=HS.out i hlt
   have HN:Hid (NumsAt w ai n (fun k=>(A i k).val) gi oi bi ti):=hni
   clear hni
   obtain h0|⟨rfl,rB,hbt⟩:=(HB.out.below sb).at'
   ·exact absurd h0 (by omega)
   have hbt':=hbt i hlt
   rw[hSi]at hbt'
   clear hbt
   iterate 2 go_step
   refine rp ?_;refine p_m ?_;refine p_m ?_;simp only[pv];refine p_v (.int .i64 m) (n_l (some ⟨gb,ob,none⟩) m c sl_lli) ?_;refine p_v (.bool true) (lt_t i m) ?_;refine p_m ?_;refine p_m ?_;refine p_m ?_;simp only[pv];refine p_v (.int .i64 m) (n_l ay m cy sl_intsX) ?_;refine p_v (.bool true) (lt_t i m) ?_;refine p_k true (.bool true) (pw_nil ?_);simp only[pv]
   iterate 9 go_step
   refine rp ?_;refine p_v (.int .i64 0) (fun _=>rfl) (pw_nil ?_);simp only[pv];clear rB
   obtain h0|⟨_,rB,_⟩:=(HB.out.below sb).at'
   ·exact absurd h0 (by omega)
   iterate 4 go_step
   refine rp ?_;refine p_m ?_;refine p_m ?_;simp only[pv];refine p_x i hlt Tryz.underlying31 Tryz.sizeOf32 ?_;simp only[pv];refine p_d (ob+i*1) rB (.slice ai n ci) hbt' Tryz.isAgg32 ?_;simp only[pv];refine p_v (.int .i64 n) (n_l ai n ci sl_intsX) ?_;refine p_m ?_;simp only[pv];refine p_v (.int .i64 n) (n_l ax n cx sl_intsX) ?_;simp only[pv];refine p_v (.bool false) (exec_neq_k .i64 _ _ _ _ rfl n n rfl rfl false (by rw[decide_eq_true rfl];rfl)) (pw_nil ?_);simp only[pv]
   iterate 8 go_step
   refine rp ?_;refine p_v (.int .i64 0) (fun _=>rfl) (pw_nil ?_);simp only[pv];clear rB
   go_wp2_with fail
   go_loopg [10,11] n (fun y s10 s11 wr=> ∃k:Nat,k+y=n/\s11= .int .i64 k/\s10= .int .i64 ((slS (A i) x k).val:Nat)/\Below w.heap.size w wr)
   case atStart=>exact⟨0,by omega,rfl,(show Value.int .i64 0= .int .i64 (((0:Fin Q).val:Nat):Int)from by rw[show(0:Fin Q).val=0%Q from rfl,Nat.zero_mod];rfl),sb⟩
   case round=>
    clear sb
    obtain⟨k,hk,rfl,rfl,sb⟩:=hrel
    obtain h0|⟨_,rB,_⟩:=(HB.out.below sb).at'
    ·exact absurd h0 (by omega)
    cases gk with
    |zero=>
     obtain rfl:k=n:=by omega
     have hs:slS (A i) x k=A i k:=HO.out i hlt
     obtain h0|⟨rfl,rY,hyt⟩:=(HY.out.below sb).at'
     ·exact absurd h0 (by omega)
     have hyt':=hyt i hlt
     clear hyt
     iterate 2 go_step
     refine rp ?_;refine p_m ?_;refine p_m ?_;refine p_m ?_;simp only[pv];refine p_x i hlt Tryz.underlying31 Tryz.sizeOf32 ?_;simp only[pv];refine p_d (ob+i*1) rB (.slice ai k ci) hbt' Tryz.isAgg32 ?_;simp only[pv];refine p_v (.int .i64 k) (n_l ai k ci sl_intsX) ?_;refine p_v (.bool false) (lt_f k k) ?_;refine p_m ?_;refine p_s ?_;refine p_s ?_;simp only[pv];refine p_s ?_;refine p_s ?_;refine p_k false (.bool false) (pw_nil ?_);simp only[pv]
     iterate 7 go_step
     refine rp ?_;refine p_m ?_;refine p_m ?_;refine p_m ?_;simp only[pv];refine p_x i hlt Tryz.underlying32 Tryz.sizeOf3 ?_;simp only[pv];refine p_d (oy+i*1) rY (.int .i64 ((A i k).val:Nat)) hyt' Tryz.isAgg3 ?_;simp only[pv];refine p_v (.bool false) (exec_neq_k .i64 _ _ _ _ rfl ((slS (A i) x k).val:Nat) ((A i k).val:Nat) rfl rfl false (by rw[hs,decide_eq_true rfl];rfl)) (pw_nil ?_);simp only[pv];clear rB rY
     iterate 6 go_step
     refine rp ?_;refine p_m ?_;simp only[pv];refine p_v (.int .i64 ((i+1:Nat):Int)) (x_a (i) 1) ?_;refine p_a (pw_nil ?_);simp only[pv]
     go_wp2
     go_roundg z
     case measure=>omega
     case rel=>exact⟨i+1,by omega,rfl,sb⟩
    |succ y=>
     have hkn:k<n:=by omega
     have hm2:=hmu (A i k) (x k)
     have ha2:=had (slS (A i) x k) (A i k*x k)
     have hnx:slS (A i) x k+A i k*x k=slS (A i) x (k+1):=rfl
     rw[hnx]at ha2
     iterate 2 go_step
     refine rp ?_;refine p_m ?_;refine p_m ?_;refine p_m ?_;simp only[pv];refine p_x i hlt Tryz.underlying31 Tryz.sizeOf32 ?_;simp only[pv];refine p_d (ob+i*1) rB (.slice ai n ci) hbt' Tryz.isAgg32 ?_;simp only[pv];refine p_v (.int .i64 n) (n_l ai n ci sl_intsX) ?_;refine p_v (.bool true) (lt_t k n) ?_;refine p_m ?_;refine p_m ?_;refine p_m ?_;simp only[pv];refine p_v (.int .i64 n) (n_l ax n cx sl_intsX) ?_;refine p_v (.bool true) (lt_t k n) ?_;refine p_k true (.bool true) (pw_nil ?_);simp only[pv];clear rB
     obtain h0|⟨_,rB,_⟩:=(HB.out.below sb).at'
     ·exact absurd h0 (by omega)
     obtain h0|⟨rfl,rN,hnt⟩:=(HN.out.below sb).at'
     ·exact absurd h0 (by omega)
     have hnt':=hnt k hkn
     obtain h0|⟨rfl,rX,hxt⟩:=(HX.out.below sb).at'
     ·exact absurd h0 (by omega)
     have hxt':=hxt k hkn
     clear hnt hxt
     iterate 8 go_step
     refine wp_region_qw (by kernel_rfl) (by kernel_rfl) ?_;refine q_m ?_;refine q_m ?_;refine q_m ?_;simp only[pv];refine q_x i hlt Tryz.underlying31 Tryz.sizeOf32 ?_;simp only[pv];refine qw_loadcR (by rfl) 32 _ rfl _ (ob+i*1) rfl rB (.slice (some ⟨gi,oi,none⟩) n ci) hbt' Tryz.isAgg32 ?_;refine q_m ?_;simp only[pv];refine q_x k hkn Tryz.underlying32 Tryz.sizeOf3 ?_;simp only[pv];refine qw_loadcR (by rfl) 3 _ rfl _ (oi+k*1) rfl rN (.int .i64 ((A i k).val:Nat)) hnt' Tryz.isAgg3 ?_;refine q_m ?_;refine q_m ?_;simp only[pv];refine q_x k hkn Tryz.underlying32 Tryz.sizeOf3 ?_;simp only[pv];refine qw_loadcR (by rfl) 3 _ rfl _ (ox+k*1) rfl rX (.int .i64 ((x k).val:Nat)) hxt' Tryz.isAgg3 ?_;refine q_m ?_;simp only[pv];refine q_c 25 Tryz.func25 #[.int .i64 ((A i k).val:Nat),.int .i64 ((x k).val:Nat),.int .i64 (Q:Nat)] hm2 ?_;refine q_m ?_;simp only[pv];refine q_c 28 Tryz.func28 #[.int .i64 ((slS (A i) x k).val:Nat),.int .i64 ((A i k*x k).val:Nat),.int .i64 (Q:Nat)] ha2 ?_;refine q_a ?_;simp only[pv];refine qw_nil ?_;intro w2 hqb;replace sb:=b_o sb hqb;clear hqb;clear rB rN rX hm2 ha2
     iterate 2 go_step
     refine rp ?_;refine p_m ?_;simp only[pv];refine p_v (.int .i64 ((k+1:Nat):Int)) (x_a (k) 1) ?_;refine p_a (pw_nil ?_);simp only[pv]
     go_wp2
     go_roundg y
     case measure=>omega
     case rel=>exact⟨k+1,by omega,rfl,rfl,sb⟩
end Go.Proofs.YtighhihgmkcabaaGreat
