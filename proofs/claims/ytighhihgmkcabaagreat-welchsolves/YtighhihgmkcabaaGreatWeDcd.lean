import Derived.Test.YtighhihgmkcabaaGreatWeLik
set_option maxRecDepth 100000
set_option maxHeartbeats 2000000
namespace Go.Proofs.YtighhihgmkcabaaGreat
open Go.RowKit
set_option linter.unusedVariables false
set_option linter.unusedSectionVars false
set_option linter.unusedSimpArgs false
theorem lies_any (d n:Nat)(w:World)(hd:d<n)(hn:n<=7):
  Calls Tryz.prog 15 #[.int .i64 d,.int .i64 n] w fun e w'=>e= .returned (.int .i64 (((n-d-1)/2:Nat):Int))/\Below w.heap.size w w':=by
 go_enter Tryz.func15,Tryz.ntmps15
 have sb:=sbmk w
 iterate 2 go_step
 refine rp ?_;refine p_v (.int .i64 0) (fun _=>rfl) (pw_nil ?_);simp only[pv]
 iterate 4 go_step
 refine rp ?_;refine p_m ?_;refine p_v (.bool false) (lt_f d 0) ?_;refine p_m ?_;refine p_m ?_;refine p_v (.bool false) (gt_f n 7) ?_;simp only[pv];refine p_k false (.bool false) ?_;refine p_m ?_;refine p_m ?_;refine p_m ?_;simp only[pv];refine p_v (.bool false) (exec_leq_i _ _ _ _ rfl n d rfl rfl false (decide_eq_false (by omega))) ?_;refine p_k false (.bool false) (pw_nil ?_);simp only[pv]
 iterate 7 go_step
 refine rp ?_;refine p_m ?_;refine p_m ?_;simp only[pv];refine p_v (.int .i64 ((n-d:Nat):Int)) (exec_sub_in _ _ _ _ rfl n d rfl rfl (by omega) (by omega)) ?_;simp only[pv];refine p_v (.int .i64 ((n-d-1:Nat):Int)) (exec_sub_in _ _ _ _ rfl (n-d) 1 rfl rfl (by omega) (by omega)) ?_;simp only[pv];refine p_v (.int .i64 (((n-d-1)/2:Nat):Int)) (exec_quo_i _ _ _ _ rfl (n-d-1) 2 rfl rfl (by omega) (by omega)) ?_;refine p_a (pw_nil ?_);simp only[pv]
 go_wp2
 go_ret
 exact⟨rfl,sb⟩
theorem nan_any (a:Int)(w:World):
  Calls Tryz.prog 154 #[.int .i64 a] w fun e w'=>e= .returned (.bool false)/\Below w.heap.size w w':=by
 go_enter Tryz.func154,Tryz.ntmps154
 have sb:=sbmk w
 iterate 2 go_step
 refine rp ?_;refine p_v (.bool false) (fun _=>rfl) (pw_nil ?_);simp only[pv]
 iterate 3 go_step
 refine rp ?_;refine p_m ?_;refine p_m ?_;simp only[pv];refine p_v (.bool false) (exec_neq_k .i64 _ _ _ _ rfl a a rfl rfl false (by rw[decide_eq_true rfl];rfl)) ?_;refine p_a (pw_nil ?_);simp only[pv]
 go_wp2
 go_ret
 exact⟨rfl,sb⟩
theorem less_no (a b:Int)(h: ¬a<b)(w:World):
  Calls Tryz.prog 130 #[.int .i64 a,.int .i64 b] w fun e w'=>e= .returned (.bool false)/\Below w.heap.size w w':=by
 go_enter Tryz.func130,Tryz.ntmps130
 have sb:=sbmk w
 iterate 2 go_step
 refine rp ?_;refine p_v (.bool false) (fun _=>rfl) (pw_nil ?_);simp only[pv]
 iterate 3 go_step
 refine rp ?_;refine p_m ?_;simp only[pv];refine p_c 154 Tryz.func154 #[.int .i64 a] (nan_any a _) ?_;intro z1001 k;simp only[pv];replace sb:=kk sb k;clear k;refine p_m ?_;refine p_s ?_;refine p_s ?_;refine p_s ?_;refine p_k false (.bool false) ?_;simp only[pv];refine p_m ?_;refine p_m ?_;refine p_m ?_;simp only[pv];refine p_v (.bool false) (exec_lt_b _ _ _ _ rfl a b rfl rfl false (decide_eq_false h)) ?_;refine p_k false (.bool false) ?_;refine p_a (pw_nil ?_);simp only[pv]
 go_wp2
 go_ret
 exact⟨rfl,sb⟩
theorem isort_any (ab:Option Addr)(n c:Nat)(u:Nat->Nat)(gb ob:Nat)(bcs:Array Value)(tb:TypeId)(w:World)(hn:n<=12)(hu: ∀i,i+1<n->u i<=u (i+1))(hna:NumsAt w ab n u gb ob bcs tb):
  Calls Tryz.prog 124 #[.slice ab n c,.int .i64 0,.int .i64 n] w fun e w'=>e= .returned (.tuple #[])/\Below w.heap.size w w':=by
 have HB:Hid (NumsAt w ab n u gb ob bcs tb):=hna
 have HU:Hid (∀i,i+1<n->u i<=u (i+1)):=hu
 clear hna hu
 go_enter Tryz.func124,Tryz.ntmps124
 have sb:=sbmk w
 iterate 2 go_step
 refine rp ?_;refine p_m ?_;simp only[pv];refine p_v (.int .i64 ((0+1:Nat):Int)) (x_a 0 1) ?_;refine p_a (pw_nil ?_);simp only[pv]
 go_wp2_with fail
 go_loopg [6,7] (n-1) (fun x s6 s7 wr=> ∃i:Nat,n-i=x/\1<=i/\i<=13/\s6= .int .i64 i/\Below w.heap.size w wr)
 case atStart=>exact⟨1,by omega,by omega,by omega,rfl,sb⟩
 case round=>
  clear sb
  obtain⟨i,hi,h1,h13,rfl,sb⟩:=hrel
  by_cases hin:i<n
  ·obtain h0|⟨rfl,rB,hbt⟩:=(HB.out.below sb).at'
   ·exact absurd h0 (by omega)
   have hb1:=hbt i hin
   have hb2:=hbt (i-1) (by omega)
   have hle:=HU.out (i-1) (by omega)
   rw[show i-1+1=i by omega]at hle
   have hls:=fun w'=>less_no (u i) (u (i-1)) (by omega) w'
   clear hbt
   iterate 2 go_step
   refine rp ?_;refine p_m ?_;refine p_m ?_;refine p_v (.bool true) (lt_t i n) (pw_nil ?_);simp only[pv]
   iterate 9 go_step
   refine rp ?_;refine p_m ?_;refine p_a (pw_nil ?_);simp only[pv];clear rB
   go_wp2_with fail
   go_loopg [7] 0 (fun y s7 wr=>s7= .int .i64 i/\Below w.heap.size w wr)
   case atStart=>exact⟨rfl,sb⟩
   case round=>
    clear sb
    obtain⟨rfl,sb⟩:=hrel
    obtain h0|⟨_,rB,_⟩:=(HB.out.below sb).at'
    ·exact absurd h0 (by omega)
    iterate 2 go_step
    refine wp_region_qw (by kernel_rfl) (by kernel_rfl) ?_;refine q_m ?_;refine q_m ?_;refine q_v (.bool true) (gt_t i 0) ?_;refine q_m ?_;refine q_m ?_;simp only[pv];refine q_m ?_;simp only[pv];refine q_x i hin Tryz.underlying32 Tryz.sizeOf3 ?_;simp only[pv];refine qw_loadcR (by rfl) 3 _ rfl _ (ob+i*1) rfl rB (.int .i64 (u i:Nat)) hb1 Tryz.isAgg3 ?_;refine q_m ?_;refine q_m ?_;simp only[pv];refine q_v (.int .i64 ((i-1:Nat):Int)) (exec_sub_in _ _ _ _ rfl i 1 rfl rfl (by omega) (by omega)) ?_;simp only[pv];refine q_v (.pointer (some ⟨gb,ob+(i-1)*1,none⟩)) ((exec_index_s 32 _ _ rfl gb ob (n) (c) rfl ((i-1)) rfl (by omega) _ Tryz.underlying32 1 Tryz.sizeOf3)) ?_;simp only[pv];refine qw_loadcR (by rfl) 3 _ rfl _ (ob+(i-1)*1) rfl rB (.int .i64 (u (i-1):Nat)) hb2 Tryz.isAgg3 ?_;simp only[pv];refine q_c 130 Tryz.func130 #[.int .i64 (u i:Nat),.int .i64 (u (i-1):Nat)] hls ?_;refine q_p true (.bool false) ?_;simp only[pv];refine qw_nil ?_;intro w2 hqb;replace sb:=b_o sb hqb;clear hqb
    iterate 6 go_step
    refine rp ?_;refine p_m ?_;simp only[pv];refine p_v (.int .i64 ((i+1:Nat):Int)) (x_a i 1) ?_;refine p_a (pw_nil ?_);simp only[pv]
    go_wp2
    go_roundg (n-(i+1))
    case measure=>omega
    case rel=>exact⟨i+1,rfl,by omega,by omega,rfl,sb⟩
  ·have hge:n<=i:=by omega
   iterate 2 go_step
   refine rp ?_;refine p_m ?_;refine p_m ?_;refine p_v (.bool false) (lt_f i n) (pw_nil ?_);simp only[pv]
   go_wp2
   go_end0
   exact⟨rfl,sb⟩
theorem pdq_any (ab:Option Addr)(n c:Nat)(z:Int)(u:Nat->Nat)(gb ob:Nat)(bcs:Array Value)(tb:TypeId)(w:World)(hn:n<=12)(hu: ∀i,i+1<n->u i<=u (i+1))(hna:NumsAt w ab n u gb ob bcs tb):
  Calls Tryz.prog 96 #[.slice ab n c,.int .i64 0,.int .i64 n,.int .i64 z] w fun e w'=>e= .returned (.tuple #[])/\Below w.heap.size w w':=by
 have his:=fun w' (hb:Below w.heap.size w w')=>isort_any ab n c u gb ob bcs tb w' hn hu (hna.below hb)
 clear hna hu
 go_enter Tryz.func96,Tryz.ntmps96
 have sb:=sbmk w
 iterate 2 go_step
 refine rp ?_;refine p_v (.bool true) (fun _=>rfl) (pw_nil ?_);simp only[pv]
 iterate 3 go_step
 refine rp ?_;refine p_v (.bool true) (fun _=>rfl) (pw_nil ?_);simp only[pv]
 go_wp2_with fail
 go_loopg [1,2] 0 (fun y s1 s2 wr=>s1= .int .i64 0/\s2= .int .i64 n/\Below w.heap.size w wr)
 case atStart=>exact⟨rfl,rfl,sb⟩
 case round=>
  clear sb
  obtain⟨rfl,rfl,sb⟩:=hrel
  iterate 2 go_step
  refine rp ?_;refine p_m ?_;refine p_m ?_;simp only[pv];refine p_v (.int .i64 ((n-0:Nat):Int)) (exec_sub_in _ _ _ _ rfl n 0 rfl rfl (by omega) (by omega)) ?_;refine p_a (pw_nil ?_);simp only[pv]
  iterate 4 go_step
  refine rp ?_;refine p_m ?_;simp only[pv];refine p_v (.bool true) (exec_leq_i _ _ _ _ rfl n 12 rfl rfl true (decide_eq_true (by omega))) (pw_nil ?_);simp only[pv]
  iterate 4 go_step
  refine rp ?_;refine p_m ?_;refine p_m ?_;refine p_m ?_;simp only[pv];refine p_c 124 Tryz.func124 #[.slice ab n c,.int .i64 0,.int .i64 n] (his _ sb) ?_;intro z4003 k;simp only[pv];replace sb:=kk sb k;clear k;refine pw_nil ?_
  go_wp2
  refine bodyPost_ret (results_none rfl _ _ _) rfl ?_
  exact⟨rfl,sb⟩
theorem blen_any (x:Nat)(w:World)(hx:x<18446744073709551616):
  Calls Tryz.prog 97 #[.int .u64 x] w fun e w'=>e= .returned (.int .i64 (bitLen x))/\Below w.heap.size w w':=by
 have hl:=fun w'=>len64_any x w' hx
 go_enter Tryz.func97,Tryz.ntmps97
 have sb:=sbmk w
 iterate 2 go_step
 refine rp ?_;refine p_v (.int .i64 0) (fun _=>rfl) (pw_nil ?_);simp only[pv]
 iterate 8 go_step
 refine rp ?_;refine p_m ?_;simp only[pv];refine p_c 102 Tryz.func102 #[.int .u64 x] ((hl _).mono (fun e w2 ⟨h1,h2⟩=>⟨h1,by rw[h2];exact Below.refl _ _⟩)) ?_;intro z2001 k;simp only[pv];replace sb:=kk sb k;clear k;refine p_a (pw_nil ?_);simp only[pv]
 go_wp2
 go_ret
 exact⟨rfl,sb⟩
theorem sort_any (ab:Option Addr)(n c:Nat)(u:Nat->Nat)(gb ob:Nat)(bcs:Array Value)(tb:TypeId)(w:World)(hn:n<=12)(hu: ∀i,i+1<n->u i<=u (i+1))(hna:NumsAt w ab n u gb ob bcs tb):
  Calls Tryz.prog 70 #[.slice ab n c] w fun e w'=>e= .returned (.tuple #[])/\Below w.heap.size w w':=by
 have hpd:=fun w' (hb:Below w.heap.size w w')=>pdq_any ab n c (bitLen n) u gb ob bcs tb w' hn hu (hna.below hb)
 have hbl:=fun w'=>blen_any n w' (by omega)
 clear hna hu
 go_enter Tryz.func70,Tryz.ntmps70
 have sb:=sbmk w
 iterate 2 go_step
 refine rp ?_;refine p_m ?_;simp only[pv];refine p_v (.int .i64 n) (n_l ab n c sl_intsX) ?_;refine p_a (pw_nil ?_);simp only[pv]
 iterate 2 go_step
 refine rp ?_;refine p_m ?_;refine p_m ?_;refine p_m ?_;simp only[pv];refine p_v (.int .u64 n) ((y_conv 3 136 _ rfl .i64 .u64 Tryz.underlying3 Tryz.underlying136 n n rfl (wrap_u64 n (by omega)))) ?_;simp only[pv];refine p_c 97 Tryz.func97 #[.int .u64 n] (hbl _) ?_;intro z1004 k;simp only[pv];replace sb:=kk sb k;clear k;refine p_c 96 Tryz.func96 #[.slice ab n c,.int .i64 0,.int .i64 n,.int .i64 (bitLen n)] (hpd _ sb) ?_;intro z1005 k;simp only[pv];replace sb:=kk sb k;clear k;refine pw_nil ?_
 go_wp2
 go_end0
 exact⟨rfl,sb⟩
def wlL (I:Nat->Nat)(B:Nat->Bool)(n:Nat):List Nat:=((List.range n).filter B).map I
theorem wl_yes {I:Nat->Nat}{B:Nat->Bool}{k:Nat}(h:B k=true):wlL I B (k+1)=wlL I B k++[I k]:=by
 unfold wlL
 rw[List.range_succ,List.filter_append,List.map_append]
 simp[h]
theorem wl_no {I:Nat->Nat}{B:Nat->Bool}{k:Nat}(h:B k=false):wlL I B (k+1)=wlL I B k:=by
 unfold wlL
 rw[List.range_succ,List.filter_append,List.map_append]
 simp[h]
theorem wl_le (I:Nat->Nat)(B:Nat->Bool)(n:Nat):(wlL I B n).length<=n:=by
 unfold wlL
 rw[List.length_map]
 exact Nat.le_trans (List.length_filter_le ..) (by rw[List.length_range];exact Nat.le_refl n)
theorem wl_mem {I:Nat->Nat}{B:Nat->Bool}{k x:Nat}(h:x∈wlL I B k): ∃i,i<k/\x=I i:=by
 unfold wlL at h
 obtain⟨i,hi,rfl⟩:=List.mem_map.1 h
 exact⟨i,List.mem_range.1 (List.mem_filter.1 hi).1,rfl⟩
theorem wl_rise {I:Nat->Nat}{B:Nat->Bool}{n:Nat}(hI: ∀i j,i<j->j<n->I i<I j): ∀k,k<=n->(wlL I B k).Pairwise (· <= ·)
 |0,_=>List.Pairwise.nil
 |k+1,hk=>by
  cases h:B k with
  |false=>rw[wl_no h];exact wl_rise hI k (by omega)
  |true=>
   rw[wl_yes h,List.pairwise_append]
   refine⟨wl_rise hI k (by omega),List.pairwise_singleton _ _,fun a ha b hb=>?_⟩
   obtain⟨i,hi,rfl⟩:=wl_mem ha
   rw[List.mem_singleton.1 hb]
   exact Nat.le_of_lt (hI i k hi (by omega))
theorem map_up (u:Nat->Nat)(m x:Nat):(List.range (m+1)).map (fun j=>if j=m then x else u j)=(List.range m).map u++[x]:=by
 rw[List.range_succ,List.map_append]
 congr 1
 ·refine List.map_congr_left fun j hj=>if_neg ?_
  have:=List.mem_range.1 hj
  omega
 ·simp
theorem rise_of {u:Nat->Nat}{m:Nat}{l:List Nat}(h:l.Pairwise (· <= ·))(he:l=(List.range m).map u): ∀i,i+1<m->u i<=u (i+1):=fun i hi=>by
 subst he
 have:=List.pairwise_iff_getElem.1 h i (i+1) (by simp;omega) (by simp;omega) (by omega)
 simpa using this
section
variable {Q:Nat}[NeZero Q]{g gr gf P G:Nat}{w:World}
def wrB (I Y:Nat->Nat)(L:List (Fin Q))(k:Nat):Bool:= !decide (Y k=(pev (fi (I k)) L).val)
def WlAt (w:World)(v:Value)(l:List Nat):Prop:= ∃ab m c u gb ob bcs tb,v= .slice ab m c/\l=(List.range m).map u/\NumsAt w ab m u gb ob bcs tb
theorem WlAt.below {w w':World}{v:Value}{l:List Nat}(h:WlAt w v l)(hb:Below w.heap.size w w'):WlAt w' v l:=by
 obtain⟨ab,m,c,u,gb,ob,bcs,tb,h1,h2,h3⟩:=h
 exact⟨ab,m,c,u,gb,ob,bcs,tb,h1,h2,h3.below hb⟩
theorem wrong_any (n c:Nat)(ab:Option Addr)(vf:Value)(Lf:List (Fin Q))(I Y:Nat->Nat)(gb ob:Nat)(bcs:Array Value)(tb:TypeId)(q:FdQ Q)(hn:n<=7)(hI: ∀k,k<n->I k<1000)(hY: ∀k,k<n->Y k<2^256)(hri: ∀i j,i<j->j<n->I i<I j)(hf:PlA w vf Lf)(hna:ElsAt 5 w ab n (fun k=>shC ((I k:Nat):Int) (Y k)) gb ob bcs tb)(h:GrpAt w g gr gf P Q G):
  Calls Tryz.prog 32 #[.pointer (some ⟨g,0,none⟩),vf,.slice ab n c] w fun e w'=> ∃v,e= .returned v/\WlAt w' v (wlL I (wrB I Y Lf) n)/\Below w.heap.size w w':=by
 obtain⟨ie,hie,hz,hsz,_⟩:=info_int'
 have hs1: ¬1*ie.size>2^24:=by rw[hsz];decide
 have hs2: ¬1*ie.size=0:=by rw[hsz];decide
 have hl1:=fun a=>lit_i1 a ie.size hsz
 have hev:=fun k (hk:k<n) w' (hb:Below w.heap.size w w')=>evalQ vf Lf (I k) (show I k<2^256 by have:=hI k hk;omega) q (h.below hb) (hf.below hb)
 obtain⟨EV,hEV⟩: ∃EV:Nat->Nat,∀k,(pev (fi (I k)) Lf).val=EV k:=⟨_,fun _=>rfl⟩
 have HW:Hid (∀k,k<n->(!decide (Y k%2^256=EV k%2^256))=wrB I Y Lf k):=fun k hk=>by
  unfold wrB
  rw[<-hEV,Nat.mod_eq_of_lt (hY k hk),Nat.mod_eq_of_lt (Nat.lt_trans (Fin.isLt _) q.m)]
 simp only[hEV]at hev
 have HR:Hid (∀m u,wlL I (wrB I Y Lf) n=(List.range m).map u-> ∀i,i+1<m->u i<=u (i+1)):=fun m u he=>rise_of (wl_rise hri n (Nat.le_refl n)) he
 generalize hB:(wrB I Y Lf)=B at*
 have HB:Hid (ElsAt 5 w ab n (fun k=>shC ((I k:Nat):Int) (Y k)) gb ob bcs tb):=hna
 have HI:Hid (∀k,k<n->I k<1000):=hI
 clear hna hf h hri hY hI hB hEV
 go_enter Tryz.func32,Tryz.ntmps32
 have sb:=sbmk w
 iterate 2 go_step
 refine rp ?_;refine p_v (.slice none 0 0) ((fun _=>rfl)) (pw_nil ?_);simp only[pv]
 iterate 3 go_step
 refine rp ?_;refine p_v (.slice none 0 0) ((fun _=>rfl)) (pw_nil ?_);simp only[pv]
 iterate 4 go_step
 refine rp ?_;refine p_m ?_;simp only[pv];refine p_v (.int .i64 n) (n_l ab n c sl_shs) ?_;refine p_v (.int .i64 0) (fun _=>rfl) (pw_nil ?_);simp only[pv]
 go_wp2_with fail
 go_loopg [7,9,12] n (fun x s7 s9 s12 wr=> ∃(k m:Nat) (u:Nat->Nat),k+x=n/\s12= .int .i64 k/\OwnI wr w.heap.size s7 m u/\wlL I B k=(List.range m).map u/\Below w.heap.size w wr)
 case atStart=>exact⟨0,0,fun _=>0,by omega,rfl,ownI_nil _ _ _,rfl,sb⟩
 case round=>
  clear sb
  obtain⟨k,m,u,hk,rfl,hL,hwl,sb⟩:=hrel
  have hmk:m<=k:=by
   have:=wl_le I B k
   rw[hwl]at this
   simpa using this
  have HWL:Hid (wlL I B k=(List.range m).map u):=hwl
  clear hwl
  obtain⟨av,cv,rfl⟩:=own_shape hL
  cases gk with
  |zero=>
   obtain rfl:k=n:=by omega
   clear hk hev
   obtain⟨_,gc,cur,hnu⟩:=ownI_nums hL
   have hso:=fun w' (hn':NumsAt w' av m u gc 0 cur 3)=>sort_any av m cv u gc 0 cur 3 w' (by omega) (HR.out m u HWL.out) hn'
   clear hL
   go_step
   refine rp ?_;refine p_v (.bool false) (lt_f k k) (pw_nil ?_);simp only[pv]
   iterate 8 go_step
   refine rp ?_;refine p_m ?_;simp only[pv];refine p_c 70 Tryz.func70 #[.slice av m cv] (hso _ hnu) ?_;intro z8001 k;simp only[pv];replace hnu:=hnu.below k.nil;replace sb:=kk sb k;clear k;refine pw_nil ?_;clear hso
   iterate 3 go_step
   refine rp ?_;refine p_m ?_;refine p_a (pw_nil ?_);simp only[pv]
   go_wp2
   go_ret
   exact⟨_,rfl,⟨av,m,cv,u,gc,0,cur,_,rfl,HWL.out,hnu⟩,sb⟩
  |succ x=>
   have hlt:k<n:=by omega
   have hIk:=HI.out k hlt
   have hof:=fun w'=>nof_any ((I k:Nat):Int) w' (by omega)
   rw[Int.toNat_natCast]at hof
   have hev2:=hev k hlt
   have hne:=HW.out k hlt
   clear hev
   obtain h0|⟨rfl,rB,hbt⟩:=(HB.out.below sb).at'
   ·exact absurd h0 (by omega)
   have hbt':=hbt k hlt
   clear hbt
   go_step
   refine rp ?_;refine p_v (.bool true) (lt_t k n) (pw_nil ?_);simp only[pv]
   iterate 10 go_step
   refine rp ?_;refine p_x k hlt Tryz.underlying47 size_sh5 ?_;simp only[pv];refine pw_loadm (by rfl) 46 _ rfl _ (ob+k*5) rfl rB (shC ((I k:Nat):Int) (Y k)) hbt' _ Tryz.underlying46 rfl size_sh ?_;simp only[pv];refine pw_new (by rfl) 46 rfl _ zero_sh ?_;intro g9 z4002 n0 r9 k;simp only[pv]
   have ehLx9:=hL.new n0
   have b9:=Nat.le_trans sb.size n0
   clear n0
   replace hL:=hL.on k (own_ne0 _)
   replace sb:=kk sb k;clear k;refine pw_put (by rfl) 46 _ _ rfl _ rfl r9 (shC ((I k:Nat):Int) (Y k)) rfl (by exact size_sh) (by rfl) (sh_one _ _) ?_;clear r9;intro z4003 r9 k;simp only[Act.put]
   replace hL:=hL.on k (own_ne1 ehLx9)
   replace sb:=kk sb k;clear k;refine pw_nil ?_;clear rB hbt'
   have osb:=sb
   iterate 3 go_step
   refine wp_region_ewb (by kernel_rfl) [] [(0,false),(1,false),(2,false),(3,false),(4,false),(5,false),(6,false),(7,false),(8,false)] ?_ (by kernel_rfl)
   have or9:=r9
   have osb:=sb
   refine e_v (.pointer (some ⟨g9,0+1,none⟩)) (exec_field 46 _ 1 rfl g9 (0) rfl _ Tryz.underlying46 _ rfl 3 Tryz.sizeOf43) ?_;simp only[pv];refine ew_loadm (by rfl) 43 _ rfl _ (0+1) rfl (fun _ hb=>(or9.belowAll hb).r) (natC (Y k)) (sh_y _ _) _ Tryz.underlying43 rfl size_nat ?_;refine e_m ?_;refine e_m ?_;simp only[pv];refine e_v (.pointer (some ⟨g9,0,none⟩)) (exec_field 46 _ 0 rfl g9 (0) rfl _ Tryz.underlying46 _ rfl 0 Tryz.sizeOf3) ?_;simp only[pv];refine ew_loadk (by rfl) 3 _ rfl _ (0) rfl (fun _ hb=>(or9.belowAll hb).r) (.int .i64 ((I k:Nat):Int)) (sh_i _ _) Tryz.isAgg3 ?_;simp only[pv];refine ew_call (by rfl) 40 _ _ rfl Tryz.func40 (by kernel_rfl) #[.int .i64 ((I k:Nat):Int)] rfl _ (fun w _=>hof w) ?_;simp only[pv];refine ew_call (by rfl) 69 _ _ rfl Tryz.func69 (by kernel_rfl) #[.pointer (some ⟨g,0,none⟩),vf,.agg (natC (I k))] rfl _ (fun w' hb=>hev2 w' (below_on osb (Nat.le_refl _) hb)) ?_;simp only[pv];refine e_v (.bool (B k)) ((fun w'=>(exec_neq_nat _ _ _ rfl (Y k) (EV k) rfl rfl w').trans (by rw[hne]))) ?_;simp only[pv];refine ew_nil ?_;intro wz hqb;replace r9:=r9.belowAll hqb
   replace hL:=hL.on (Kept.ofBelow hqb) (own_ne0 _)
   replace sb:=b_o sb hqb;clear hqb osb or9;clear hev2 hof
   cases hBk:B k with
   |false=>
    have hw2:wlL I B (k+1)=(List.range m).map u:=(wl_no hBk).trans HWL.out
    clear r9 ehLx9
    iterate 6 go_step
    refine rp ?_;refine p_v (.int .i64 ((k+1:Nat):Int)) (x_a k 1) ?_;refine p_m (pw_nil ?_);simp only[pv]
    go_wp2
    go_roundg x
    case measure=>omega
    case rel=>exact⟨k+1,m,u,by omega,rfl,hL,hw2,sb⟩
   |true=>
    obtain⟨u2,hu2⟩: ∃u2:Nat->Nat,(fun j=>if j=m then I k else u j)=u2:=⟨_,rfl⟩
    have hw2:wlL I B (k+1)=(List.range (m+1)).map u2:=by rw[wl_yes hBk,HWL.out,<-hu2,map_up]
    have hum:u2 m=I k:=by rw[<-hu2];exact if_pos rfl
    have hL3:OwnI _ w.heap.size (.slice av m cv) m u2:=ownI_congr hL (fun j hj=>by rw[<-hu2];exact(if_neg (by omega)).symm)
    clear hL hu2
    have hL:=hL3
    clear hL3
    iterate 3 go_step
    refine rp ?_;refine p_m ?_;simp only[pv];refine p_v (.pointer (some ⟨g9,0,none⟩)) (exec_field 46 _ 0 rfl g9 (0) rfl _ Tryz.underlying46 _ rfl 0 Tryz.sizeOf3) ?_;simp only[pv];refine p_d 0 r9.r (.int .i64 ((I k:Nat):Int)) (sh_i _ _) Tryz.isAgg3 ?_;simp only[pv];refine pw_litr (by rfl) 32 3 1 _ rfl #[.int .i64 (I k:Nat)] ie _ Tryz.underlying32 hie hz hs1 hs2 [(0,.int .i64 (I k:Nat))] rfl (hl1 _) ?_;intro gA z6003 n0 rA k;simp only[pv]
    have ehLxA:=hL.new n0
    clear n0;replace r9:=k.ro r9
    replace hL:=hL.on k (own_ne0 _)
    replace sb:=kk sb k;clear k;refine pw_appI (by rfl) _ _ rfl (w.heap.size) (_) (m) (u2) rfl hL gA _ rfl (by rw[hum];exact rA) (by omega) sb.size ?_
    have h0:=hL
    clear hL;intro v1 z6004 hL k hp;simp only[pv]
    have cr9:=r9.lt
    replace r9:=k.row r9 (by first|exact own_nin ehLx9|exact own_nin (h0.low (by omega)))
    have crA:=rA.lt
    replace rA:=k.row rA (by first|exact own_nin ehLxA|exact own_nin (h0.low (by omega)))
    (try replace ehLx9:=own_apart hp cr9 ehLx9)
    clear cr9
    (try replace ehLxA:=own_apart hp crA ehLxA)
    clear crA;clear hp
    replace sb:=sb.trans (k.below w.heap.size sb.size h0.base)
    clear h0;clear k;refine p_a (pw_nil ?_);simp only[pv];clear r9
    iterate 2 go_step
    refine rp ?_;refine p_v (.int .i64 ((k+1:Nat):Int)) (x_a k 1) ?_;refine p_m (pw_nil ?_);simp only[pv]
    go_wp2
    go_roundg x
    case measure=>omega
    case rel=>exact⟨k+1,m+1,u2,by omega,rfl,hL,hw2,sb⟩
theorem dec_first (v:Option Addr)(dv lv:Value)(z:Int)(R:World->Value->Prop)(hz:z≠4)(hR: ∀w1 w2 x,R w1 x->Below w1.heap.size w1 w2->R w2 x)(hr: ∀w',Below w.heap.size w w'->Calls Tryz.prog 30 #[.pointer v,dv,lv] w' fun e w2=> ∃vf,e= .returned (.tuple #[vf,.int .i64 z])/\R w2 vf/\Below w'.heap.size w' w2):
  Calls Tryz.prog 12 #[.pointer v,dv,lv] w fun e w'=> ∃vf,e= .returned (.tuple #[vf,.slice none 0 0,.int .i64 z])/\R w' vf/\Below w.heap.size w w':=by
 go_enter Tryz.func12,Tryz.ntmps12
 have sb:=sbmk w
 iterate 2 go_step
 refine rp ?_;refine p_v (.slice none 0 0) ((fun _=>rfl)) ?_;simp only[pv];refine p_v (.slice none 0 0) ((fun _=>rfl)) ?_;refine p_v (.int .i64 0) (fun _=>rfl) (pw_nil ?_);simp only[pv]
 iterate 3 go_step
 refine rp ?_;refine p_m ?_;refine p_m ?_;refine p_m ?_;simp only[pv];refine p_f 30 Tryz.func30 #[.pointer v,dv,lv] (hr _ sb) ?_
 rintro _ z1003 ⟨vf,rfl,hRf,hb⟩
 refine⟨_,rfl,?_⟩
 simp only[pv]
 have k:=Kept.ofBelow hb
 clear hb;replace sb:=kk sb k;clear k;refine p_m ?_;refine p_e ?_;refine p_e ?_;refine p_a ?_;refine p_a (pw_nil ?_);simp only[pv];clear hr
 iterate 4 go_step
 refine rp ?_;refine p_m ?_;simp only[pv];refine p_v (.bool true) (exec_neq_k .i64 _ _ _ _ rfl z 4 rfl rfl true (by rw[decide_eq_false hz];rfl)) (pw_nil ?_);simp only[pv]
 iterate 4 go_step
 refine rp ?_;refine p_m ?_;refine p_m ?_;refine p_a ?_;simp only[pv];refine p_v (.slice none 0 0) ((fun _=>rfl)) ?_;refine p_a (pw_nil ?_);simp only[pv]
 go_wp2
 go_ret3
 exact⟨vf,rfl,hRf,sb⟩
theorem dec_bad (n c d:Nat)(ab:Option Addr)(I Y:Nat->Nat)(gb ob:Nat)(bcs:Array Value)(tb:TypeId)(q:FdQ Q)(hd:d<n)(hn:n<=7)(hI: ∀k,k<n->I k<1000)(hY: ∀k,k<n->Y k<2^256)(hri: ∀i j,i<j->j<n->I i<I j)(hdd: ∀i j,i<n->j<n->i≠j->(fi (I i):Fin Q)≠fi (I j))(hna:ElsAt 5 w ab n (fun k=>shC ((I k:Nat):Int) (Y k)) gb ob bcs tb)(h:GrpAt w g gr gf P Q G)(f:List (Fin Q))(hf:f.length<=d+1)(hfe:poff (fun i=>(fi (I i):Fin Q)) (fun i=>(fi (Y i):Fin Q)) n f<=(n-d-1)/2)(hwl:(wlL I (wrB I Y (ptrim f)) n).length<=(n-d-1)/2)
  (hr: ∀w',Below w.heap.size w w'->Calls Tryz.prog 30 #[.pointer (some ⟨g,0,none⟩),.int .i64 d,.slice ab n c] w' (Rt (.tuple #[.slice none 0 0,.int .i64 4]) w')):
  Calls Tryz.prog 12 #[.pointer (some ⟨g,0,none⟩),.int .i64 d,.slice ab n c] w fun e w'=> ∃vf vb,e= .returned (.tuple #[vf,vb,.int .i64 0])/\PlAt w' vf (ptrim f)/\WlAt w' vb (wlL I (wrB I Y (ptrim f)) n)/\Below w.heap.size w w':=by
 have hli:=fun w'=>lies_any d n w' hd hn
 have hlk:=fun w' (hb:Below w.heap.size w w')=>lik_any n c d ((n-d-1)/2) ab I Y gb ob bcs tb q hn (by omega) hI hY hdd (hna.below hb) (h.below hb) f hf hfe
 have hfl:(ptrim f).length<=1000:=Nat.le_trans (ptrim_le f) (by omega)
 have hwr:=fun w' (hb:Below w.heap.size w w') vf (hp:PlAt w' vf (ptrim f))=>wrong_any n c ab vf (ptrim f) I Y gb ob bcs tb q hn hI hY hri (hp.arg hfl) (hna.below hb) (h.below hb)
 have HWl:Hid ((wlL I (wrB I Y (ptrim f)) n).length<=(n-d-1)/2):=hwl
 generalize (n-d-1)/2=e at*
 generalize wlL I (wrB I Y (ptrim f)) n=WL at*
 generalize ptrim f=PF at*
 clear hna h hfe hwl hf hri hY hI hdd hfl
 go_enter Tryz.func12,Tryz.ntmps12
 have sb:=sbmk w
 iterate 2 go_step
 refine rp ?_;refine p_v (.slice none 0 0) ((fun _=>rfl)) ?_;simp only[pv];refine p_v (.slice none 0 0) ((fun _=>rfl)) ?_;refine p_v (.int .i64 0) (fun _=>rfl) (pw_nil ?_);simp only[pv]
 iterate 3 go_step
 refine rp ?_;refine p_m ?_;refine p_m ?_;refine p_m ?_;simp only[pv];refine p_c 30 Tryz.func30 #[.pointer (some ⟨g,0,none⟩),.int .i64 d,.slice ab n c] (hr _ sb) ?_;intro z1003 k;simp only[pv];replace sb:=kk sb k;clear k;refine p_m ?_;refine p_e ?_;refine p_e ?_;refine p_a ?_;refine p_a (pw_nil ?_);simp only[pv];clear hr
 iterate 4 go_step
 refine rp ?_;refine p_m ?_;simp only[pv];refine p_v (.bool false) (exec_neq_k .i64 _ _ _ _ rfl 4 4 rfl rfl false rfl) (pw_nil ?_);simp only[pv]
 iterate 7 go_step
 refine rp ?_;refine p_m ?_;refine p_m ?_;simp only[pv];refine p_v (.int .i64 n) (n_l ab n c sl_shs) ?_;simp only[pv];refine p_c 15 Tryz.func15 #[.int .i64 d,.int .i64 n] (hli _) ?_;intro z4003 k;simp only[pv];replace sb:=kk sb k;clear k;refine p_a (pw_nil ?_);simp only[pv]
 iterate 3 go_step
 refine rp ?_;refine p_m ?_;refine p_m ?_;refine p_m ?_;refine p_m ?_;simp only[pv];refine p_f 31 Tryz.func31 #[.pointer (some ⟨g,0,none⟩),.int .i64 d,.int .i64 (e:Nat),.slice ab n c] (hlk _ sb) ?_
 rintro _ z5004 ⟨vf,rfl,hpf,hb⟩
 refine⟨_,rfl,?_⟩
 simp only[pv]
 have k:=Kept.ofBelow hb
 clear hb;replace sb:=kk sb k;clear k;refine p_m ?_;refine p_e ?_;refine p_e ?_;refine p_a ?_;refine p_a (pw_nil ?_);simp only[pv];clear hlk hli
 iterate 4 go_step
 refine rp ?_;refine p_m ?_;simp only[pv];refine p_v (.bool false) (exec_neq_k .i64 _ _ _ _ rfl 0 0 rfl rfl false rfl) (pw_nil ?_);simp only[pv]
 iterate 7 go_step
 refine rp ?_;refine p_m ?_;refine p_m ?_;refine p_m ?_;simp only[pv];refine p_f 32 Tryz.func32 #[.pointer (some ⟨g,0,none⟩),vf,.slice ab n c] (hwr _ sb vf hpf) ?_
 rintro _ z8003 ⟨vb,rfl,⟨av,m,cv,u,gc,oc,cur,tc,rfl,hWL,hnu⟩,hb⟩
 refine⟨_,rfl,?_⟩
 simp only[pv]
 have k:=Kept.ofBelow hb
 clear hb;replace hpf:=hpf.below k.nil;replace sb:=kk sb k;clear k;refine p_a (pw_nil ?_);simp only[pv];clear hwr
 have hme:m<=e:=by
  have:=HWl.out
  rw[hWL]at this
  simpa using this
 iterate 4 go_step
 refine rp ?_;refine p_m ?_;simp only[pv];refine p_v (.int .i64 m) (n_l av m cv sl_intsX) ?_;refine p_m ?_;refine p_v (.bool false) (gt_f m e) (pw_nil ?_);simp only[pv]
 iterate 7 go_step
 refine rp ?_;refine p_m ?_;refine p_m ?_;refine p_a ?_;refine p_a ?_;refine p_v (.int .i64 0) (fun _=>rfl) (pw_nil ?_);simp only[pv]
 go_wp2
 go_ret3
 exact⟨vf,_,rfl,hpf,⟨av,m,cv,u,gc,oc,cur,tc,rfl,hWL,hnu⟩,sb⟩
theorem wl_count (I Y:Nat->Nat)(f:List (Fin Q))(n:Nat):poff (fun i=>(fi (I i):Fin Q)) (fun i=>(fi (Y i):Fin Q)) n f<=(wlL I (wrB I Y f) n).length:=by
 unfold poff wlL
 rw[List.length_map,<-List.countP_eq_length_filter]
 refine List.countP_mono_left fun j _ hj=>?_
 unfold wrB
 rw[Bool.not_eq_true',decide_eq_false_iff_not]
 intro e
 rw[decide_eq_true_eq]at hj
 exact hj (show pev (fi (I j)) f=fi (Y j) by rw[e,fi_of])
theorem wrB_trim (I Y:Nat->Nat)(f:List (Fin Q)):wrB I Y (ptrim f)=wrB I Y f:=funext fun k=>by
 unfold wrB
 rw[pev_ptrim]
theorem dec_any (n c d:Nat)(ab:Option Addr)(I Y:Nat->Nat)(gb ob:Nat)(bcs:Array Value)(tb:TypeId)(q:FdQ Q)(hd:d<n)(hn:n<=7)(hnc:n<=c)(hI: ∀k,k<n->I k<1000)(hY: ∀k,k<n->Y k<2^256)(hri: ∀i j,i<j->j<n->I i<I j)(hdd: ∀i j,i<n->j<n->i≠j->(fi (I i):Fin Q)≠fi (I j))(hA:apB 1 (fun k=>((I k:Nat):Int)) n=true)(hna:ElsAt 5 w ab n (fun k=>shC ((I k:Nat):Int) (Y k)) gb ob bcs tb)(h:GrpAt w g gr gf P Q G)(f:List (Fin Q))(hf:f.length<=d+1)(hwl:(wlL I (wrB I Y f) n).length<=(n-d-1)/2):
  Calls Tryz.prog 12 #[.pointer (some ⟨g,0,none⟩),.int .i64 d,.slice ab n c] w fun e w'=> ∃vf vb,e= .returned (.tuple #[vf,vb,.int .i64 0])/\PlAt w' vf (ptrim f)/\WlAt w' vb (wlL I (wrB I Y f) n)/\Below w.heap.size w w':=by
 have hfe:=Nat.le_trans (wl_count I Y f n) hwl
 cases hAN:anB (fun k=> !decide (Y k=(pev (fi (I k)) (tTh ivF (fun i=>(fi (I i):Fin Q)) (fun i=>(fi (Y i):Fin Q)) (d+1))).val)) n with
 |true=>
  have:=dec_bad n c d ab I Y gb ob bcs tb q hd hn hI hY hri hdd hna h f hf hfe (by rw[wrB_trim];exact hwl) (fun w' hb=>rec_bad d n c ab I Y gb ob bcs tb (by omega) (by omega) hnc hd q hI hY hdd (hna.below hb) (h.below hb) hA hAN)
  rw[wrB_trim]at this
  exact this
 |false=>
  have hat: ∀k,k<n->Y k=(pev (fi (I k)) (tTh ivF (fun i=>(fi (I i):Fin Q)) (fun i=>(fi (Y i):Fin Q)) (d+1))).val:=fun k hk=>by
   have h1: ¬(!decide (Y k=(pev (fi (I k)) (tTh ivF (fun i=>(fi (I i):Fin Q)) (fun i=>(fi (Y i):Fin Q)) (d+1))).val))=true:=fun e=>by
    rw[(anB_iff _ _).2 ⟨k,hk,e⟩]at hAN
    cases hAN
   simpa using h1
  have hT0:poff (fun i=>(fi (I i):Fin Q)) (fun i=>(fi (Y i):Fin Q)) n (tTh ivF (fun i=>(fi (I i):Fin Q)) (fun i=>(fi (Y i):Fin Q)) (d+1))=0:=by
   unfold poff
   rw[List.countP_eq_zero]
   intro j hj
   rw[decide_eq_true_eq,Decidable.not_not]
   show pev (fi (I j)) _=fi (Y j)
   rw[hat j (List.mem_range.1 hj),fi_of]
  have hpc:=poff_unique q.pr (fun i=>(fi (I i):Fin Q)) (fun i=>(fi (Y i):Fin Q)) n d ((n-d-1)/2) hdd (tTh ivF (fun i=>(fi (I i):Fin Q)) (fun i=>(fi (Y i):Fin Q)) (d+1)) f (tTh_length _ _ _ _) hf (by omega) (by rw[hT0];exact Nat.zero_le _) hfe
  have hTf:tTh ivF (fun i=>(fi (I i):Fin Q)) (fun i=>(fi (Y i):Fin Q)) (d+1)=ptrim f:=by rw[<-tTh_trim];exact ptrim_ext _ _ hpc
  have hw0:wlL I (wrB I Y f) n=[]:=by
   unfold wlL
   rw[List.filter_eq_nil_iff.2,List.map_nil]
   intro k hk
   unfold wrB
   rw[hat k (List.mem_range.1 hk),pev_congr _ _ hpc]
   simp
  rw[hw0]
  refine(dec_first (some ⟨g,0,none⟩) (.int .i64 d) (.slice ab n c) 0 (fun w2 v=>PlAt w2 v (ptrim f)) (by decide) (fun w1 w2 x hx hb=>hx.below hb) (fun w' hb=>?_)).mono ?_
  ·have:=rec_yes d n c ab I Y gb ob bcs tb (by omega) (by omega) hnc hd q hI hY hdd (hna.below hb) (h.below hb) hA hAN
   rw[hTf]at this
   exact this
  ·rintro e w' ⟨vf,rfl,h1,h2⟩
   exact⟨vf,_,rfl,h1,⟨none,0,0,fun _=>0,0,0,#[],0,rfl,rfl,⟨.inl rfl⟩⟩,h2⟩
end
end Go.Proofs.YtighhihgmkcabaaGreat
