import Derived.Test.YtighhihgmkcabaaGreatPY
set_option maxRecDepth 100000
set_option maxHeartbeats 2000000
namespace Go.Proofs.YtighhihgmkcabaaGreat
open Go.RowKit
set_option linter.unusedVariables false
theorem rsame_yes (n ca ce:Nat)(ab ae:Option Addr)(a':Nat->Nat)(gb ob ge oe:Nat)(bcs ecs:Array Value)(tb te:TypeId)(w:World)(hn:n<9223372036854775808)(hna:NatsAt w ab n a' gb ob bcs tb)(hnb:NatsAt w ae n a' ge oe ecs te):
  Calls Tryz.prog 10 #[.slice ab n ca,.slice ae n ce] w fun e w'=>e= .returned (.bool true)/\Below w.heap.size w w':=by
 have HB:Hid (NatsAt w ab n a' gb ob bcs tb):=hna
 have HE:Hid (NatsAt w ae n a' ge oe ecs te):=hnb
 clear hna hnb
 go_enter Tryz.func10,Tryz.ntmps10
 have sb:=sbmk w
 iterate 2 go_step
 refine rp ?_;refine p_v (.bool false) (fun _=>rfl) (pw_nil ?_);simp only[pv]
 iterate 4 go_step
 refine rp ?_;refine p_m ?_;simp only[pv];refine p_v (.int .i64 n) (n_l ab n ca sl_natsX) ?_;refine p_m ?_;simp only[pv];refine p_v (.int .i64 n) (n_l ae n ce sl_natsX) ?_;simp only[pv];refine p_v (.bool false) (exec_neq_k .i64 _ _ _ _ rfl n n rfl rfl false (by rw[decide_eq_true rfl];rfl)) (pw_nil ?_);simp only[pv]
 iterate 8 go_step
 refine rp ?_;refine p_v (.int .i64 0) (fun _=>rfl) (pw_nil ?_);simp only[pv]
 go_wp2_with fail
 go_loopg [5] n (fun g s5 wr=> ∃i:Nat,i+g=n/\s5= .int .i64 i/\Below w.heap.size w wr)
 case atStart=>exact⟨0,by omega,rfl,sb⟩
 case round=>
  clear sb
  obtain⟨i,hi,rfl,sb⟩:=hrel
  cases gk with
  |zero=>
   obtain rfl:i=n:=by omega
   clear hi
   iterate 2 go_step
   refine rp ?_;refine p_m ?_;refine p_m ?_;simp only[pv];refine p_v (.int .i64 i) (n_l ab i ca sl_natsX) ?_;refine p_v (.bool false) (lt_f i i) (pw_nil ?_);simp only[pv]
   iterate 7 go_step
   refine rp ?_;refine p_v (.bool true) (fun _=>rfl) (pw_nil ?_);simp only[pv]
   go_wp2
   go_ret
   exact⟨rfl,sb⟩
  |succ g=>
   have hlt:i<n:=by omega
   iterate 2 go_step
   refine rp ?_;refine p_m ?_;refine p_m ?_;simp only[pv];refine p_v (.int .i64 n) (n_l ab n ca sl_natsX) ?_;refine p_v (.bool true) (lt_t i n) (pw_nil ?_);simp only[pv]
   obtain h0|⟨rfl,rB,hbt⟩:=(HB.out.below sb).at'
   ·exact absurd h0 (by omega)
   obtain h0|⟨rfl,rE,het⟩:=(HE.out.below sb).at'
   ·exact absurd h0 (by omega)
   have hbt':=hbt i hlt
   have het':=het i hlt
   clear hbt het
   iterate 9 go_step
   refine wp_region_qw (by kernel_rfl) (by kernel_rfl) ?_;refine q_m ?_;refine q_m ?_;simp only[pv];refine q_x i hlt Tryz.underlying23 size_nat4 ?_;simp only[pv];refine qw_loadmR (by rfl) 43 _ rfl _ (ob+i*4) rfl rB (natC (a' i)) hbt' _ Tryz.underlying43 rfl size_nat ?_;refine q_m ?_;refine q_m ?_;simp only[pv];refine q_x i hlt Tryz.underlying23 size_nat4 ?_;simp only[pv];refine qw_loadmR (by rfl) 43 _ rfl _ (oe+i*4) rfl rE (natC (a' i)) het' _ Tryz.underlying43 rfl size_nat ?_;simp only[pv];refine q_v (.bool false) ((fun w'=>(exec_neq_nat _ _ _ rfl (a' i) (a' i) rfl rfl w').trans (by rw[neq_no]))) ?_;simp only[pv];refine qw_nil ?_;intro w6 hqb;replace sb:=b_o sb hqb;clear hqb;clear rB rE hbt' het'
   iterate 6 go_step
   refine rp ?_;refine p_m ?_;simp only[pv];refine p_v (.int .i64 ((i+1:Nat):Int)) (x_a i 1) ?_;refine p_a (pw_nil ?_);simp only[pv]
   go_wp2
   go_roundg g
   case measure=>omega
   case rel=>exact⟨i+1,by omega,rfl,sb⟩
theorem le_fd12:FdQ 1966023127:=⟨⟨by decide,by decide,by decide⟩,(grN_primes least_is).2⟩
def th3 (A B C i:Nat):Nat:=if i=0 then A else if i=1 then B else C
theorem same_pl {Q:Nat}[NeZero Q](v:Value)(L:List (Fin Q))(n ce:Nat)(ae:Option Addr)(F:Nat->Nat)(ge oe:Nat)(ecs:Array Value)(te:TypeId)(w:World)(hn:L.length=n)(hn2:n<9223372036854775808)(hv:PlAt w v L)(hnb:NatsAt w ae n F ge oe ecs te)(hF: ∀i,i<n->F i=(pco L i).val):
  Calls Tryz.prog 10 #[v,.slice ae n ce] w fun e w'=>e= .returned (.bool true)/\Below w.heap.size w w':=by
 obtain⟨ab,c,gb,ob,bcs,tb,rfl,hna⟩:=hv
 subst hn
 exact rsame_yes L.length c ce ab ae _ gb ob ge oe bcs ecs tb te w hn2 hna (hnb.congr hF)
def smQ (a0:Int):Nat:=lN (pk2 (pkB a0) otL leL) (3-2)
def smP (a0:Int):Nat:=lN (pk2 (pkB a0) otL leL) (3-1)
def smG (a0:Int):Nat:=pk2 (pkB a0) otG leG
theorem sm_fd (a0:Int):FdQ (smQ a0)/\smQ a0<4611686018427387904:=by
 obtain⟨his,hlt,hG,hq62⟩:=pk2_gr (pkB a0)
 have pQ:=(grN_primes his).2
 have hQ9:=((grN_iff _ _ _ _).1 his).2.2.1
 unfold smQ
 exact⟨⟨⟨by omega,isP_odd pQ (by omega),pQ.1⟩,pQ⟩,hq62⟩
theorem sm_0:smQ 0=1966023127/\smP 0=1055500680322183127/\smG 0=leG:=by
 have h:pkB 0=false:=by decide
 unfold smQ smP smG
 rw[h]
 exact⟨le_q,le_p,rfl⟩
instance:NeZero 1966023127:=⟨by decide⟩
set_option linter.unusedSectionVars false
theorem sl_intsX:Tryz.prog.underlying 32=some (.slice (Tryz.prog.elem 32)):=by kernel_rfl
theorem lit_i1 (a:Int)(k:Nat)(hk:k=1):Instr.fill (fun i=>some (i*k,k)) ((Array.range (1*k)).map ((Value.int .i64 0).cells[· %(Value.int .i64 0).cells.size]!)) [(0,.int .i64 a)]=some #[.int .i64 a]:=by
 subst hk
 kernel_rfl
section
variable {Q:Nat}[NeZero Q]
def IlAt (w:World)(v:Value)(L:List (Fin Q)):Prop:= ∃ab c gb ob bcs tb,v= .slice ab L.length c/\L.length<=c/\NumsAt w ab L.length (fun i=>(pco L i).val) gb ob bcs tb
theorem IlAt.below {w w':World}{v:Value}{L:List (Fin Q)}(h:IlAt w v L)(hb:Below w.heap.size w w'):IlAt w' v L:=by
 obtain⟨ab,c,gb,ob,bcs,tb,h1,h2,h3⟩:=h
 exact⟨ab,c,gb,ob,bcs,tb,h1,h2,h3.below hb⟩
theorem ilAt_own {w:World}{base:Nat}{v:Value}{n:Nat}{u:Nat->Nat}{L:List (Fin Q)}(h:OwnI w base v n u)(hn:n=L.length)(hu: ∀i,i<n->u i=(pco L i).val):IlAt w v L:=by
 have h0:=h
 subst hn
 obtain⟨_,⟨rfl,e⟩|⟨g,cap,cur,rfl,_,_,hc,_⟩⟩:=h
 ·exact⟨none,0,0,0,#[],0,by rw[e],by omega,⟨.inl e⟩⟩
 ·obtain⟨_,gb,cur2,h2⟩:=ownI_nums h0
  exact⟨_,cap,gb,0,cur2,_,rfl,hc,h2.congr hu⟩
theorem vpco_lt (L:List (Fin Q))(i:Nat):(pco L i).val<Q:=(pco L i).isLt
end
def rEv (q:Nat)(u:Nat->Nat)(x:Nat):Nat->Nat×Nat
 |0=>(0,1)
 |k+1=>(((rEv q u x k).1+u k*(rEv q u x k).2%q)%q,(rEv q u x k).2*x%q)
theorem rall_any (ab:Option Addr)(n c q:Nat)(F:Nat->Nat)(gb ob:Nat)(bcs:Array Value)(tb:TypeId)(w:World)(hn:n<=2000)(h0:0<q)(hq:q<4611686018427387904)(hna:NatsAt w ab n F gb ob bcs tb):
  Calls Tryz.prog 7 #[.slice ab n c,.int .i64 (q:Nat)] w fun e w'=> ∃v',e= .returned v'/\OwnI w' w.heap.size v' n (fun i=>F i%q)/\Below w.heap.size w w':=by
 obtain⟨ie,hie,hz,hsz,_⟩:=info_int'
 have hs1: ¬1*ie.size>2^24:=by rw[hsz];decide
 have hs2: ¬1*ie.size=0:=by rw[hsz];decide
 have hl1:=fun a=>lit_i1 a ie.size hsz
 have HB:Hid (NatsAt w ab n F gb ob bcs tb):=hna
 have hby:=fun(k:Nat) w' (hk:k<n)=>rby_any (F k) q w' (hna.lt k hk) h0 hq
 clear hna hsz
 go_enter Tryz.func7,Tryz.ntmps7
 have sb:=sbmk w
 iterate 2 go_step
 refine rp ?_;refine p_v (.slice none 0 0) ((fun _=>rfl)) (pw_nil ?_);simp only[pv]
 iterate 3 go_step
 refine rp ?_;refine p_v (.slice none 0 0) ((fun _=>rfl)) (pw_nil ?_);simp only[pv]
 iterate 4 go_step
 refine rp ?_;refine p_v (.int .i64 0) (fun _=>rfl) (pw_nil ?_);simp only[pv]
 go_wp2_with fail
 go_loopg [5,6] n (fun g s5 s6 wr=> ∃i:Nat,i+g=n/\s6= .int .i64 i/\OwnI wr w.heap.size s5 i (fun i=>F i%q)/\Below w.heap.size w wr)
 case atStart=>exact⟨0,by omega,rfl,ownI_nil _ _ _,sb⟩
 case round=>
  clear sb
  obtain⟨i,hi,rfl,hL,sb⟩:=hrel
  cases gk with
  |zero=>
   obtain rfl:i=n:=by omega
   clear hi hby
   iterate 2 go_step
   refine rp ?_;refine p_m ?_;refine p_m ?_;simp only[pv];refine p_v (.int .i64 i) (n_l ab i c sl_natsX) ?_;refine p_v (.bool false) (lt_f i i) (pw_nil ?_);simp only[pv]
   iterate 7 go_step
   refine rp ?_;refine p_m ?_;refine p_a (pw_nil ?_);simp only[pv]
   go_wp2
   go_ret
   exact⟨_,rfl,hL,sb⟩
  |succ g=>
   have hlt:i<n:=by omega
   have hb1:=fun w'=>hby i w' hlt
   clear hby
   obtain h0|⟨rfl,rB,hbt⟩:=HB.out.at'
   ·exact absurd h0 (by omega)
   have hbt':=hbt i hlt
   clear hbt rB
   iterate 2 go_step
   refine rp ?_;refine p_m ?_;refine p_m ?_;simp only[pv];refine p_v (.int .i64 n) (n_l (some ⟨gb,ob,none⟩) n c sl_natsX) ?_;refine p_v (.bool true) (lt_t i n) (pw_nil ?_);simp only[pv]
   obtain h0|⟨_,rB,_⟩:=(HB.out.below sb).at'
   ·exact absurd h0 (by omega)
   iterate 8 go_step
   refine rp ?_;refine p_m ?_;refine p_m ?_;refine p_m ?_;simp only[pv];refine p_x i hlt Tryz.underlying23 size_nat4 ?_;simp only[pv];refine pw_loadm (by rfl) 43 _ rfl _ (ob+i*4) rfl rB (natC (F i)) hbt' _ Tryz.underlying43 rfl size_nat ?_;refine p_m ?_;simp only[pv];refine p_c 24 Tryz.func24 #[.agg (natC (F i)),.int .i64 (q:Nat)] (hb1 _) ?_;intro z5006 k;simp only[pv]
   replace hL:=hL.on k (own_ne0 _)
   replace sb:=kk sb k;clear k;refine pw_litr (by rfl) 32 3 1 _ rfl #[.int .i64 (F i%q:Nat)] ie _ Tryz.underlying32 hie hz hs1 hs2 [(0,.int .i64 (F i%q:Nat))] rfl (hl1 _) ?_;intro gX z5007 n0 rX k;simp only[pv];clear n0
   replace hL:=hL.on k (own_ne0 _)
   replace sb:=kk sb k;clear k;refine pw_appI (by rfl) _ _ rfl (w.heap.size) (_) (i) ((fun i=>F i%q)) rfl hL gX _ rfl rX (by omega) sb.size ?_
   have h0:=hL
   clear hL;intro v1 z5008 hL k hp;simp only[pv];clear hp
   replace sb:=sb.trans (k.below w.heap.size sb.size h0.base)
   clear h0;clear k;refine p_a (pw_nil ?_);simp only[pv]
   iterate 2 go_step
   refine rp ?_;refine p_m ?_;simp only[pv];refine p_v (.int .i64 ((i+1:Nat):Int)) (x_a i 1) ?_;refine p_a (pw_nil ?_);simp only[pv]
   go_wp2
   go_roundg g
   case measure=>omega
   case rel=>exact⟨i+1,by omega,rfl,hL,sb⟩
theorem rallL {Q:Nat}[NeZero Q](ab:Option Addr)(n c:Nat)(F:Nat->Nat)(gb ob:Nat)(bcs:Array Value)(tb:TypeId)(w:World)(hn:n<=2000)(q:FdQ Q)(hq:Q<4611686018427387904)(hna:NatsAt w ab n F gb ob bcs tb):
  Calls Tryz.prog 7 #[.slice ab n c,.int .i64 (Q:Nat)] w fun e w'=> ∃v',e= .returned v'/\IlAt w' v' (fl n F:List (Fin Q))/\Below w.heap.size w w':=by
 refine(rall_any ab n c Q F gb ob bcs tb w hn q.pos hq hna).mono ?_
 rintro e w' ⟨v',rfl,hL,hb⟩
 refine⟨v',rfl,ilAt_own hL (by rw[fl_length]) fun i hi=>?_,hb⟩
 rw[fl_co _ _ _ hi]
 rfl
theorem rnats_any (ab:Option Addr)(n c:Nat)(u:Nat->Nat)(gb ob:Nat)(bcs:Array Value)(tb:TypeId)(w:World)(hn:n<=4000)(hu: ∀i,u i<9223372036854775808)(hna:NumsAt w ab n u gb ob bcs tb):
  Calls Tryz.prog 11 #[.slice ab n c] w fun e w'=> ∃v',e= .returned v'/\OwnN w' w.heap.size v' n u/\Below w.heap.size w w':=by
 obtain⟨ie,hie,hz,hsz,_⟩:=info_nat'
 have hs1: ¬1*ie.size>2^24:=by rw[hsz];decide
 have hs2: ¬1*ie.size=0:=by rw[hsz];decide
 have hl1:=fun A=>lit_one A ie.size hsz
 have HB:Hid (NumsAt w ab n u gb ob bcs tb):=hna
 have hin: ∀k w',Calls Tryz.prog 29 #[.int .i64 (u k:Nat)] w' fun e w2=>e= .returned (.agg (natC (u k)))/\Below w'.heap.size w' w2:=fun k w'=>by
  have:=rint_any (u k:Int) w' (by have:=hu k;omega)
  rw[Int.toNat_natCast]at this
  exact this
 clear hna hsz
 go_enter Tryz.func11,Tryz.ntmps11
 have sb:=sbmk w
 iterate 2 go_step
 refine rp ?_;refine p_v (.slice none 0 0) ((fun _=>rfl)) (pw_nil ?_);simp only[pv]
 iterate 3 go_step
 refine rp ?_;refine p_v (.slice none 0 0) ((fun _=>rfl)) (pw_nil ?_);simp only[pv]
 iterate 4 go_step
 refine rp ?_;refine p_v (.int .i64 0) (fun _=>rfl) (pw_nil ?_);simp only[pv]
 go_wp2_with fail
 go_loopg [3,4] n (fun g s3 s4 wr=> ∃i:Nat,i+g=n/\s4= .int .i64 i/\OwnN wr w.heap.size s3 i u/\Below w.heap.size w wr)
 case atStart=>exact⟨0,by omega,rfl,ownN_nil _ _ _,sb⟩
 case round=>
  clear sb
  obtain⟨i,hi,rfl,hL,sb⟩:=hrel
  cases gk with
  |zero=>
   obtain rfl:i=n:=by omega
   clear hi hin
   iterate 2 go_step
   refine rp ?_;refine p_m ?_;refine p_m ?_;simp only[pv];refine p_v (.int .i64 i) (n_l ab i c sl_intsX) ?_;refine p_v (.bool false) (lt_f i i) (pw_nil ?_);simp only[pv]
   iterate 7 go_step
   refine rp ?_;refine p_m ?_;refine p_a (pw_nil ?_);simp only[pv]
   go_wp2
   go_ret
   exact⟨_,rfl,hL,sb⟩
  |succ g=>
   have hlt:i<n:=by omega
   obtain h0|⟨rfl,rB,hbt⟩:=HB.out.at'
   ·exact absurd h0 (by omega)
   have hbt':=hbt i hlt
   clear hbt rB
   iterate 2 go_step
   refine rp ?_;refine p_m ?_;refine p_m ?_;simp only[pv];refine p_v (.int .i64 n) (n_l (some ⟨gb,ob,none⟩) n c sl_intsX) ?_;refine p_v (.bool true) (lt_t i n) (pw_nil ?_);simp only[pv]
   obtain h0|⟨_,rB,_⟩:=(HB.out.below sb).at'
   ·exact absurd h0 (by omega)
   iterate 8 go_step
   refine rp ?_;refine p_m ?_;refine p_m ?_;refine p_m ?_;simp only[pv];refine p_x i hlt Tryz.underlying32 Tryz.sizeOf3 ?_;simp only[pv];refine p_d (ob+i*1) rB (.int .i64 (u i:Nat)) hbt' Tryz.isAgg3 ?_;simp only[pv];refine p_c 29 Tryz.func29 #[.int .i64 (u i:Nat)] (hin i _) ?_;intro z5005 k;simp only[pv]
   replace hL:=hL.on k (own_ne0 _)
   replace sb:=kk sb k;clear k;refine pw_litr (by rfl) 23 43 1 _ rfl (natC (u i)) ie _ Tryz.underlying23 hie hz hs1 hs2 [(0,.agg (natC (u i)))] rfl (hl1 _) ?_;intro gX z5006 n0 rX k;simp only[pv];clear n0
   replace hL:=hL.on k (own_ne0 _)
   replace sb:=kk sb k;clear k;refine pw_appN (by rfl) _ _ rfl (w.heap.size) (_) (i) (u) rfl hL gX _ rfl rX (by omega) sb.size ?_
   have h0:=hL
   clear hL;intro v1 z5007 hL k hp;simp only[pv];clear hp
   replace sb:=sb.trans (k.below w.heap.size sb.size h0.base)
   clear h0;clear k;refine p_a (pw_nil ?_);simp only[pv]
   iterate 2 go_step
   refine rp ?_;refine p_m ?_;simp only[pv];refine p_v (.int .i64 ((i+1:Nat):Int)) (x_a i 1) ?_;refine p_a (pw_nil ?_);simp only[pv]
   go_wp2
   go_roundg g
   case measure=>omega
   case rel=>exact⟨i+1,by omega,rfl,hL,sb⟩
theorem rnatsL {Q:Nat}[NeZero Q](v:Value)(L:List (Fin Q))(w:World)(hl:L.length<=4000)(hq:Q<4611686018427387904)(h:IlAt w v L):
  Calls Tryz.prog 11 #[v] w fun e w'=> ∃v',e= .returned v'/\PlAt w' v' L/\Below w.heap.size w w':=by
 obtain⟨ab,c,gb,ob,bcs,tb,rfl,hc,hna⟩:=h
 have hu:=fun i=>vpco_lt L i
 refine(rnats_any ab L.length c _ gb ob bcs tb w hl (fun i=>by have:=hu i;omega) hna).mono ?_
 rintro e w' ⟨v',rfl,hL,hb⟩
 obtain⟨ax,cx,rfl⟩:=own_shape hL
 obtain⟨_,gx,cur,h2⟩:=ownN_nats hL (fun i _=>by have:=hu i;omega)
 exact⟨_,rfl,⟨_,_,_,_,_,_,rfl,h2⟩,hb⟩
theorem rsameI (n ca ce:Nat)(ab ae:Option Addr)(u:Nat->Nat)(gb ob ge oe:Nat)(bcs ecs:Array Value)(tb te:TypeId)(w:World)(hn:n<9223372036854775808)(hna:NumsAt w ab n u gb ob bcs tb)(hnb:NumsAt w ae n u ge oe ecs te):
  Calls Tryz.prog 14 #[.slice ab n ca,.slice ae n ce] w fun e w'=>e= .returned (.bool true)/\Below w.heap.size w w':=by
 have HB:Hid (NumsAt w ab n u gb ob bcs tb):=hna
 have HE:Hid (NumsAt w ae n u ge oe ecs te):=hnb
 clear hna hnb
 go_enter Tryz.func14,Tryz.ntmps14
 have sb:=sbmk w
 iterate 2 go_step
 refine rp ?_;refine p_v (.bool false) (fun _=>rfl) (pw_nil ?_);simp only[pv]
 iterate 4 go_step
 refine rp ?_;refine p_m ?_;simp only[pv];refine p_v (.int .i64 n) (n_l ab n ca sl_intsX) ?_;refine p_m ?_;simp only[pv];refine p_v (.int .i64 n) (n_l ae n ce sl_intsX) ?_;simp only[pv];refine p_v (.bool false) (exec_neq_k .i64 _ _ _ _ rfl n n rfl rfl false (by rw[decide_eq_true rfl];rfl)) (pw_nil ?_);simp only[pv]
 iterate 8 go_step
 refine rp ?_;refine p_v (.int .i64 0) (fun _=>rfl) (pw_nil ?_);simp only[pv]
 go_wp2_with fail
 go_loopg [5] n (fun g s5 wr=> ∃i:Nat,i+g=n/\s5= .int .i64 i/\Below w.heap.size w wr)
 case atStart=>exact⟨0,by omega,rfl,sb⟩
 case round=>
  clear sb
  obtain⟨i,hi,rfl,sb⟩:=hrel
  cases gk with
  |zero=>
   obtain rfl:i=n:=by omega
   clear hi
   iterate 2 go_step
   refine rp ?_;refine p_m ?_;refine p_m ?_;simp only[pv];refine p_v (.int .i64 i) (n_l ab i ca sl_intsX) ?_;refine p_v (.bool false) (lt_f i i) (pw_nil ?_);simp only[pv]
   iterate 7 go_step
   refine rp ?_;refine p_v (.bool true) (fun _=>rfl) (pw_nil ?_);simp only[pv]
   go_wp2
   go_ret
   exact⟨rfl,sb⟩
  |succ g=>
   have hlt:i<n:=by omega
   iterate 2 go_step
   refine rp ?_;refine p_m ?_;refine p_m ?_;simp only[pv];refine p_v (.int .i64 n) (n_l ab n ca sl_intsX) ?_;refine p_v (.bool true) (lt_t i n) (pw_nil ?_);simp only[pv]
   obtain h0|⟨rfl,rB,hbt⟩:=(HB.out.below sb).at'
   ·exact absurd h0 (by omega)
   obtain h0|⟨rfl,rE,het⟩:=(HE.out.below sb).at'
   ·exact absurd h0 (by omega)
   have hbt':=hbt i hlt
   have het':=het i hlt
   clear hbt het
   iterate 9 go_step
   refine wp_region_qw (by kernel_rfl) (by kernel_rfl) ?_;refine q_m ?_;refine q_m ?_;simp only[pv];refine q_x i hlt Tryz.underlying32 Tryz.sizeOf3 ?_;simp only[pv];refine qw_loadcR (by rfl) 3 _ rfl _ (ob+i*1) rfl rB (.int .i64 (u i:Nat)) hbt' Tryz.isAgg3 ?_;refine q_m ?_;refine q_m ?_;simp only[pv];refine q_x i hlt Tryz.underlying32 Tryz.sizeOf3 ?_;simp only[pv];refine qw_loadcR (by rfl) 3 _ rfl _ (oe+i*1) rfl rE (.int .i64 (u i:Nat)) het' Tryz.isAgg3 ?_;simp only[pv];refine q_v (.bool false) ((exec_neq_k .i64 _ _ _ _ rfl (u i:Nat) (u i:Nat) rfl rfl false (by rw[decide_eq_true rfl];rfl))) ?_;simp only[pv];refine qw_nil ?_;intro w6 hqb;replace sb:=b_o sb hqb;clear hqb;clear rB rE hbt' het'
   iterate 6 go_step
   refine rp ?_;refine p_m ?_;simp only[pv];refine p_v (.int .i64 ((i+1:Nat):Int)) (x_a i 1) ?_;refine p_a (pw_nil ?_);simp only[pv]
   go_wp2
   go_roundg g
   case measure=>omega
   case rel=>exact⟨i+1,by omega,rfl,sb⟩
def rOut (q m:Nat)(A B:Nat->Nat):Nat->Nat->Nat
 |0,_=>0
 |i+1,j=>if i<=j/\j<i+m then(rOut q m A B i j+A i*B (j-i)%q)%q else rOut q m A B i j
def rIn (q m:Nat)(A B:Nat->Nat)(i k j:Nat):Nat:=if i<=j/\j<i+k then(rOut q m A B i j+A i*B (j-i)%q)%q else rOut q m A B i j
section
variable {Q:Nat}[NeZero Q]
end
end Go.Proofs.YtighhihgmkcabaaGreat
