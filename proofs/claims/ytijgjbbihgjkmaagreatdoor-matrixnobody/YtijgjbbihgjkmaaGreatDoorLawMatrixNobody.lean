/- MatrixNobody: for every matrix: of up to 5 rows of few numbers, without a group nothing is told, and nothing fails; no condition. -/
import Derived.Test.YtijgjbbihgjkmaaGreatDoorMB
namespace Go.Proofs.YtijgjbbihgjkmaaGreatDoor
open Go.ChangeShapes Go.WideShapes Go.ChangeAt Go.RowKit
set_option linter.unusedVariables false
set_option linter.unusedSimpArgs false
namespace matrixNobodyP
theorem sl_grp:Tryz.prog.underlying 76=some (.slice (Tryz.prog.elem 76)):=by kernel_rfl
theorem info_pgx:(Tryz.prog.info? 35).map (fun i=>(i.zero,i.size))=some (some (.pointer none),1):=by kernel_rfl
theorem info_pg: ∃i,Tryz.prog.info? 35=some i/\i.zero=some (.pointer none)/\i.size=1:=by
 cases hi:Tryz.prog.info? 35 with
 |none=>have:=info_pgx;rw[hi]at this;cases this
 |some i=>
  have h:=info_pgx
  rw[hi]at h
  simp only[Option.map_some,Option.some.injEq,Prod.mk.injEq]at h
  exact⟨i,rfl,h.1,h.2⟩
theorem lit_pg (v:Option Addr)(k:Nat)(hk:k=1):Instr.fill (fun i=>some (i*k,k)) ((Array.range (2*k)).map ((Value.pointer none).cells[· %(Value.pointer none).cells.size]!)) [(0,.pointer none),(1,.pointer v)]=some #[.pointer none,.pointer v]:=by
 subst hk
 kernel_rfl
/-- The one of the two. -/
def vOf (g:Nat)(i:Nat):Option Addr:=if i=0 then none else some ⟨g,0,none⟩
theorem v_at (g i:Nat)(hi:i<2):(#[.pointer none,.pointer (some ⟨g,0,none⟩)]:Array Value)[0+i*1]?=some (.pointer (vOf g i)):=by
 match i,hi with
 |0,_=>rfl
 |1,_=>rfl
theorem v_no {w:World}{g:Nat}(i:Nat)(h:Row w g (gpC 0 0 0 none none) 75):NoG w (vOf g i):=by
 unfold vOf
 split
 ·exact .inl ⟨rfl,rfl,rfl,rfl,rfl,rfl⟩
 ·exact .inr ⟨g,rfl,h⟩
section
variable {P:Program}{olds:Olds}{p:Nat->Nat}{W:World}{F:Act->Ct->Prop}{n:Nat}{l:List Oper}{pl:List Sp}{a:Act}{ct:Ct}{o:Oper}
/-- A call that reads rows which the region has made. -/
theorem mx_callT {fn:Func}(f:FuncId)(args:Array Operand)(ts:Array TypeId)
  (ho:o.op= .call {callee:=.value (.func f),args:=args,argTypes:=ts})(hf:P.funcs[f]?=some fn)(hb:(fn.name== "runtime.NumGoroutine" ||fn.body.isNone)=false)
  (vs:Array Value)(hv':args.toList.map a.eval=vs.toList)(v:Value)(ks:List Nat)
  (hc: ∀w,Kept (olds.map (·.1)) W w->(∀k∈ks,∀y,ct k=some y->Row w (addrOf olds p k) y.2 y.1)->Calls P f vs w (Rt v w))
  (h:MX P olds p W F (n+1) l pl (a.put o.dst v) ct):MX P olds p W F n (o::l) ((fun _=>v,ks,none,[])::pl) a ct:=by
 refine mx_enter f vs v ks (fun w=>?_) hc h
 have hv:args.map a.eval=vs:=by apply Array.toList_inj.1;rw[Array.toList_map];exact hv'
 have hr:=run_callFunc_body (P:=P) hf hb vs w
 unfold execOp
 simp only[ho,resolve,hv,Act.eval]
 simp[Deferred.ofValue,invoke,hr]
end
theorem built_pti (i:Int):Tryz.prog.built 69 [(0,.int .i64 i)]=some (ptC i (.slice none 0 0)):=by kernel_rfl
theorem ain_nog {v:Option Addr}{A gU:Nat}{w:World}(h:NoG w v)(hA:A<2^256)(rU:Row w gU (natC A) 62):Calls Tryz.prog 51 #[.pointer v,.slice (some ⟨gU,0,none⟩) 1 1] w fun e w'=>e= .returned (.bool false)/\Below w.heap.size w w':=
 ain_any v (some ⟨gU,0,none⟩) 1 1 _ gU 0 _ _ (fun _=>false) w (by decide) (nats_one rU hA) (fun k hk w2 hb2=>fIn_no v A w2 (h.below hb2))
theorem cmay_nog {v ab:Option Addr}{n c:Nat}{F:Nat->Nat}{gb ob:Nat}{bcs:Array Value}{tb:TypeId}{w:World}(h1:NoG w v)(h2:NatsAt w ab n F gb ob bcs tb):Calls Tryz.prog 84 #[.pointer v,.slice ab n c] w fun e w'=>e= .returned (.bool false)/\Below w.heap.size w w':=by
 by_cases h:n<1∨7<n
 ·exact may_no v ab n c w h
 ·have:=may_core v ab n c F (fun _=>false) gb ob bcs tb w (by omega) (by omega) h2 (fun k hk w2 hb=>qIn_no v (F k) w2 (h1.below hb))
  rw[show(!anB (fun _=> !false) n)=false by rw[(anB_iff _ n).2 ⟨0,by omega,rfl⟩];rfl]at this
  exact this
theorem may_nog {v ab:Option Addr}{n c:Nat}{S:Nat->Value}{gb ob:Nat}{bcs:Array Value}{tb:TypeId}{N:Nat->Nat}{M:Nat->Nat->Nat}{w:World}(h1:NoG w v)(hna:VsAt w ab n S gb ob bcs tb)(hS: ∀i,i<n->NrAt w (S i) (N i) (M i)):Calls Tryz.prog 33 #[.pointer v,.int .i64 1,.slice ab n c] w fun e w'=>e= .returned (.bool false)/\Below w.heap.size w w':=by
 cases hc:ccB n ((1+1:Nat):Int)
 ·exact mmay_cc v ab n c 1 w (by decide) (by decide) hc
 ·have hn:1<=n:=by
   simp only[ccB,Bool.and_eq_true,decide_eq_true_eq]at hc
   omega
  have:=mmay_any v ab n c 1 S gb ob bcs tb N (fun _=>false) w (by decide) (by decide) hc hna (fun k hk=>by
   obtain⟨ai,ci,gi,oi,ics,ti,e,hn⟩:=hS k hk
   exact⟨ai,ci,e,fun w' hb=>cmay_nog (h1.below hb) (hn.below hb)⟩)
  rw[show(!anB (fun k=> !(decide ((N k:Int)=((1+1:Nat):Int))&&false)) n)=false by rw[(anB_iff _ n).2 ⟨0,by omega,by simp⟩];rfl]at this
  exact this
set_option maxRecDepth 100000 in
set_option maxHeartbeats 2000000 in
theorem core1 (ab:Option Addr)(n c:Nat)(S:Nat->Value)(N:Nat->Nat)(M:Nat->Nat->Nat)(gb ob:Nat)(bcs:Array Value)(tb:TypeId)(w:World)(kT:KT w)(hna:VsAt w ab n S gb ob bcs tb)(hS: ∀i,i<n->NrAt w (S i) (N i) (M i))
  (hfw: ∀w',Below w.heap.size w w'->Calls Tryz.prog 8 #[.slice ab n c,.int .i64 5] w' fun e w2=> ∃B:Bool,e= .returned (.bool B)/\(B=true->n<=5/\ ∀i,i<n->N i<=8)/\Below w'.heap.size w' w2):
  Calls Tryz.prog 7 #[.slice ab n c] w fun e w'=>e= .returned (.bool true)/\Below w.heap.size w w':=by
 have haw:=fun w' (hb:Below w.heap.size w w')=>awake16_any w' (kT.below hb)
 obtain⟨ien,hien,hzn,hszn,_⟩:=info_nat'
 have h11: ¬1*ien.size>2^24:=by rw[hszn];decide
 have h12: ¬1*ien.size=0:=by rw[hszn];decide
 have hl1:=lit_one 1 ien.size hszn
 obtain⟨ip,hip,hzp,hsz0⟩:=info_pg
 have hp1: ¬2*ip.size>2^24:=by rw[hsz0];decide
 have hp2: ¬2*ip.size=0:=by rw[hsz0];decide
 have hl:=fun v=>lit_pg v ip.size hsz0
 have o1:=fun w'=>of16_any 1 w' (by decide)
 have hde: ∀{v:Option Addr} w' gU gV,NoG w' v->Row w' gU (natC 1) 62->Calls Tryz.prog 18 #[.pointer v,.int .i64 1,.slice (some ⟨gU,0,none⟩) 1 1,.slice (some ⟨gV,0,none⟩) 1 1] w' fun e w2=>e= .returned (.tuple #[.slice none 0 0,.slice none 0 0,.int .i64 1])/\Below w'.heap.size w' w2:=fun {v} w' gU gV h1 rU=>deal_i v (some ⟨gU,0,none⟩) (some ⟨gV,0,none⟩) 1 1 1 1 false 1 w' (by decide) (by decide) (by decide) rfl (fun w2 hb=>ain_nog (h1.below hb) (by decide) (rU.belowAll hb)) nofun
 have hma: ∀{v:Option Addr} w',Below w.heap.size w w'->NoG w' v->Calls Tryz.prog 33 #[.pointer v,.int .i64 1,.slice ab n c] w' fun e w2=>e= .returned (.bool false)/\Below w'.heap.size w' w2:=fun {v} w' hb h1=>may_nog h1 (hna.below hb) (fun i hi=>(hS i hi).below hb)
 have hre: ∀{v:Option Addr} w',Below w.heap.size w w'->NoG w' v->Calls Tryz.prog 22 #[.pointer v,.int .i64 1,.slice ab n c,.slice none 0 0] w' fun e w2=>e= .returned (.tuple #[.slice none 0 0,.int .i64 1])/\Below w'.heap.size w' w2:=fun {v} w' hb h1=>rec_arg16 v ab none n c 0 0 1 w' (fun w2 hb2=>hma w2 (below_on hb (Nat.le_refl _) hb2) (h1.below hb2))
 have hho: ∀{v:Option Addr} w',NoG w' v->Calls Tryz.prog 30 #[.pointer v,.slice ab n c,.agg (ptC 1 (.slice none 0 0))] w' fun e w2=>e= .returned (.bool false)/\Below w'.heap.size w' w2:=fun {v} w' h1=>hol_nog v ab n c 1 none 0 0 w' h1
 clear hsz0 hszn kT hna hS
 go_enter Tryz.func7,Tryz.ntmps7
 have sb:=sbmk w
 repeat((fail_if_success with_reducible apply rg);go_step)
 refine rp ?_;refine p_v (.bool false) (fun _=>rfl) (pw_nil ?_);simp only[pv]
 repeat((fail_if_success with_reducible apply rg);go_step)
 refine rp ?_;refine p_m ?_;simp only[pv];refine p_f 8 Tryz.func8 #[.slice ab n c,.int .i64 5] (hfw _ sb) ?_
 rintro _ z1001 ⟨B,rfl,hB,hb⟩
 refine⟨_,rfl,?_⟩
 simp only[pv]
 have k:=Kept.ofBelow hb
 clear hb;replace sb:=kk sb k;clear k;refine p_v (.bool (!B)) (exec_not _ _ rfl B rfl) (pw_nil ?_);simp only[pv];clear hfw hB
 cases B
 ·clear hde hma hre hho
  repeat((fail_if_success with_reducible apply rg);go_step)
  refine rp ?_;refine p_c 9 Tryz.func9 #[] (haw _ sb) ?_;intro z2000 k;simp only[pv];replace sb:=kk sb k;clear k;refine p_a (pw_nil ?_);simp only[pv]
  go_wp2
  go_ret
  exact⟨rfl,sb⟩
 repeat((fail_if_success with_reducible apply rg);go_step)
 refine rp ?_;refine p_v (.agg (gpC 0 0 0 none none)) (exec_build0 _ rfl _ built_gp0) ?_;simp only[pv];refine pw_boxr (by rfl) 75 _ rfl (_) rfl ?_;intro g15 z3001 n0 r15 k;simp only[pv]
 have b15:=Nat.le_trans sb.size n0
 clear n0;replace sb:=kk sb k;clear k;refine pw_litr (by rfl) 76 35 2 _ rfl #[.pointer none,.pointer (some ⟨g15,0,none⟩)] ip _ Tryz.underlying76 hip hzp hp1 hp2 [(0,.pointer none),(1,.pointer (some ⟨g15,0,none⟩))] rfl (hl _) ?_;intro gT z3002 n0 rT k;simp only[pv]
 have d15xT:=l_l r15.lt n0
 have bT:=Nat.le_trans sb.size n0
 clear n0;replace r15:=k.ro r15;replace sb:=kk sb k;clear k;refine p_a (pw_nil ?_);simp only[pv];clear hl hp1 hp2 hzp hip
 repeat((fail_if_success with_reducible apply rg);go_step)
 refine rp ?_;refine p_v (.int .i64 0) (fun _=>rfl) (pw_nil ?_);simp only[pv]
 go_wp2_with fail
 go_loopg [4,5,6,7,8,9] 2 (fun y s4 s5 s6 s7 s8 s9 wr=> ∃i:Nat,i+y=2/\s4= .int .i64 i/\Row wr g15 (gpC 0 0 0 none none) 75/\Row wr gT #[.pointer none,.pointer (some ⟨g15,0,none⟩)] 35/\Below w.heap.size w wr)
 case atStart=>exact⟨0,by omega,rfl,r15,rT,sb⟩
 case round=>
  clear r15 rT sb
  obtain⟨i,hi,rfl,r15,rT,sb⟩:=hrel
  cases gk with
  |zero=>
   obtain rfl:i=2:=by omega
   clear hi hde hma hre hho
   repeat((fail_if_success with_reducible apply rg);go_step)
   refine rp ?_;refine p_m ?_;refine p_m ?_;simp only[pv];refine p_v (.int .i64 2) (n_l (some ⟨gT,0,none⟩) 2 2 sl_grp) ?_;simp only[pv];refine p_v (.bool false) (exec_lt_b _ _ _ _ rfl ((2:Nat):Int) 2 rfl rfl false rfl) (pw_nil ?_);simp only[pv]
   repeat((fail_if_success with_reducible apply rg);go_step)
   refine rp ?_;refine p_c 9 Tryz.func9 #[] (haw _ sb) ?_;intro z11000 k;simp only[pv];replace sb:=kk sb k;clear k;refine p_a (pw_nil ?_);simp only[pv]
   go_wp2
   go_ret
   exact⟨rfl,sb⟩
  |succ y=>
   have hlt:i<2:=by omega
   have hv:(#[.pointer none,.pointer (some ⟨g15,0,none⟩)]:Array Value)[0+i*1]?=some (.pointer (vOf g15 i)):=v_at g15 i hlt
   clear haw
   repeat((fail_if_success with_reducible apply rg);go_step)
   refine rp ?_;refine p_m ?_;refine p_m ?_;simp only[pv];refine p_v (.int .i64 2) (n_l (some ⟨gT,0,none⟩) 2 2 sl_grp) ?_;simp only[pv];refine p_v (.bool true) (lt_t (i:Nat) 2) (pw_nil ?_);simp only[pv]
   repeat((fail_if_success with_reducible apply rg);go_step)
   apply wp_region_mix (by kernel_rfl) [] [_,_,_,_,_,_,_,_,_,_,_,_,_,_,_,_] trivial (by simp<;>omega)
   ·intro p;refine m_m ?_;refine m_m ?_;simp only[pv];refine mx_val (.pointer (some ⟨gT,0+i*1,none⟩)) (exec_index_s 76 _ _ rfl gT 0 2 2 rfl i rfl (by omega) _ Tryz.underlying76 1 Tryz.sizeOf35) ?_;simp only[pv];refine mx_loadc 35 _ rfl _ (0+i*1) rfl rT (by simp<;>omega) (.pointer (vOf g15 i)) hv Tryz.isAgg35 ?_;simp only[pv];refine m_c 32 Tryz.func32 #[.int .i64 1] o1 ?_;simp only[pv];refine mx_litv 33 62 1 _ rfl (natC 1) ien _ Tryz.underlying33 hien hzn h11 h12 [(0,.agg (natC 1))] rfl hl1 ?_;simp only[pv];refine m_c 32 Tryz.func32 #[.int .i64 1] o1 ?_;simp only[pv];refine mx_litv 33 62 1 _ rfl (natC 1) ien _ Tryz.underlying33 hien hzn h11 h12 [(0,.agg (natC 1))] rfl hl1 ?_;simp only[pv]
    refine mx_callT 18 _ _ rfl Tryz.func18 (by kernel_rfl) #[.pointer (vOf g15 i),.int .i64 1,.slice (some ⟨p 5,0,none⟩) 1 1,.slice (some ⟨p 7,0,none⟩) 1 1] rfl (.tuple #[.slice none 0 0,.slice none 0 0,.int .i64 1]) [11] (fun w' hk hr=>hde w' (p 5) (p 7) (v_no i (hk.row r15 (by simp))) (hr 11 (by simp) (62,natC 1) rfl)) ?_
    refine m_m ?_;refine m_e ?_;refine m_e ?_;refine m_e ?_;simp only[pv];refine m_a ?_;refine m_a ?_;refine m_a ?_;simp only[pv];refine mx_end ?_;intro w7 hkw hrw hnew hdis
    have n29:=hnew 5 rfl
    have n31:=hnew 7 rfl
    have zr29:Row w7 (p 5) (natC 1) 62:=hrw 11 (62,natC 1) rfl
    have zr31:Row w7 (p 7) (natC 1) 62:=hrw 15 (62,natC 1) rfl
    have d15x29:=l_l r15.lt n29
    have d15x31:=l_l r15.lt n31
    have dTx29:=l_l rT.lt n29
    have dTx31:=l_l rT.lt n31
    have d29x31:=hdis 5 7 (by omega) rfl rfl
    replace r15:=hkw.ro r15;replace rT:=hkw.ro rT
    have b29:=Nat.le_trans sb.size n29
    have b31:=Nat.le_trans sb.size n31
    replace sb:=kk sb hkw;clear hkw hrw hnew hdis n29 n31
    generalize p 5=g29 at*
    generalize p 7=g31 at*
    have r29:=zr29
    clear zr29
    have r31:=zr31
    clear zr31;clear r29 r31 hde
    repeat((fail_if_success with_reducible apply rg);go_step)
    refine rp ?_;refine p_m ?_;refine p_m ?_;simp only[pv];refine p_v (.pointer (some ⟨gT,0+i*1,none⟩)) (exec_index_s 76 _ _ rfl gT 0 2 2 rfl i rfl (by omega) _ Tryz.underlying76 1 Tryz.sizeOf35) ?_;simp only[pv];refine p_d (0+i*1) rT.r (.pointer (vOf g15 i)) hv Tryz.isAgg35 ?_;refine p_m ?_;simp only[pv];refine p_c 22 Tryz.func22 #[.pointer (vOf g15 i),.int .i64 1,.slice ab n c,.slice none 0 0] (hre _ sb (v_no i r15)) ?_;intro z8005 k;simp only[pv];replace r15:=k.ro r15;replace rT:=k.ro rT;replace sb:=kk sb k;clear k;refine p_m ?_;refine p_e ?_;refine p_e ?_;refine p_a ?_;refine p_a (pw_nil ?_);simp only[pv]
    repeat((fail_if_success with_reducible apply rg);go_step)
    refine rp ?_;refine p_m ?_;simp only[pv];refine p_v (.int .i64 0) (n_l none 0 0 sl_mx) ?_;simp only[pv];refine p_v (.bool false) (exec_gt_i _ _ _ _ rfl 0 0 rfl rfl false (decide_eq_false (by decide))) ?_;refine p_m ?_;refine p_m ?_;simp only[pv];refine p_v (.int .i64 0) (n_l none 0 0 sl_pts) ?_;simp only[pv];refine p_v (.bool false) (exec_gt_i _ _ _ _ rfl 0 0 rfl rfl false (decide_eq_false (by decide))) ?_;refine p_k false (.bool false) ?_;refine p_m ?_;refine p_m ?_;simp only[pv];refine p_v (.bool false) (exec_neq_k .i64 _ _ _ _ rfl 1 1 rfl rfl false rfl) ?_;refine p_k false (.bool false) ?_;refine p_m ?_;refine p_m ?_;simp only[pv];refine p_v (.int .i64 0) (n_l none 0 0 sl_ll) ?_;simp only[pv];refine p_v (.bool false) (exec_gt_i _ _ _ _ rfl 0 0 rfl rfl false (decide_eq_false (by decide))) ?_;refine p_k false (.bool false) ?_;refine p_m ?_;refine p_m ?_;simp only[pv];refine p_v (.bool false) (exec_neq_k .i64 _ _ _ _ rfl 1 1 rfl rfl false rfl) ?_;refine p_k false (.bool false) ?_;refine p_m ?_;refine p_m ?_;refine p_m ?_;simp only[pv];refine p_v (.pointer (some ⟨gT,0+i*1,none⟩)) (exec_index_s 76 _ _ rfl gT 0 2 2 rfl i rfl (by omega) _ Tryz.underlying76 1 Tryz.sizeOf35) ?_;simp only[pv];refine p_d (0+i*1) rT.r (.pointer (vOf g15 i)) hv Tryz.isAgg35 ?_;refine p_m ?_;simp only[pv];refine p_c 33 Tryz.func33 #[.pointer (vOf g15 i),.int .i64 1,.slice ab n c] (hma _ sb (v_no i r15)) ?_;intro z9027 k;simp only[pv];replace r15:=k.ro r15;replace rT:=k.ro rT;replace sb:=kk sb k;clear k;refine p_k false (.bool false) ?_;refine p_m ?_;refine p_m ?_;refine p_m ?_;simp only[pv];refine p_v (.pointer (some ⟨gT,0+i*1,none⟩)) (exec_index_s 76 _ _ rfl gT 0 2 2 rfl i rfl (by omega) _ Tryz.underlying76 1 Tryz.sizeOf35) ?_;simp only[pv];refine p_d (0+i*1) rT.r (.pointer (vOf g15 i)) hv Tryz.isAgg35 ?_;refine p_m ?_;simp only[pv];refine p_v (.agg (ptC 1 (.slice none 0 0))) (exec_buildv _ [(0,.const (.int .i64 1))] rfl [(0,.int .i64 1)] rfl (ptC 1 (.slice none 0 0)) (built_pti _)) ?_;simp only[pv];refine p_c 30 Tryz.func30 #[.pointer (vOf g15 i),.slice ab n c,.agg (ptC 1 (.slice none 0 0))] (hho _ (v_no i r15)) ?_;intro z9036 k;simp only[pv];replace r15:=k.ro r15;replace rT:=k.ro rT;replace sb:=kk sb k;clear k;refine p_k false (.bool false) (pw_nil ?_);simp only[pv]
    repeat((fail_if_success with_reducible apply rg);go_step)
    refine rp ?_;refine p_m ?_;simp only[pv];refine p_v (.int .i64 ((i+1:Nat):Int)) (x_a i 1) ?_;refine p_a (pw_nil ?_);simp only[pv]
    go_wp2
    go_roundg y
    case measure=>omega
    case rel=>exact⟨i+1,by omega,rfl,r15,rT,sb⟩
   ·kernel_rfl
theorem walk (ab:Option Addr)(n c:Nat)(S:Nat->Value)(N:Nat->Nat)(M:Nat->Nat->Nat)(gb ob:Nat)(bcs:Array Value)(tb:TypeId)(w:World)(hna:VsAt w ab n S gb ob bcs tb)(hS: ∀i,i<n->NrAt w (S i) (N i) (M i)/\N i<=maxLen)(kT:KT w):
  Calls Tryz.prog 7 #[.slice ab n c] w fun e w'=>e= .returned (.bool true)/\Below w.heap.size w w':=by
 refine core1 ab n c S N M gb ob bcs tb w kT hna (fun i hi=>(hS i hi).1) fun w' hb=>rfew_any 5 ab n c S gb ob bcs tb N w' (by decide) (hna.below hb) fun i hi=>?_
 obtain⟨⟨ai,ci,_,_,_,_,e,_⟩,_⟩:=hS i hi
 exact⟨ai,ci,e⟩
set_option maxRecDepth 100000 in
theorem lifted (os:Os)(started:os.Started)(H:Type)(enc:TypeId×Value->H):
  ReturnsInHanded {} Tryz.checked os 7 .any (fun w args=>(Rows.matrixNobodySpec.pre enc Tryz.prog Tryz.f7 [] false w args/\laidMetH Tryz.prog lk w)/\sizedMet enc Tryz.prog Tryz.f7 (OpenSpec.ofChange Rows.matrixNobodySpec) false w args)
   (Rows.matrixNobodySpec.post enc Tryz.prog Tryz.f7 false true false false):=by
 refine returnsInHanded_of_change_and (C:=Tryz.checked) (X:=fun w _=>laidMetH Tryz.prog lk w) (fun _ _ _ hh h=>h.of_heap hh) own started (by kernel_rfl) Tryz.func7
  (ChangeSpec.witness_shaped (enc:=enc) (C:=Tryz.checked) (os:=os) (X:=fun w _=>laidMetH Tryz.prog lk w) false (World.doorLaid Tryz.prog 14 os) #[.slice none 0 0] 8 rfl (World.shaped_of_RefB (by kernel_rfl) (by kernel_rfl)) (by kernel_rfl) (by kernel_rfl) (by kernel_rfl) (door_met os _)) ?_
 intro W base args ds gs before hval0 hW _ _ hL _
 have hval: ∀(j:Nat) t v,Tryz.f7.params[j]?=some t->args[j]?=some v->Value.okWide Tryz.prog W .any base t v:=hval0
 have hW':=hW
 obtain⟨p,q,hA0,hV,rfl,hfz,hnd⟩:=hW
 have hA:DataW.TrodAll enc Tryz.prog W 0 (fun _=>true) true Tryz.f7.params.toList args.toList ds p:=hA0
 rw[Tryz.params7]at hA hval
 obtain⟨v0,vs0,d0,ds0,p0,q0,hargs,rfl,rfl,h0,r0⟩:=trodAll_cons hA
 obtain⟨rfl,rfl,rfl⟩:=trodAll_nil r0
 obtain rfl:args=#[v0]:=by cases args;simp_all
 obtain⟨rfl,rfl⟩:=trodVars_none hV
 have k0:=h0
 have lt0:=lt_of_trod h0
 obtain⟨ab0,m0,c0,S0,N0,A0,gb0,ob0,bcs0,tb0,rfl,hvs0,hrs0⟩:=open_mx (hval 0 23 v0 rfl rfl) h0
 clear hA0 hval0
 refine(walk ab0 m0 c0 S0 N0 A0 gb0 ob0 bcs0 tb0 W hvs0 hrs0 (kt_of_laid hL)).mono fun e W' ⟨he,bel⟩=>?_
 subst he
 exact⟨_,rfl,_,_,_,[],_,[],hW',trodAll_mk1 (shut_bool Tryz.underlying4 _),(trodAll_cons_mk (Below.trod laidOut (by kernel_rfl) (of_decide_eq_true (by kernel_rfl)) k0 bel lt0) trodAll_mk0),rfl,bel.frame _,fun h=>by cases h⟩
theorem over:Rows.matrixNobodyRow.holds Tryz.pinned (OpenSpec.ofChange Rows.matrixNobodySpec):=
 OpenClaim.holds_of_wide 7 Tryz.f7 rfl rfl rfl rfl rfl rfl rfl ⟨rfl,rfl,rfl,rfl,rfl⟩ rfl rfl rfl rfl rfl (by kernel_rfl) Tryz.func7 (by kernel_rfl)
  (of_decide_eq_true (by kernel_rfl)) (by unfold Func.isWrapper;first|(rw[if_pos (by decide+kernel)];kernel_rfl)|(rw[if_neg (by decide+kernel)];exact⟨rfl,rfl⟩))
  (fun os started H enc _=>lifted os started H enc)
theorem card:Claim7.holds Tryz.pinned (.plain (OpenSpec.ofChange Rows.matrixNobodySpec)) Rows.matrixNobodyCard:=
 Claim7.holds_tied_plain_at .later [] [.data] true (true, "3134ec18fe1976ef51216545569fad35d52a17a6f837258b16d74a7665cfb5a1") false
  over (fun _ h=>by cases h) (by kernel_rfl) (fun _ h=>by cases h) matrixNobody_row_tie rfl ⟨rfl,rfl⟩ (by kernel_rfl) rfl
  (fun f fn hf hfn=>by
   obtain rfl:f=7:=Option.some.inj ((show Tryz.prog.funcNamed "sacristy/sacristylaw16.MatrixNobody" =some 7 by kernel_rfl).symm.trans hf) |>.symm
   obtain rfl:fn=Tryz.f7:=(Option.some.inj (Tryz.func7.symm.trans hfn)).symm
   exact⟨by kernel_rfl,fun j t ht=>by
    rw[Tryz.params7]at ht
    have hm:t∈[23]:=by simpa using Array.mem_of_getElem? ht
    have hall:([23].all fun u=> !Tryz.prog.wantsStandIn u)=true:=by kernel_rfl
    exact(show Tryz.prog.wantsStandIn t=false by simpa using List.all_eq_true.1 hall t hm)⟩)
  (by kernel_rfl)
end matrixNobodyP
/-- for every matrix: of up to 5 rows of few numbers, without a group nothing is told, and nothing fails; no condition. -/
theorem matrixNobody_holds:Rows.MatrixNobodyCardSaid:=matrixNobodyP.card
end Go.Proofs.YtijgjbbihgjkmaaGreatDoor
