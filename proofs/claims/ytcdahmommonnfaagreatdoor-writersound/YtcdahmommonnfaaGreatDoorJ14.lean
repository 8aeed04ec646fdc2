import Derived.Test.YtcdahmommonnfaaGreatDoorCA
set_option maxRecDepth 100000
set_option maxHeartbeats 8000000
namespace Go.Proofs.YtcdahmommonnfaaGreatDoor
set_option linter.all false
open Go.RowKit
open Go.Proofs.Tryz
theorem L2 (g:Option Addr)(T:Nat)(cl op:Int)(key s:List UInt8)(b:Bool)(w:World)(h:upB (T:Nat) 2=false):
  Calls prog 12 #[.pointer g,.int .i64 (T:Nat),.int .i64 cl,.int .i64 op,.string ⟨key.toArray⟩,.string ⟨s.toArray⟩,.bool b] w fun e w'=>e= .returned (.tuple #[.pointer none,.int .i64 1])/\Below w.heap.size w w':=by
 have hu1:=fun w'=>XS (T:Nat) 2 w'
 rw[h]at hu1
 go_enter func12,ntmps12
 have sb:=Z9 w;iterate 2 go_step
 refine rp ?_;refine p_v (.pointer none) (fun _=>rfl) ?_;refine p_v (.int .i64 0) (fun _=>rfl) (Za ?_);simp only[pv];iterate 4 go_step
 refine rp ?_;refine p_m ?_;simp only[pv];refine p_c 44 func44 #[.int .i64 (T:Nat),.int .i64 2] (hu1 _) ?_;intro z1001 k;simp only[pv];replace sb:=kk sb k;clear k;refine p_v _ (Zp _ _ rfl false rfl) ?_;refine p_m ?_;refine p_s ?_;refine p_s ?_;refine p_s ?_;simp only[pv];refine p_k true (.bool true) ?_;refine p_m ?_;refine p_s ?_;refine p_s ?_;refine p_s ?_;simp only[pv];refine p_k true (.bool true) ?_;refine p_m ?_;refine p_s ?_;refine p_s ?_;refine p_s ?_;simp only[pv];refine p_k true (.bool true) (Za ?_);simp only[pv];iterate 4 go_step
 refine rp ?_;refine p_v (.pointer none) (fun _=>rfl) ?_;refine p_v (.int .i64 1) (fun _=>rfl) (Za ?_);simp only[pv];go_wp2;go_ret2;exact⟨rfl,sb⟩
theorem Em (g:Option Addr)(T:Nat)(cl op:Int)(key s:List UInt8)(b:Bool)(w:World)(h1:upB (T:Nat) 2=true)(h2:upB cl 4=true)(h3:upB op 1048576=true)(h4:Is key=true)(hkl:key.length<=16777216)(hz:RL w g 0):
  Calls prog 12 #[.pointer g,.int .i64 (T:Nat),.int .i64 cl,.int .i64 op,.string ⟨key.toArray⟩,.string ⟨s.toArray⟩,.bool b] w fun e w'=>e= .returned (.tuple #[.pointer none,.int .i64 1])/\Below w.heap.size w w':=by
 have hu1:=fun w'=>XS (T:Nat) 2 w'
 have hu2:=fun w'=>XS cl 4 w'
 have hu3:=fun w'=>XS op 1048576 w'
 have hu4:=fun w'=>V6 key w' (by omega)
 rw[h1]at hu1;rw[h2]at hu2;rw[h3]at hu3;rw[h4]at hu4
 go_enter func12,ntmps12
 have sb:=Z9 w;iterate 2 go_step
 refine rp ?_;refine p_v (.pointer none) (fun _=>rfl) ?_;refine p_v (.int .i64 0) (fun _=>rfl) (Za ?_);simp only[pv];iterate 4 go_step
 refine rp ?_;refine p_m ?_;simp only[pv];refine p_c 44 func44 #[.int .i64 (T:Nat),.int .i64 2] (hu1 _) ?_;intro z1001 k;simp only[pv];replace hz:=hz.below k.nil;replace sb:=kk sb k;clear k;refine p_v _ (Zp _ _ rfl true rfl) ?_;refine p_m ?_;refine p_m ?_;simp only[pv];refine p_c 44 func44 #[.int .i64 cl,.int .i64 4] (hu2 _) ?_;intro z1005 k;simp only[pv];replace hz:=hz.below k.nil;replace sb:=kk sb k;clear k;refine p_v _ (Zp _ _ rfl true rfl) ?_;refine p_k false (.bool false) ?_;refine p_m ?_;refine p_m ?_;simp only[pv];refine p_c 44 func44 #[.int .i64 op,.int .i64 1048576] (hu3 _) ?_;intro z1010 k;simp only[pv];replace hz:=hz.below k.nil;replace sb:=kk sb k;clear k;refine p_v _ (Zp _ _ rfl true rfl) ?_;refine p_k false (.bool false) ?_;refine p_m ?_;refine p_m ?_;simp only[pv];refine p_c 45 func45 #[.string ⟨key.toArray⟩] (hu4 _) ?_;intro z1015 k;simp only[pv];replace hz:=hz.below k.nil;replace sb:=kk sb k;clear k;refine p_v _ (Zp _ _ rfl true rfl) ?_;refine p_k false (.bool false) (Za ?_);simp only[pv];iterate 7 go_step
 refine rp ?_;refine p_m ?_;refine p_m ?_;refine p_m ?_;simp only[pv];refine p_f 46 func46 #[.pointer g,.string ⟨s.toArray⟩,.bool b] (El g s b _ hz) ?_;rintro _ z3003 ⟨rfl,hb⟩;refine⟨_,rfl,?_⟩;simp only[pv];have k:=Kept.ofBelow hb;clear hb;replace sb:=kk sb k;clear k;refine p_m ?_;refine p_e ?_;refine p_e ?_;refine p_a ?_;refine p_a (Za ?_);simp only[pv];iterate 4 go_step
 refine rp ?_;refine p_m ?_;simp only[pv];refine p_v _ (ZC .i64 _ _ _ _ rfl (1) (0) rfl rfl true (by decide)) (Za ?_);simp only[pv];iterate 4 go_step
 refine rp ?_;refine p_m ?_;refine p_v (.pointer none) (fun _=>rfl) ?_;refine p_a (Za ?_);simp only[pv];go_wp2;go_ret2;exact⟨rfl,sb⟩
theorem Cn (g:Option Addr)(T:Nat)(cl op:Int)(key s:List UInt8)(b:Bool)(z:Nat)(N:Nat)(w:World)(h1:upB (T:Nat) 2=true)(h2:upB cl 4=true)(h3:upB op 1048576=true)(h4:Is key=true)(hkl:key.length<=16777216)(hz:0<z)(hz2:z<=32)(hs:b=true->s.length<=24)(hZ:RL w g z)(hN:pN (ckL s b).length z=N):
  Calls prog 12 #[.pointer g,.int .i64 (T:Nat),.int .i64 cl,.int .i64 op,.string ⟨key.toArray⟩,.string ⟨s.toArray⟩,.bool b] w fun e w'=> ∃p gN,e= .returned (.tuple #[.pointer (some ⟨p,0,none⟩),.int .i64 0])/\w.heap.size<=p/\w.heap.size<=gN/\gN<p/\Row w' p (wtC 1 (.pointer g) (T:Nat) cl op key (.slice (some ⟨gN,0,none⟩) N N) (fun _=> -1) (fun _=>false) 0 0 (.slice none 0 0) (.slice none 0 0)) 99/\Row w' gN (nsC N (ckF (ckL s b) z)) 39/\Below w.heap.size w w':=by
 have hu1:=fun w'=>XS (T:Nat) 2 w'
 have hu2:=fun w'=>XS cl 4 w'
 have hu3:=fun w'=>XS op 1048576 w'
 have hu4:=fun w'=>V6 key w' (by omega)
 rw[h1]at hu1;rw[h2]at hu2;rw[h3]at hu3;rw[h4]at hu4;have hcl:=fun w'=>M4 key w' hkl
 go_enter func12,ntmps12
 have sb:=Z9 w;iterate 2 go_step
 refine rp ?_;refine p_v (.pointer none) (fun _=>rfl) ?_;refine p_v (.int .i64 0) (fun _=>rfl) (Za ?_);simp only[pv];iterate 4 go_step
 refine rp ?_;refine p_m ?_;simp only[pv];refine p_c 44 func44 #[.int .i64 (T:Nat),.int .i64 2] (hu1 _) ?_;intro z1001 k;simp only[pv];replace hZ:=hZ.below k.nil;replace sb:=kk sb k;clear k;refine p_v _ (Zp _ _ rfl true rfl) ?_;refine p_m ?_;refine p_m ?_;simp only[pv];refine p_c 44 func44 #[.int .i64 cl,.int .i64 4] (hu2 _) ?_;intro z1005 k;simp only[pv];replace hZ:=hZ.below k.nil;replace sb:=kk sb k;clear k;refine p_v _ (Zp _ _ rfl true rfl) ?_;refine p_k false (.bool false) ?_;refine p_m ?_;refine p_m ?_;simp only[pv];refine p_c 44 func44 #[.int .i64 op,.int .i64 1048576] (hu3 _) ?_;intro z1010 k;simp only[pv];replace hZ:=hZ.below k.nil;replace sb:=kk sb k;clear k;refine p_v _ (Zp _ _ rfl true rfl) ?_;refine p_k false (.bool false) ?_;refine p_m ?_;refine p_m ?_;simp only[pv];refine p_c 45 func45 #[.string ⟨key.toArray⟩] (hu4 _) ?_;intro z1015 k;simp only[pv];replace hZ:=hZ.below k.nil;replace sb:=kk sb k;clear k;refine p_v _ (Zp _ _ rfl true rfl) ?_;refine p_k false (.bool false) (Za ?_);simp only[pv];iterate 7 go_step
 refine rp ?_;refine p_m ?_;refine p_m ?_;refine p_m ?_;simp only[pv];refine p_f 46 func46 #[.pointer g,.string ⟨s.toArray⟩,.bool b] (Cm g z s b _ hz hz2 hs hZ) ?_;rw[hN];rintro _ z3003 ⟨gN,rfl,hgN,rN,hb⟩;refine⟨_,rfl,?_⟩;simp only[pv];have hgs:=Nat.le_trans sb.size hgN;replace sb:=sb.trans ((Kept.ofBelow hb).below w.heap.size sb.size (by simp));clear hb hZ hgN;refine p_m ?_;refine p_e ?_;refine p_e ?_;refine p_a ?_;refine p_a (Za ?_);simp only[pv];iterate 4 go_step
 refine rp ?_;refine p_m ?_;simp only[pv];refine p_v _ (ZC .i64 _ _ _ _ rfl (0) (0) rfl rfl false (by decide)) (Za ?_);simp only[pv];iterate 7 go_step
 refine rp ?_;refine p_m ?_;refine p_m ?_;refine p_m ?_;refine p_m ?_;refine p_m ?_;simp only[pv];refine p_c 47 func47 #[.string ⟨key.toArray⟩] (hcl _) ?_;intro z6005 k;simp only[pv];replace rN:=k.ro rN;replace sb:=kk sb k;clear k;refine p_m ?_;simp only[pv];refine p_v _ (Zm _ [(0,_),(1,_),(2,_),(3,_),(4,_),(5,_),(6,_)] rfl [(0,.int .i64 1),(1,.pointer g),(2,.int .i64 (T:Nat)),(3,.int .i64 cl),(4,.int .i64 op),(5,.string ⟨key.toArray⟩),(6,.slice (some ⟨gN,0,none⟩) N N)] rfl _ (IA _ _ _ _ _ _ _ _ _)) ?_;simp only[pv];refine ZD (by rfl) 99 _ rfl (wtC 1 (.pointer g) (T:Nat) cl op key (.slice (some ⟨gN,0,none⟩) N N) (fun _=>0) (fun _=>false) 0 0 (.slice none 0 0) (.slice none 0 0)) rfl ?_;intro g56 z6008 n0 r56 k;simp only[pv];have dNx56:=l_l rN.lt n0;have b56:=Nat.le_trans sb.size n0;clear n0;replace rN:=k.ro rN;replace sb:=kk sb k;clear k;refine p_a (Za ?_);simp only[pv];have hp0:w.heap.size<=g56:=b56;have hpN:gN<g56:=by omega
 iterate 4 go_step
 refine rp ?_;refine p_v (.int .i64 0) (fun _=>rfl) (Za ?_);simp only[pv]
 go_wp2_with fail
 go_loopg [19,57] 7 (fun x s19 s57 wr=> ∃(k:Nat),k+x=7/\s57= .int .i64 k/\Row wr g56 (wtC 1 (.pointer g) (T:Nat) cl op key (.slice (some ⟨gN,0,none⟩) N N) (fun j=>if j<k then-1 else 0) (fun _=>false) 0 0 (.slice none 0 0) (.slice none 0 0)) 99/\Row wr gN (nsC N (ckF (ckL s b) z)) 39/\Below w.heap.size w wr)
 case atStart=>exact⟨0,by omega,rfl,by rw[QF _ _ _ _ _ _ _ (fun j=>if j<0 then-1 else 0) (fun _=>0) _ (fun _=>false) _ _ _ _ (fun i _=>if_neg (Nat.not_lt_zero i)) (fun _ _=>rfl)];exact r56,rN,sb⟩
 case round=>
  clear sb r56 rN;obtain⟨k,hk,rfl,r56,rN,sb⟩:=hrel
  cases gk with
  |zero=>
   obtain rfl:k=7:=by omega
   clear hk
   go_step
   refine rp ?_;refine p_v _ (YV _ _ _ _ rfl (((7:Nat):Int)) (7) rfl rfl false (by decide)) (Za ?_);simp only[pv];iterate 8 go_step
   refine rp ?_;refine p_m ?_;refine p_a ?_;refine p_v (.int .i64 0) (fun _=>rfl) (Za ?_);simp only[pv];go_wp2;go_ret2;exact⟨_,rfl,hp0,_,hgs,hpN,by rw[QF _ _ _ _ _ _ _ (fun _=> -1) (fun j=>if j<7 then-1 else 0) _ (fun _=>false) _ _ _ _ (fun i hi=>(if_pos hi).symm) (fun _ _=>rfl)];exact r56,rN,sb⟩
  |succ y=>
   have hlt:k<7:=by omega
   go_step
   refine rp ?_;refine p_v _ (XK ((k:Nat)) (7)) (Za ?_);simp only[pv];iterate 10 go_step
   refine rp ?_;refine p_m ?_;refine p_a (Za ?_);simp only[pv];iterate 2 go_step
   refine rp ?_;refine p_m ?_;refine p_m ?_;simp only[pv];refine p_v (.pointer (some ⟨g56,0,none⟩)) (Zl _ rfl g56 (0) rfl) ?_;simp only[pv];refine p_v _ (Zb 99 _ 7 rfl g56 (0) rfl _ underlying99 _ rfl 6 sizeOf75) ?_;simp only[pv];refine p_v _ (ZE 75 _ _ rfl g56 7 rfl k 7 rfl hlt _ underlying75 1 sizeOf3) ?_;simp only[pv];refine Yj (by rfl) 3 _ _ rfl _ (7+k*1) rfl r56 (.int .i64 (-1)) rfl rfl rfl Yw (by rw[WS];omega) _ (Sb k hlt (-1)) ?_;clear r56;intro z10005 r56 k3;simp only[Act.put];replace rN:=k3.row rN (by simp;omega);replace sb:=sb.trans (k3.below w.heap.size sb.size (by simp;omega));clear k3;refine Za ?_;iterate 2 go_step
   refine rp ?_;refine p_v _ (x_a k 1) ?_;refine p_m (Za ?_);simp only[pv];go_wp2
   go_roundg y
   case measure=>omega
   case rel=>exact⟨k+1,by omega,rfl,by rw[QF _ _ _ _ _ _ _ (fun j=>if j<k+1 then-1 else 0) (fun j=>if j=k then-1 else if j<k then-1 else 0) _ (fun _=>false) _ _ _ _ (fun i hi=>by
    show(if i<k+1 then(-1:Int)else 0)=if i=k then-1 else if i<k then-1 else 0
    by_cases h1:i=k
    ·rw[if_pos (by omega),if_pos h1]
    ·rw[if_neg h1];by_cases h2:i<k
     ·rw[if_pos (by omega),if_pos h2]
     ·rw[if_neg (by omega),if_neg h2]) (fun _ _=>rfl)];exact r56,rN,sb⟩
section
variable {P:Program}{o:Oper}{ρ:Operand->Value}
theorem BU (xT t:TypeId)(x:Operand)(ho:o.op= .typeAssert x xT t true)(fs:Array Field)(h:P.underlying t=some (.struct fs))(v:Value)(hx:ρ x= .iface t v)(w:World):(execOp ρ o).run P w= .ok (.value (.tuple #[v,.bool true])) w:=by
 unfold execOp;simp only[ho,hx];simp[Instr.typeAssert,run_underlying h,go_sem,Result.andThen]
theorem BV (xT t:TypeId)(x:Operand)(ho:o.op= .typeAssert x xT t true)(fs:Array Field)(h:P.underlying t=some (.struct fs))(z:Value)(hz: ∀w,(zeroValue t).run P w= .ok z w)(hx:ρ x= .nilIface)(w:World):(execOp ρ o).run P w= .ok (.value (.tuple #[z,.bool false])) w:=by
 unfold execOp;simp only[ho,hx];simp[Instr.typeAssert,run_underlying h,go_sem,Result.andThen,hz]
theorem Co (f:FuncId)(caps:Array Operand)(ho:o.op= .makeFunc (.func f) #[] caps)(vs:Array Value)(hv:caps.toList.map ρ=vs.toList)(w:World):(execOp ρ o).run P w= .ok (.value (.func (.func f) #[] vs)) w:=by
 have hv':caps.map ρ=vs:=by apply Array.toList_inj.1;rw[Array.toList_map];exact hv
 unfold execOp;simp only[ho,hv',Array.map_empty];rfl
end
section
variable {P:Program}{ops:Array Oper}{Q:Exit->Act->World->Prop}{rest:List Oper}{o:Oper}{a:Act}{w:World}
theorem L3 {fn:Func}(hw:Region.wanted o (yielded ops a.tmps)=true)(f:FuncId)(t:Tmp)(args:Array Operand)(ts:Array TypeId)
  (ho:o.op= .call {callee:=.value (.tmp t),args:=args,argTypes:=ts})(caps:Array Value)(hcl:a.eval (.tmp t)= .func (.func f) #[] caps)(hf:P.funcs[f]?=some fn)(hb:(fn.name== "runtime.NumGoroutine" ||fn.body.isNone)=false)
  (vs:Array Value)(hv':args.toList.map a.eval=vs.toList){R:Ending->World->Prop}(hc:Calls P f (vs++caps) w R)
  (h: ∀e w',R e w'->(∃v,e= .returned v/\PW P ops Q rest (a.put o.dst v) w')∨(∃ch,e= .panicked ch/\Q (.panic ch) a w')):PW P ops Q (o::rest) a w:=by
 refine⟨?_⟩;unfold wpList;rw[if_pos hw];left
 have hv:args.map a.eval=vs:=by apply Array.toList_inj.1;rw[Array.toList_map];exact hv'
 have hr:=ZM (P:=P) hf hb (vs++caps) w
 have hd:(execOp a.eval o).run P w= .ok (.enter f (vs++caps)) w:=by
  unfold execOp;simp only[ho,resolve,hv,hcl];simp[Deferred.ofValue,invoke,hr]
 unfold Oper.wp;rw[hd,Oper.upon_enter];refine hc.mono fun e w' hR=>?_
 rcases h e w' hR with ⟨v,rfl,hp⟩|⟨ch,rfl,hq⟩
 ·exact hp.out
 ·exact hq
theorem Cp (hw:Region.wanted o (yielded ops a.tmps)=true)(d:Deferred)(hr:(execOp a.eval o).run P w= .ok (.defer d) w)(h:PW P ops Q rest ({a with defers:=d::a.defers}.put o.dst undef) w):PW P ops Q (o::rest) a w:=by
 refine⟨?_⟩;unfold wpList;rw[if_pos hw];left
 unfold Oper.wp;rw[hr,Oper.upon_defer];exact h.out
end
theorem BW {P:Program}{o:Oper}{ρ:Operand->Value}(t:Tmp)(ho:o.op= .defer {callee:=.value (.tmp t),args:=#[],argTypes:=#[]})(f:FuncId)(caps:Array Value)(hx:ρ (.tmp t)= .func (.func f) #[] caps)(w:World):(execOp ρ o).run P w= .ok (.defer {target:=.fn (.func f) caps,args:=#[]}) w:=by
 unfold execOp;simp only[ho,resolve,hx];simp[Deferred.ofValue]
theorem RD {P:Program}{fn:Func}{tmps:Array Value}{w:World}{p:Tmp}{ty t:TypeId}(hf:fn.results=#[.cell p ty])(g:Nat)(hp:tmps.getD p undef= .pointer (some ⟨g,0,none⟩))(v:Value)(hr:Row w g #[v] t)(ha: ∀w,(isAgg ty).run P w= .ok false w):(results fn tmps).run P w= .ok v w:=by
 have h1:=YC (P:=P) w g 0 ty v ha (hr.r.cell 0);rw[Array.getD_eq_getD_getElem?]at hp;simp[results,hf,hp,asAddr,h1]
theorem BX {P:Program}{o:Oper}{ρ:Operand->Value}(t:TypeId)(x:Operand)(u:TypeId)(ho:o.op= .binOp .neq t x (.const .nilIface) u)(hx:ρ x= .nilIface)(hy:ρ (.const .nilIface)= .nilIface)(hu:P.underlying t=some (.interface (P.methodsAt t)))(w:World):(execOp ρ o).run P w= .ok (.value (.bool false)) w:=by
 unfold execOp;simp only[ho,hx,hy];simp[eqGuard,go_sem,run_neq_nil_nil _ _ hu]
theorem En (w:World):(zeroValue 33).run prog w= .ok (.int .i64 0) w:=by
 have h:(prog.info? 33).map (fun i=>(i.zero,i.size))=some (some (.int .i64 0),1):=by kernel_rfl
 exact(zero_of_info h).1 w
theorem Vz:(prog.info? 33).map (·.size)=some 1:=by kernel_rfl
theorem L4 (g0:Nat)(n:Int)(older:List PanicEntry)(w:World)(x:Int)(r0:Row w g0 #[.int .i64 x] 33):
  CallsD prog 142 #[.pointer (some ⟨g0,0,none⟩)] (.panicking ({v:=wrV n,recovered:=false}::older)) w fun e u' w'=>e= .returned (.tuple #[])/\u'= .panicking ({v:=wrV n,recovered:=true}::older)/\Row w' g0 #[.int .i64 n] 33/\Kept [g0] w w':=by
 refine callsD_of_wpS func142 rfl fun c₀ cs hu=>?_
 apply wpS_seq;apply wpS_region;simp[wpOpsS,go_sem,recoverD,hu,ntmps142,Exit.thenS];refine wpS_of_wp ?_;rw[show(#[Value.pointer (some ⟨g0,0,none⟩)]++((Array.replicate 15 undef).setIfInBounds 3 (wrV n)).setIfInBounds 0 (wrV n))=#[.pointer (some ⟨g0,0,none⟩),wrV n,undef,undef,wrV n,undef,undef,undef,undef,undef,undef,undef,undef,undef,undef,undef]from rfl];have sk:=Kept.refl [g0] w;have l0:=r0.lt;iterate 2 go_step
 refine rp ?_;refine p_m ?_;simp only[pv];refine p_v _ (BU _ _ _ rfl _ underlying208 _ rfl) ?_;refine p_m ?_;refine p_e ?_;refine p_e ?_;simp only[pv];refine ZJ (by rfl) 208 rfl _ Qy ?_;intro g2 z1005 n0 r2 k;simp only[pv];have d0x2:=l_l r0.lt n0;have b2:=Nat.le_trans sk.size n0;clear n0;replace r0:=k.ro r0;replace sk:=sk.trans k (by simp<;>omega);clear k;refine Z0 (by rfl) 208 _ _ rfl _ rfl r2 (#[.int .i64 n]) rfl (by exact Lv) (by rfl) (Hr _) ?_;clear r2;intro z1006 r2 k;simp only[Act.put];replace r0:=k.ro r0;replace sk:=sk.trans k (by simp<;>omega);clear k;refine p_a (Za ?_);simp only[pv];iterate 3 go_step
 refine rp ?_;refine p_m (Za ?_);simp only[pv];iterate 3 go_step
 refine rp ?_;refine p_v _ (Zb 208 _ 0 rfl g2 0 rfl _ underlying208 _ rfl 0 sizeOf33) ?_;simp only[pv];refine p_d 0 r2.r (.int .i64 n) rfl isAgg33 ?_;simp only[pv];refine Yj (by rfl) 33 _ _ rfl _ (0) rfl r0 (.int .i64 n) rfl rfl rfl Vz (by exact Nat.one_pos) (#[.int .i64 n]) rfl ?_;clear r0;intro z3002 r0 k;simp only[Act.put];replace r2:=k.ro r2;replace sk:=sk.trans k (by simp<;>omega);clear k;refine Za ?_;go_wp2;exact⟨rfl,_,rfl,_,results_none rfl _ _ _,rfl,rfl,r0,sk⟩
theorem IS (g0:Nat)(w:World)(x:Int)(r0:Row w g0 #[.int .i64 x] 33):
  CallsD prog 142 #[.pointer (some ⟨g0,0,none⟩)] .returning w fun e u' w'=>e= .returned (.tuple #[])/\u'= .returning/\Row w' g0 #[.int .i64 x] 33/\Kept [g0] w w':=by
 refine callsD_of_wpS func142 rfl fun c₀ cs hu=>?_
 apply wpS_seq;apply wpS_region;simp[wpOpsS,go_sem,recoverD,hu,ntmps142,Exit.thenS];refine wpS_of_wp ?_;rw[show(#[Value.pointer (some ⟨g0,0,none⟩)]++((Array.replicate 15 undef).setIfInBounds 3 (.nilIface)).setIfInBounds 0 (.nilIface))=#[.pointer (some ⟨g0,0,none⟩),.nilIface,undef,undef,.nilIface,undef,undef,undef,undef,undef,undef,undef,undef,undef,undef,undef]from rfl];have sk:=Kept.refl [g0] w;have l0:=r0.lt
 have hc0:c₀={c₀ with mode:=.returning}:=by cases c₀;simp at hu;simp[hu]
 iterate 2 go_step
 refine rp ?_;refine p_m ?_;simp only[pv];refine p_v _ (BV _ _ _ rfl _ underlying208 _ Qy rfl) ?_;refine p_m ?_;refine p_e ?_;refine p_e ?_;simp only[pv];refine ZJ (by rfl) 208 rfl _ Qy ?_;intro g2 z1005 n0 r2 k;simp only[pv];have d0x2:=l_l r0.lt n0;have b2:=Nat.le_trans sk.size n0;clear n0;replace r0:=k.ro r0;replace sk:=sk.trans k (by simp<;>omega);clear k;refine Z0 (by rfl) 208 _ _ rfl _ rfl r2 (#[.int .i64 0]) rfl (by exact Lv) (by rfl) (Hr _) ?_;clear r2;intro z1006 r2 k;simp only[Act.put];replace r0:=k.ro r0;replace sk:=sk.trans k (by simp<;>omega);clear k;refine p_a (Za ?_);simp only[pv];iterate 3 go_step
 refine rp ?_;refine p_m (Za ?_);simp only[pv];iterate 4 go_step
 refine rp ?_;refine p_m ?_;simp only[pv];refine p_v _ (BX _ _ _ rfl rfl rfl (by kernel_rfl)) (Za ?_);simp only[pv];go_wp2;exact⟨rfl,.returning,by rw[<-hc0],_,results_none rfl _ _ _,rfl,rfl,r0,sk⟩
theorem Nd (f:FuncId)(caps:Array Value){fn:Func}(hf:prog.funcs[f]?=some fn)(hb:(fn.name== "runtime.NumGoroutine" ||fn.body.isNone)=false)(S:List Nat)(A:Int->World->World->Prop)(w:World)(hS: ∀g∈S,g<w.heap.size)
  (hc: ∀w1,Below w.heap.size w w1->Calls prog f caps w1 fun e w2=>Kept S w1 w2/\((e= .returned (.tuple #[])/\A 0 w1 w2)∨ ∃n,e= .panicked (wrP n)/\A n w1 w2)):
  Calls prog 93 #[.func (.func f) #[] caps] w fun e w3=> ∃n w1 w2 g,e= .returned (.int .i64 n)/\Below w.heap.size w w1/\w.heap.size<=g/\g<w1.heap.size/\Kept S w1 w2/\A n w1 w2/\Kept [g] w2 w3:=by
 go_enter_defers func93,ntmps93
 have sb:=Below.refl w.heap.size w;iterate 2 go_step
 refine rp ?_;refine UG (by rfl) 33 rfl (.int .i64 0) En rfl ?_;intro g2 z0 n0 r2 k;simp only[pv];have b2:=Nat.le_trans sb.size n0;clear n0;replace sb:=kk sb k;clear k;refine Za ?_;iterate 3 go_step
 refine rp ?_;refine p_v _ (Co _ _ rfl _ rfl) ?_;simp only[pv];refine Cp (by rfl) _ (BW _ rfl 142 #[.pointer (some ⟨g2,0,none⟩)] rfl _) ?_;simp only[Act.put];refine Za ?_;have l2:=r2.lt
 have hnS:g2∉S:=fun h=>by have:=hS g2 h;omega
 iterate 3 go_step
 refine rp ?_;refine p_m ?_;simp only[pv];refine L3 (by rfl) f _ _ _ rfl caps rfl hf hb #[] rfl (by simpa using hc _ sb) ?_;rintro e w2 ⟨hk,h⟩;replace r2:=hk.row r2 hnS;rcases h with ⟨rfl,hA⟩|⟨n,rfl,hA⟩
 ·left
  refine⟨_,rfl,?_⟩;simp only[pv];refine Za ?_;have sk:=Kept.refl [g2] w2;iterate 3 go_step
  refine rp ?_;refine Yj (by rfl) 33 _ _ rfl _ (0) rfl r2 (.int .i64 0) rfl rfl rfl Vz (by exact Nat.one_pos) (#[.int .i64 0]) rfl ?_;clear r2;intro z3000 r2 k;simp only[Act.put];replace sk:=sk.trans k (by simp<;>omega);clear k;refine Za ?_;go_wp2;refine leaves_cons (f:=142) (args:=#[.pointer (some ⟨g2,0,none⟩)]) (by simp) (by simp[go_sem]) ?_;refine(IS g2 _ 0 r2).mono ?_;rintro e u' w4 ⟨rfl,rfl,r4,k4⟩;exact⟨.int .i64 0,RD rfl g2 rfl _ r4 isAgg33,0,_,w2,g2,rfl,sb,b2,l2,hk,hA,sk.trans k4 (by simp)⟩
 ·right
  refine⟨_,rfl,?_⟩;refine leaves_cons (f:=142) (args:=#[.pointer (some ⟨g2,0,none⟩)]) (by simp) (by simp[go_sem]) ?_;refine(L4 g2 n [] _ 0 r2).mono ?_;rintro e u' w4 ⟨rfl,rfl,r4,k4⟩;exact⟨.int .i64 n,RD rfl g2 rfl _ r4 isAgg33,n,_,w2,g2,rfl,sb,b2,l2,hk,hA,k4⟩
def chI (b:Bool)(n:Int):Int:=if b then 0 else n
theorem IT (f:FuncId)(caps:Array Value){fn:Func}(hf:prog.funcs[f]?=some fn)(hb:(fn.name== "runtime.NumGoroutine" ||fn.body.isNone)=false)(b:Bool)(n0:Int)(w:World)
  (hc: ∀w1,Below w.heap.size w w1->Calls prog f caps w1 fun e w2=>e=FU b n0/\Below w1.heap.size w1 w2):
  Calls prog 93 #[.func (.func f) #[] caps] w (Rt (.int .i64 (chI b n0)) w):=by
 refine(Nd f caps hf hb [] (fun n _ _=>n=chI b n0) w (by simp) (fun w1 h1=>(hc w1 h1).mono ?_)).mono ?_
 ·rintro e w2 ⟨rfl,hb2⟩;refine⟨Kept.ofBelow hb2,?_⟩
  cases b with
  |true=>exact .inl ⟨rfl,rfl⟩
  |false=>exact .inr ⟨n0,rfl,rfl⟩
 ·rintro e w3 ⟨n,w1,w2,g,rfl,h1,hg,_,k1,rfl,k2⟩;refine⟨rfl,(h1.trans (k1.below w.heap.size h1.size (by simp))).trans ?_⟩;exact k2.below w.heap.size (Nat.le_trans h1.size k1.size) (by simpa using hg)
theorem Eo (kd op:Int)(key:List UInt8)(sq cl:Int)(dg:List UInt8)(a1:Option Addr)(n c1:Nat)(a2:Option Addr)(m c2:Nat)(N:Nat->Nat)(M:Nat->Nat->Nat)(w:World)(hkl:key.length<9223372036854775808)(hn:n<4611686018427387904)(hM:MtA w a1 n N M):
  Calls prog 95 #[.agg (msC kd op key sq cl dg a1 n c1 a2 m c2)] w fun e w'=>e=FU (wmB kd op key sq cl dg (brB n m) (dlB n m (xmB n N M))) 1/\Below w.heap.size w w':=
 O6 kd op key sq cl dg a1 n c1 a2 m c2 _ w hkl (fun w' hb=>O5 kd op key sq cl dg a1 n c1 a2 m c2 N M _ w' rfl hn (hM.below hb))
theorem IU (kd op:Int)(key:List UInt8)(sq cl:Int)(dg:List UInt8)(a1:Option Addr)(n c1:Nat)(a2:Option Addr)(m c2:Nat)(N:Nat->Nat)(M:Nat->Nat->Nat)(w:World)(hkl:key.length<9223372036854775808)(hn:n<4611686018427387904)(hM:MtA w a1 n N M)(g0:Nat)(r0:Row w g0 (msC kd op key sq cl dg a1 n c1 a2 m c2) 56):
  Calls prog 94 #[.pointer (some ⟨g0,0,none⟩)] w fun e w'=>e=FU (wmB kd op key sq cl dg (brB n m) (dlB n m (xmB n N M))) 1/\Below w.heap.size w w':=by
 have hC:=Eo kd op key sq cl dg a1 n c1 a2 m c2 N M w hkl hn hM;clear hM;have sb:=Below.refl w.heap.size w;cases hW:wmB kd op key sq cl dg (brB n m) (dlB n m (xmB n N M))
 ·rw[hW]at hC;rw[Lt]at hC ⊢
  go_enter func94,ntmps94
  refine rp ?_;refine Zf (by rfl) 56 _ rfl _ (0) rfl r0.r (msC kd op key sq cl dg a1 n c1 a2 m c2) (Zu _) _ underlying56 rfl ZP ?_;simp only[pv];refine PL (by rfl) 95 _ _ rfl func95 (by kernel_rfl) #[.agg (msC kd op key sq cl dg a1 n c1 a2 m c2)] rfl hC ?_;intro z1 hb;exact⟨rfl,rfl,Zk sb (Nat.le_refl _) hb⟩
 ·rw[hW]at hC;rw[PO]at hC ⊢
  go_enter func94,ntmps94
  refine rp ?_;refine Zf (by rfl) 56 _ rfl _ (0) rfl r0.r (msC kd op key sq cl dg a1 n c1 a2 m c2) (Zu _) _ underlying56 rfl ZP ?_;simp only[pv];refine p_c 95 func95 #[.agg (msC kd op key sq cl dg a1 n c1 a2 m c2)] (hC) ?_;intro z1 k;simp only[pv];replace r0:=k.ro r0;replace sb:=kk sb k;clear k;refine Za ?_;go_wp2
  first|(go_ret;exact⟨rfl,sb⟩)|exact⟨rfl,_,results_none rfl _ _ _,rfl,sb⟩
theorem WT (kd op:Int)(key:List UInt8)(sq cl:Int)(dg:List UInt8)(a1:Option Addr)(n c1:Nat)(a2:Option Addr)(m c2:Nat)(N:Nat->Nat)(M:Nat->Nat->Nat)(w:World)(hkl:key.length<9223372036854775808)(hn:n<4611686018427387904)(hM:MtA w a1 n N M):
  Calls prog 54 #[.agg (msC kd op key sq cl dg a1 n c1 a2 m c2)] w fun e w'=>e= .returned (.int .i64 (chI (wmB kd op key sq cl dg (brB n m) (dlB n m (xmB n N M))) 1))/\Below w.heap.size w w':=by
 go_enter func54,ntmps54
 iterate 2 go_step
 refine rp ?_;refine ZD (by rfl) 56 _ rfl (msC kd op key sq cl dg a1 n c1 a2 m c2) rfl ?_;intro g1 z0 n0 r1 k;simp only[pv];have b1:w.heap.size<=g1:=n0;clear n0;have sb:=k_b k;clear k;refine p_v (.int .i64 0) (fun _=>rfl) (Za ?_);simp only[pv];iterate 3 go_step
 refine rp ?_;refine p_v _ (Co _ _ rfl _ rfl) ?_;simp only[pv];refine p_c 93 func93 #[.func (.func 94) #[] #[.pointer (some ⟨g1,0,none⟩)]] (IT 94 _ func94 (by kernel_rfl) _ 1 _ (fun w1 h1=>IU kd op key sq cl dg a1 n c1 a2 m c2 N M w1 hkl hn ((hM.below sb).below h1) g1 (r1.belowAll h1))) ?_;intro z1001 k;simp only[pv];replace r1:=k.ro r1;replace sb:=kk sb k;clear k;refine p_a (Za ?_);simp only[pv];go_wp2;go_ret;exact⟨rfl,sb⟩
end Go.Proofs.YtcdahmommonnfaaGreatDoor
