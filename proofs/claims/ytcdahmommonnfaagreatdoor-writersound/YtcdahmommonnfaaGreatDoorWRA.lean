import Derived.Test.YtcdahmommonnfaaGreatDoorMA
import Derived.Recover
set_option maxRecDepth 100000
set_option maxHeartbeats 8000000
namespace Go.Proofs.YtcdahmommonnfaaGreatDoor
set_option linter.all false
open Go.RowKit
open Go.Proofs.Tryz
section
variable {P:Program}{ops:Array Oper}{Q:Exit->Act->World->Prop}{rest:List Oper}{o:Oper}{a:Act}{w:World}
theorem PL {fn:Func}(hw:Region.wanted o (yielded ops a.tmps)=true)(f:FuncId)(args:Array Operand)(ts:Array TypeId)
  (ho:o.op= .call {callee:=.value (.func f),args:=args,argTypes:=ts})(hf:P.funcs[f]?=some fn)(hb:(fn.name== "runtime.NumGoroutine" ||fn.body.isNone)=false)
  (vs:Array Value)(hv':args.toList.map a.eval=vs.toList){ch:List PanicEntry}{R:World->Prop}(hc:Calls P f vs w fun e w'=>e= .panicked ch/\R w')
  (h: ∀w',R w'->Q (.panic ch) a w'):PW P ops Q (o::rest) a w:=by
 refine⟨?_⟩;unfold wpList;rw[if_pos hw];left
 have hv:args.map a.eval=vs:=by apply Array.toList_inj.1;rw[Array.toList_map];exact hv'
 have hr:=ZM (P:=P) hf hb vs w
 have hd:(execOp a.eval o).run P w= .ok (.enter f vs) w:=by
  unfold execOp;simp only[ho,resolve,hv,Act.eval];simp[Deferred.ofValue,invoke,hr]
 unfold Oper.wp;rw[hd,Oper.upon_enter];refine hc.mono ?_;rintro e w' ⟨rfl,hb'⟩;exact h w' hb'
theorem ZR {fn:Func}(hw:Region.wanted o (yielded ops a.tmps)=true)(f:FuncId)(t:Tmp)(args:Array Operand)(ts:Array TypeId)
  (ho:o.op= .call {callee:=.value (.tmp t),args:=args,argTypes:=ts})(caps:Array Value)(hcl:a.eval (.tmp t)= .func (.func f) #[] caps)(hf:P.funcs[f]?=some fn)(hb:(fn.name== "runtime.NumGoroutine" ||fn.body.isNone)=false)
  (vs:Array Value)(hv':args.toList.map a.eval=vs.toList){ch:List PanicEntry}{R:World->Prop}(hc:Calls P f (vs++caps) w fun e w'=>e= .panicked ch/\R w')
  (h: ∀w',R w'->Q (.panic ch) a w'):PW P ops Q (o::rest) a w:=by
 refine⟨?_⟩;unfold wpList;rw[if_pos hw];left
 have hv:args.map a.eval=vs:=by apply Array.toList_inj.1;rw[Array.toList_map];exact hv'
 have hr:=ZM (P:=P) hf hb (vs++caps) w
 have hd:(execOp a.eval o).run P w= .ok (.enter f (vs++caps)) w:=by
  unfold execOp;simp only[ho,resolve,hv,hcl];simp[Deferred.ofValue,invoke,hr]
 unfold Oper.wp;rw[hd,Oper.upon_enter];refine hc.mono ?_;rintro e w' ⟨rfl,hb'⟩;exact h w' hb'
theorem DY (hw:Region.wanted o (yielded ops a.tmps)=true)(v:Value)(hr:(execOp a.eval o).run P w= .halt (.panic v) w)(h:Q (.panic [{v:=v,recovered:=false}]) a w):PW P ops Q (o::rest) a w:=by
 refine⟨?_⟩;unfold wpList;rw[if_pos hw];left
 unfold Oper.wp;rw[hr,Oper.upon_panic];exact h
end
section
variable {P:Program}{o:Oper}{ρ:Operand->Value}
theorem PM (t:TypeId)(x y:Operand)(u:TypeId)(ho:o.op= .binOp .geq t x y u)(n m:Int)(hx:ρ x= .int .i64 n)(hy:ρ y= .int .i64 m)(b:Bool)(hb:decide (m<=n)=b)(w:World):
  (execOp ρ o).run P w= .ok (.value (.bool b)) w:=by
 subst hb;unfold execOp;simp only[ho,hx,hy];simp[go_sem]
theorem KE (t:TypeId)(x y:Operand)(u:TypeId)(ho:o.op= .binOp .leq t x y u)(n m:Int)(hx:ρ x= .int .i64 n)(hy:ρ y= .int .i64 m)(b:Bool)(hb:decide (n<=m)=b)(w:World):
  (execOp ρ o).run P w= .ok (.value (.bool b)) w:=by
 subst hb;unfold execOp;simp only[ho,hx,hy];simp[go_sem]
theorem BM (x:Operand)(ho:o.op= .panic x)(t:TypeId)(v:Value)(hx:ρ x= .iface t v)(w:World):(execOp ρ o).run P w= .halt (.panic (.iface t v)) w:=by
 unfold execOp;simp only[ho,hx];rfl
end
def tsC (sq cl:Int):Array Value:=#[.int .i64 sq,.int .i64 cl]
theorem Lr:(prog.info? 51).map (fun i=>(i.zero,i.size))=some (some (.agg (tsC 0 0)),2):=by kernel_rfl
theorem Xj (w:World):(zeroValue 51).run prog w= .ok (.agg (tsC 0 0)) w:=(zero_of_info Lr).1 w
theorem Zz:(prog.info? 51).map (·.size)=some 2:=(zero_of_info Lr).2
theorem Xl (x y:Int):(tsC x y).all (·.oneCell')=true:=by simp[tsC,Value.oneCell']
theorem Z1:prog.built 51 []=some (tsC 0 0):=by kernel_rfl
theorem Ip (x y:Int)(w:World):(part 3 (tsC x y) 0).run prog w= .ok (.int .i64 x) w:=by unfold tsC;kernel_rfl
theorem Iq (x y:Int)(w:World):(part 3 (tsC x y) 1).run prog w= .ok (.int .i64 y) w:=by unfold tsC;kernel_rfl
theorem PN (x y x' y':Int)(w:World):(Op.equalIn 10000 51 (.agg (tsC x y)) (.agg (tsC x' y'))).run prog w= .ok (decide (x=x'/\y=y')) w:=by
 rw[run_equalIn_struct w 9999 _ _ _ (by kernel_rfl) (by kernel_rfl)];simp only[Program.fieldsOf,underlying51,Op.eqFields]
 by_cases h1:x=x'<;>by_cases h2:y=y'<;>
  simp[Sem.run_bind,Ip,Iq,run_equalIn_int _ _ _ _ _ _ _ underlying3,h1,h2]
theorem Yn {o:Oper}{ρ:Operand->Value}(p q:Operand)(u:TypeId)(ho:o.op= .binOp .eql 51 p q u)(x y x' y':Int)(hx:ρ p= .agg (tsC x y))(hy:ρ q= .agg (tsC x' y'))(c:Bool)(hb:decide (x=x'/\y=y')=c)(w:World):
  (execOp ρ o).run prog w= .ok (.value (.bool c)) w:=by
 unfold execOp;simp only[ho,hx,hy];simp[run_eqGuard_agg _ _ _ _ _ _ _ (show prog.eqGuardType prog.depth 51=false by kernel_rfl),run_eql_struct,PN]
 simpa using hb
def msC (kd op:Int)(key:List UInt8)(sq cl:Int)(dg:List UInt8)(a1:Option Addr)(n c1:Nat)(a2:Option Addr)(m c2:Nat):Array Value:=#[.int .i64 kd,.int .i64 op,.string ⟨key.toArray⟩,.int .i64 sq,.int .i64 cl,.string ⟨dg.toArray⟩,.slice a1 n c1,.slice a2 m c2]
theorem Ls:(prog.info? 56).map (fun i=>(i.zero,i.size))=some (some (.agg (msC 0 0 [] 0 0 [] none 0 0 none 0 0)),8):=by kernel_rfl
theorem Wu (w:World):(zeroValue 56).run prog w= .ok (.agg (msC 0 0 [] 0 0 [] none 0 0 none 0 0)) w:=(zero_of_info Ls).1 w
theorem ZP:(prog.info? 56).map (·.size)=some 8:=(zero_of_info Ls).2
theorem Vw (kd op:Int)(key:List UInt8)(sq cl:Int)(dg:List UInt8)(a1:Option Addr)(n c1:Nat)(a2:Option Addr)(m c2:Nat):(msC kd op key sq cl dg a1 n c1 a2 m c2).all (·.oneCell')=true:=by simp[msC,Value.oneCell']
theorem YR (kd op:Int)(key:List UInt8)(sq cl:Int)(dg:List UInt8)(a1:Option Addr)(n c1:Nat)(a2:Option Addr)(m c2:Nat): ∀j v,(tsC sq cl).toList[j]?=some v->(msC kd op key sq cl dg a1 n c1 a2 m c2)[3+j]?=some v:=by
 intro j v h
 match j,h with
 |0,h=>exact h
 |1,h=>exact h
def wrV (n:Int):Value:=.iface 208 (.agg #[.int .i64 n])
def wrP (n:Int):List PanicEntry:=[{v:=wrV n,recovered:=false}]
def FU (b:Bool)(n:Int):Ending:=if b then .returned (.tuple #[])else .panicked (wrP n)
theorem PO (n:Int):FU true n= .returned (.tuple #[]):=rfl
theorem Lt (n:Int):FU false n= .panicked (wrP n):=rfl
theorem Lu:(prog.info? 208).map (fun i=>(i.zero,i.size))=some (some (.agg #[.int .i64 0]),1):=by kernel_rfl
theorem Qy (w:World):(zeroValue 208).run prog w= .ok (.agg #[.int .i64 0]) w:=(zero_of_info Lu).1 w
theorem Lv:(prog.info? 208).map (·.size)=some 1:=(zero_of_info Lu).2
theorem Hr (x:Int):(#[.int .i64 x]:Array Value).all (·.oneCell')=true:=by simp[Value.oneCell']
theorem Ir (x:Int):prog.built 208 [(0,.int .i64 x)]=some #[.int .i64 x]:=by kernel_rfl
theorem AS {P:Program}{o:Oper}{ρ:Operand->Value}(t:TypeId)(x:Operand)(ho:o.op= .makeInterface t x)(hc:P.concrete t=true)(v:Value)(hx:ρ x=v)(w:World):(execOp ρ o).run P w= .ok (.value (.iface t v)) w:=by
 unfold execOp;simp only[ho,hx,Sem.run_bind,run_makeInterface w t v hc,Result.andThen_ok];rfl
theorem Tk (b:Bool)(n:Int)(w:World):
  Calls prog 144 #[.bool b,.int .i64 n] w fun e w'=>e=FU b n/\Below w.heap.size w w':=by
 have sb:=Below.refl w.heap.size w
 cases b with
 |true=>
  rw[PO]
  go_enter func144,ntmps144
  iterate 2 go_step
  refine rp ?_;refine p_m ?_;simp only[pv];refine p_v _ (Zp _ _ rfl true rfl) (Za ?_);simp only[pv];go_wp2
  first|(go_ret;exact⟨rfl,sb⟩)|exact⟨rfl,_,results_none rfl _ _ _,rfl,sb⟩
 |false=>
  rw[Lt]
  go_enter func144,ntmps144
  iterate 2 go_step
  refine rp ?_;refine p_m ?_;simp only[pv];refine p_v _ (Zp _ _ rfl false rfl) (Za ?_);simp only[pv];iterate 3 go_step
  refine rp ?_;refine p_m ?_;simp only[pv];refine p_v _ (Zm _ [(0,_)] rfl [(0,.int .i64 n)] rfl _ (Ir n)) ?_;simp only[pv];refine p_v _ (AS _ _ rfl (by kernel_rfl) _ rfl) ?_;simp only[pv];refine DY (by rfl) (wrV n) (BM _ rfl _ _ rfl _) ?_;exact⟨rfl,rfl,sb⟩
theorem Y7 (w:World):
  Calls prog 143 #[.bool true] w fun e w'=>e= .returned (.tuple #[])/\Below w.heap.size w w':=by
 have sb:=Below.refl w.heap.size w
 go_enter func143,ntmps143
 refine rp ?_;refine p_m ?_;simp only[pv];refine p_c 144 func144 #[.bool true,.int .i64 1] (Tk true 1 _) ?_;intro z1 k;simp only[pv];replace sb:=kk sb k;clear k;refine Za ?_;go_wp2
 first|(go_ret;exact⟨rfl,sb⟩)|exact⟨rfl,_,results_none rfl _ _ _,rfl,sb⟩
theorem Yg (w:World):
  Calls prog 143 #[.bool false] w fun e w'=>e= .panicked (wrP 1)/\Below w.heap.size w w':=by
 have sb:=Below.refl w.heap.size w
 go_enter func143,ntmps143
 refine rp ?_;refine p_m ?_;simp only[pv];refine PL (by rfl) 144 _ _ rfl func144 (by kernel_rfl) #[.bool false,.int .i64 1] rfl (Tk false 1 _) ?_;intro z1 hb;exact⟨rfl,rfl,Zk sb (Nat.le_refl _) hb⟩
def Is (s:List UInt8):Bool:=decide (1<=s.length/\s.length<=8)
def opB (kd op:Int):Bool:=if kd=5∨kd=6 then decide (op=0)else decide (1<=op/\op<=1048576)
def zsB (sq cl:Int):Bool:=decide (sq=0/\cl=0)
def stB (sq cl:Int):Bool:=decide (1<=sq/\sq<=1099511627776/\1<=cl/\cl<=4)
def nlB (s:List UInt8):Bool:=decide (s=[])
def g32 (s:List UInt8):Bool:=decide ((s.length:Int)=32)
def brB (n m:Nat):Bool:=decide (n=0/\m=0)
def dlB (n m:Nat)(x:List UInt8):Bool:=decide (m=n/\x≠[])
theorem V6 (s:List UInt8)(w:World)(hs:s.length<9223372036854775808):
  Calls prog 45 #[.string ⟨s.toArray⟩] w fun e w'=>e= .returned (.bool (Is s))/\Below w.heap.size w w':=by
 by_cases h1:1<=s.length
 rotate_left
 ·rw[show Is s=false from decide_eq_false (by omega)]
  go_enter func45,ntmps45
  iterate 2 go_step
  refine rp ?_;refine p_v (.bool false) (fun _=>rfl) (Za ?_);simp only[pv];have sb:=Below.refl w.heap.size w;iterate 3 go_step
  refine rp ?_;refine p_m ?_;simp only[pv];refine p_v _ (YA _ _ rfl s rfl underlying9) ?_;simp only[pv];refine p_v _ (PM _ _ _ _ rfl (s.length:Nat) 1 rfl rfl false (decide_eq_false (by omega))) ?_;refine p_m ?_;refine p_s ?_;refine p_s ?_;refine p_s ?_;simp only[pv];refine p_k false (.bool false) ?_;refine p_a (Za ?_);simp only[pv];go_wp2;go_ret;exact⟨rfl,sb⟩
 by_cases h2:s.length<=8
 ·rw[show Is s=true from decide_eq_true ⟨h1,h2⟩]
  go_enter func45,ntmps45
  iterate 2 go_step
  refine rp ?_;refine p_v (.bool false) (fun _=>rfl) (Za ?_);simp only[pv];have sb:=Below.refl w.heap.size w;iterate 3 go_step
  refine rp ?_;refine p_m ?_;simp only[pv];refine p_v _ (YA _ _ rfl s rfl underlying9) ?_;simp only[pv];refine p_v _ (PM _ _ _ _ rfl (s.length:Nat) 1 rfl rfl true (decide_eq_true (by omega))) ?_;refine p_m ?_;refine p_m ?_;simp only[pv];refine p_v _ (YA _ _ rfl s rfl underlying9) ?_;simp only[pv];refine p_v _ (KE _ _ _ _ rfl (s.length:Nat) 8 rfl rfl true (decide_eq_true (by omega))) ?_;refine p_k true (.bool true) ?_;refine p_a (Za ?_);simp only[pv];go_wp2;go_ret;exact⟨rfl,sb⟩
 ·rw[show Is s=false from decide_eq_false (by omega)]
  go_enter func45,ntmps45
  iterate 2 go_step
  refine rp ?_;refine p_v (.bool false) (fun _=>rfl) (Za ?_);simp only[pv];have sb:=Below.refl w.heap.size w;iterate 3 go_step
  refine rp ?_;refine p_m ?_;simp only[pv];refine p_v _ (YA _ _ rfl s rfl underlying9) ?_;simp only[pv];refine p_v _ (PM _ _ _ _ rfl (s.length:Nat) 1 rfl rfl true (decide_eq_true (by omega))) ?_;refine p_m ?_;refine p_m ?_;simp only[pv];refine p_v _ (YA _ _ rfl s rfl underlying9) ?_;simp only[pv];refine p_v _ (KE _ _ _ _ rfl (s.length:Nat) 8 rfl rfl false (decide_eq_false (by omega))) ?_;refine p_k true (.bool false) ?_;refine p_a (Za ?_);simp only[pv];go_wp2;go_ret;exact⟨rfl,sb⟩
theorem Lw (kd op:Int)(w:World):
  Calls prog 145 #[.int .i64 kd,.int .i64 op] w fun e w'=>e= .returned (.bool (opB kd op))/\Below w.heap.size w w':=by
 by_cases h5:kd=5
 ·rw[show opB kd op=decide (op=0)from if_pos (.inl h5)]
  go_enter func145,ntmps145
  iterate 2 go_step
  refine rp ?_;refine p_v (.bool false) (fun _=>rfl) (Za ?_);simp only[pv];have sb:=Below.refl w.heap.size w;iterate 4 go_step
  refine rp ?_;refine p_m ?_;simp only[pv];refine p_v _ (Yy _ _ _ _ rfl .i64 kd 5 rfl rfl true (decide_eq_true (by omega))) ?_;refine p_m ?_;refine p_s ?_;refine p_s ?_;refine p_k true (.bool true) (Za ?_);simp only[pv];iterate 4 go_step
  refine rp ?_;refine p_m ?_;simp only[pv];refine p_v _ (Yy _ _ _ _ rfl .i64 op 0 rfl rfl _ rfl) ?_;refine p_a (Za ?_);simp only[pv];go_wp2;go_ret;exact⟨rfl,sb⟩
 by_cases h6:kd=6
 ·rw[show opB kd op=decide (op=0)from if_pos (.inr h6)]
  go_enter func145,ntmps145
  iterate 2 go_step
  refine rp ?_;refine p_v (.bool false) (fun _=>rfl) (Za ?_);simp only[pv];have sb:=Below.refl w.heap.size w;iterate 4 go_step
  refine rp ?_;refine p_m ?_;simp only[pv];refine p_v _ (Yy _ _ _ _ rfl .i64 kd 5 rfl rfl false (decide_eq_false (by omega))) ?_;refine p_m ?_;refine p_m ?_;simp only[pv];refine p_v _ (Yy _ _ _ _ rfl .i64 kd 6 rfl rfl true (decide_eq_true (by omega))) ?_;refine p_k false (.bool true) (Za ?_);simp only[pv];iterate 4 go_step
  refine rp ?_;refine p_m ?_;simp only[pv];refine p_v _ (Yy _ _ _ _ rfl .i64 op 0 rfl rfl _ rfl) ?_;refine p_a (Za ?_);simp only[pv];go_wp2;go_ret;exact⟨rfl,sb⟩
 rw[show opB kd op=decide (1<=op/\op<=1048576)from if_neg (by omega)];by_cases h1:1<=op
 rotate_left
 ·rw[decide_eq_false (show ¬(1<=op/\op<=1048576) by omega)]
  go_enter func145,ntmps145
  iterate 2 go_step
  refine rp ?_;refine p_v (.bool false) (fun _=>rfl) (Za ?_);simp only[pv];have sb:=Below.refl w.heap.size w;iterate 4 go_step
  refine rp ?_;refine p_m ?_;simp only[pv];refine p_v _ (Yy _ _ _ _ rfl .i64 kd 5 rfl rfl false (decide_eq_false (by omega))) ?_;refine p_m ?_;refine p_m ?_;simp only[pv];refine p_v _ (Yy _ _ _ _ rfl .i64 kd 6 rfl rfl false (decide_eq_false (by omega))) ?_;refine p_k false (.bool false) (Za ?_);simp only[pv];iterate 7 go_step
  refine rp ?_;refine p_m ?_;simp only[pv];refine p_v _ (PM _ _ _ _ rfl op 1 rfl rfl false (decide_eq_false (by omega))) ?_;refine p_m ?_;refine p_s ?_;refine p_s ?_;refine p_k false (.bool false) ?_;simp only[pv];refine p_a (Za ?_);simp only[pv];go_wp2;go_ret;exact⟨rfl,sb⟩
 by_cases h2:op<=1048576
 ·rw[decide_eq_true (show 1<=op/\op<=1048576 by omega)]
  go_enter func145,ntmps145
  iterate 2 go_step
  refine rp ?_;refine p_v (.bool false) (fun _=>rfl) (Za ?_);simp only[pv];have sb:=Below.refl w.heap.size w;iterate 4 go_step
  refine rp ?_;refine p_m ?_;simp only[pv];refine p_v _ (Yy _ _ _ _ rfl .i64 kd 5 rfl rfl false (decide_eq_false (by omega))) ?_;refine p_m ?_;refine p_m ?_;simp only[pv];refine p_v _ (Yy _ _ _ _ rfl .i64 kd 6 rfl rfl false (decide_eq_false (by omega))) ?_;refine p_k false (.bool false) (Za ?_);simp only[pv];iterate 7 go_step
  refine rp ?_;refine p_m ?_;simp only[pv];refine p_v _ (PM _ _ _ _ rfl op 1 rfl rfl true (decide_eq_true (by omega))) ?_;refine p_m ?_;refine p_m ?_;simp only[pv];refine p_v _ (KE _ _ _ _ rfl op 1048576 rfl rfl true (decide_eq_true (by omega))) ?_;refine p_k true (.bool true) ?_;refine p_a (Za ?_);simp only[pv];go_wp2;go_ret;exact⟨rfl,sb⟩
 ·rw[decide_eq_false (show ¬(1<=op/\op<=1048576) by omega)]
  go_enter func145,ntmps145
  iterate 2 go_step
  refine rp ?_;refine p_v (.bool false) (fun _=>rfl) (Za ?_);simp only[pv];have sb:=Below.refl w.heap.size w;iterate 4 go_step
  refine rp ?_;refine p_m ?_;simp only[pv];refine p_v _ (Yy _ _ _ _ rfl .i64 kd 5 rfl rfl false (decide_eq_false (by omega))) ?_;refine p_m ?_;refine p_m ?_;simp only[pv];refine p_v _ (Yy _ _ _ _ rfl .i64 kd 6 rfl rfl false (decide_eq_false (by omega))) ?_;refine p_k false (.bool false) (Za ?_);simp only[pv];iterate 7 go_step
  refine rp ?_;refine p_m ?_;simp only[pv];refine p_v _ (PM _ _ _ _ rfl op 1 rfl rfl true (decide_eq_true (by omega))) ?_;refine p_m ?_;refine p_m ?_;simp only[pv];refine p_v _ (KE _ _ _ _ rfl op 1048576 rfl rfl false (decide_eq_false (by omega))) ?_;refine p_k true (.bool false) ?_;refine p_a (Za ?_);simp only[pv];go_wp2;go_ret;exact⟨rfl,sb⟩
theorem Yo (sq cl:Int)(w:World):
  Calls prog 147 #[.agg (tsC sq cl)] w fun e w'=>e= .returned (.bool (stB sq cl))/\Below w.heap.size w w':=by
 by_cases h0:1<=sq
 rotate_left
 ·rw[show stB sq cl=false from decide_eq_false (by omega)]
  go_enter func147,ntmps147
  iterate 2 go_step
  refine rp ?_;refine ZD (by rfl) 51 _ rfl (tsC sq cl) rfl ?_;intro g1 z0 n0 r1 k;simp only[pv];have b1:w.heap.size<=g1:=n0;clear n0;have sb:=k_b k;clear k;refine p_v (.bool false) (fun _=>rfl) (Za ?_);simp only[pv];iterate 3 go_step
  refine rp ?_;refine p_v _ (Zb 51 _ 0 rfl g1 0 rfl _ underlying51 _ rfl 0 sizeOf3) ?_;simp only[pv];refine p_d 0 r1.r (.int .i64 sq) rfl isAgg3 ?_;simp only[pv];refine p_v _ (PM _ _ _ _ rfl sq 1 rfl rfl false (decide_eq_false (by omega))) ?_;refine p_m ?_;refine p_s ?_;refine p_s ?_;refine p_s ?_;simp only[pv];refine p_k false (.bool false) ?_;refine p_m ?_;refine p_s ?_;refine p_s ?_;refine p_s ?_;simp only[pv];refine p_k false (.bool false) ?_;refine p_m ?_;refine p_s ?_;refine p_s ?_;refine p_s ?_;simp only[pv];refine p_k false (.bool false) ?_;refine p_a (Za ?_);simp only[pv];go_wp2;go_ret;exact⟨rfl,sb⟩
 by_cases h1:sq<=1099511627776
 rotate_left
 ·rw[show stB sq cl=false from decide_eq_false (by omega)]
  go_enter func147,ntmps147
  iterate 2 go_step
  refine rp ?_;refine ZD (by rfl) 51 _ rfl (tsC sq cl) rfl ?_;intro g1 z0 n0 r1 k;simp only[pv];have b1:w.heap.size<=g1:=n0;clear n0;have sb:=k_b k;clear k;refine p_v (.bool false) (fun _=>rfl) (Za ?_);simp only[pv];iterate 3 go_step
  refine rp ?_;refine p_v _ (Zb 51 _ 0 rfl g1 0 rfl _ underlying51 _ rfl 0 sizeOf3) ?_;simp only[pv];refine p_d 0 r1.r (.int .i64 sq) rfl isAgg3 ?_;simp only[pv];refine p_v _ (PM _ _ _ _ rfl sq 1 rfl rfl true (decide_eq_true (by omega))) ?_;refine p_m ?_;simp only[pv];refine p_v _ (Zb 51 _ 0 rfl g1 0 rfl _ underlying51 _ rfl 0 sizeOf3) ?_;simp only[pv];refine p_d 0 r1.r (.int .i64 sq) rfl isAgg3 ?_;simp only[pv];refine p_v _ (KE _ _ _ _ rfl sq 1099511627776 rfl rfl false (decide_eq_false (by omega))) ?_;refine p_k true (.bool false) ?_;refine p_m ?_;refine p_s ?_;refine p_s ?_;simp only[pv];refine p_s ?_;refine p_k false (.bool false) ?_;refine p_m ?_;refine p_s ?_;refine p_s ?_;simp only[pv];refine p_s ?_;refine p_k false (.bool false) ?_;refine p_a (Za ?_);simp only[pv];go_wp2;go_ret;exact⟨rfl,sb⟩
 by_cases h2:1<=cl
 rotate_left
 ·rw[show stB sq cl=false from decide_eq_false (by omega)]
  go_enter func147,ntmps147
  iterate 2 go_step
  refine rp ?_;refine ZD (by rfl) 51 _ rfl (tsC sq cl) rfl ?_;intro g1 z0 n0 r1 k;simp only[pv];have b1:w.heap.size<=g1:=n0;clear n0;have sb:=k_b k;clear k;refine p_v (.bool false) (fun _=>rfl) (Za ?_);simp only[pv];iterate 3 go_step
  refine rp ?_;refine p_v _ (Zb 51 _ 0 rfl g1 0 rfl _ underlying51 _ rfl 0 sizeOf3) ?_;simp only[pv];refine p_d 0 r1.r (.int .i64 sq) rfl isAgg3 ?_;simp only[pv];refine p_v _ (PM _ _ _ _ rfl sq 1 rfl rfl true (decide_eq_true (by omega))) ?_;refine p_m ?_;simp only[pv];refine p_v _ (Zb 51 _ 0 rfl g1 0 rfl _ underlying51 _ rfl 0 sizeOf3) ?_;simp only[pv];refine p_d 0 r1.r (.int .i64 sq) rfl isAgg3 ?_;simp only[pv];refine p_v _ (KE _ _ _ _ rfl sq 1099511627776 rfl rfl true (decide_eq_true (by omega))) ?_;refine p_k true (.bool true) ?_;refine p_m ?_;simp only[pv];refine p_v _ (Zb 51 _ 1 rfl g1 0 rfl _ underlying51 _ rfl 0 sizeOf3) ?_;simp only[pv];refine p_d 1 r1.r (.int .i64 cl) rfl isAgg3 ?_;simp only[pv];refine p_v _ (PM _ _ _ _ rfl cl 1 rfl rfl false (decide_eq_false (by omega))) ?_;refine p_k true (.bool false) ?_;refine p_m ?_;refine p_s ?_;refine p_s ?_;simp only[pv];refine p_s ?_;refine p_k false (.bool false) ?_;refine p_a (Za ?_);simp only[pv];go_wp2;go_ret;exact⟨rfl,sb⟩
 by_cases h3:cl<=4
 rotate_left
 ·rw[show stB sq cl=false from decide_eq_false (by omega)]
  go_enter func147,ntmps147
  iterate 2 go_step
  refine rp ?_;refine ZD (by rfl) 51 _ rfl (tsC sq cl) rfl ?_;intro g1 z0 n0 r1 k;simp only[pv];have b1:w.heap.size<=g1:=n0;clear n0;have sb:=k_b k;clear k;refine p_v (.bool false) (fun _=>rfl) (Za ?_);simp only[pv];iterate 3 go_step
  refine rp ?_;refine p_v _ (Zb 51 _ 0 rfl g1 0 rfl _ underlying51 _ rfl 0 sizeOf3) ?_;simp only[pv];refine p_d 0 r1.r (.int .i64 sq) rfl isAgg3 ?_;simp only[pv];refine p_v _ (PM _ _ _ _ rfl sq 1 rfl rfl true (decide_eq_true (by omega))) ?_;refine p_m ?_;simp only[pv];refine p_v _ (Zb 51 _ 0 rfl g1 0 rfl _ underlying51 _ rfl 0 sizeOf3) ?_;simp only[pv];refine p_d 0 r1.r (.int .i64 sq) rfl isAgg3 ?_;simp only[pv];refine p_v _ (KE _ _ _ _ rfl sq 1099511627776 rfl rfl true (decide_eq_true (by omega))) ?_;refine p_k true (.bool true) ?_;refine p_m ?_;simp only[pv];refine p_v _ (Zb 51 _ 1 rfl g1 0 rfl _ underlying51 _ rfl 0 sizeOf3) ?_;simp only[pv];refine p_d 1 r1.r (.int .i64 cl) rfl isAgg3 ?_;simp only[pv];refine p_v _ (PM _ _ _ _ rfl cl 1 rfl rfl true (decide_eq_true (by omega))) ?_;refine p_k true (.bool true) ?_;refine p_m ?_;simp only[pv];refine p_v _ (Zb 51 _ 1 rfl g1 0 rfl _ underlying51 _ rfl 0 sizeOf3) ?_;simp only[pv];refine p_d 1 r1.r (.int .i64 cl) rfl isAgg3 ?_;simp only[pv];refine p_v _ (KE _ _ _ _ rfl cl 4 rfl rfl false (decide_eq_false (by omega))) ?_;refine p_k true (.bool false) ?_;refine p_a (Za ?_);simp only[pv];go_wp2;go_ret;exact⟨rfl,sb⟩
 rw[show stB sq cl=true from decide_eq_true ⟨h0,h1,h2,h3⟩]
 go_enter func147,ntmps147
 iterate 2 go_step
 refine rp ?_;refine ZD (by rfl) 51 _ rfl (tsC sq cl) rfl ?_;intro g1 z0 n0 r1 k;simp only[pv];have b1:w.heap.size<=g1:=n0;clear n0;have sb:=k_b k;clear k;refine p_v (.bool false) (fun _=>rfl) (Za ?_);simp only[pv];iterate 3 go_step
 refine rp ?_;refine p_v _ (Zb 51 _ 0 rfl g1 0 rfl _ underlying51 _ rfl 0 sizeOf3) ?_;simp only[pv];refine p_d 0 r1.r (.int .i64 sq) rfl isAgg3 ?_;simp only[pv];refine p_v _ (PM _ _ _ _ rfl sq 1 rfl rfl true (decide_eq_true (by omega))) ?_;refine p_m ?_;simp only[pv];refine p_v _ (Zb 51 _ 0 rfl g1 0 rfl _ underlying51 _ rfl 0 sizeOf3) ?_;simp only[pv];refine p_d 0 r1.r (.int .i64 sq) rfl isAgg3 ?_;simp only[pv];refine p_v _ (KE _ _ _ _ rfl sq 1099511627776 rfl rfl true (decide_eq_true (by omega))) ?_;refine p_k true (.bool true) ?_;refine p_m ?_;simp only[pv];refine p_v _ (Zb 51 _ 1 rfl g1 0 rfl _ underlying51 _ rfl 0 sizeOf3) ?_;simp only[pv];refine p_d 1 r1.r (.int .i64 cl) rfl isAgg3 ?_;simp only[pv];refine p_v _ (PM _ _ _ _ rfl cl 1 rfl rfl true (decide_eq_true (by omega))) ?_;refine p_k true (.bool true) ?_;refine p_m ?_;simp only[pv];refine p_v _ (Zb 51 _ 1 rfl g1 0 rfl _ underlying51 _ rfl 0 sizeOf3) ?_;simp only[pv];refine p_d 1 r1.r (.int .i64 cl) rfl isAgg3 ?_;simp only[pv];refine p_v _ (KE _ _ _ _ rfl cl 4 rfl rfl true (decide_eq_true (by omega))) ?_;refine p_k true (.bool true) ?_;refine p_a (Za ?_);simp only[pv];go_wp2;go_ret;exact⟨rfl,sb⟩
theorem O4:prog.underlying 53=some (.slice (prog.elem 53)):=by kernel_rfl
theorem Lx:prog.underlying 54=some (.slice (prog.elem 54)):=by kernel_rfl
theorem Yz (kd op:Int)(key:List UInt8)(sq cl:Int)(dg:List UInt8)(a1:Option Addr)(n c1:Nat)(a2:Option Addr)(m c2:Nat)(w:World):
  Calls prog 146 #[.agg (msC kd op key sq cl dg a1 n c1 a2 m c2)] w fun e w'=>e= .returned (.bool (brB n m))/\Below w.heap.size w w':=by
 by_cases h1:n=0
 rotate_left
 ·rw[show brB n m=false from decide_eq_false (by omega)]
  go_enter func146,ntmps146
  iterate 2 go_step
  refine rp ?_;refine ZD (by rfl) 56 _ rfl (msC kd op key sq cl dg a1 n c1 a2 m c2) rfl ?_;intro g1 z0 n0 r1 k;simp only[pv];have b1:w.heap.size<=g1:=n0;clear n0;have sb:=k_b k;clear k;refine p_v (.bool false) (fun _=>rfl) (Za ?_);simp only[pv];iterate 3 go_step
  refine rp ?_;refine p_v _ (Zb 56 _ 5 rfl g1 0 rfl _ underlying56 _ rfl 0 sizeOf53) ?_;simp only[pv];refine p_d 6 r1.r (.slice a1 n c1) rfl isAgg53 ?_;simp only[pv];refine p_v _ (n_l a1 n c1 O4) ?_;simp only[pv];refine p_v _ (Yy _ _ _ _ rfl .i64 (n:Nat) 0 rfl rfl false (decide_eq_false (by omega))) ?_;refine p_m ?_;refine p_s ?_;refine p_s ?_;refine p_s ?_;simp only[pv];refine p_s ?_;refine p_k false (.bool false) ?_;refine p_a (Za ?_);simp only[pv];go_wp2;go_ret;exact⟨rfl,sb⟩
 by_cases h2:m=0
 ·rw[show brB n m=true from decide_eq_true ⟨h1,h2⟩]
  go_enter func146,ntmps146
  iterate 2 go_step
  refine rp ?_;refine ZD (by rfl) 56 _ rfl (msC kd op key sq cl dg a1 n c1 a2 m c2) rfl ?_;intro g1 z0 n0 r1 k;simp only[pv];have b1:w.heap.size<=g1:=n0;clear n0;have sb:=k_b k;clear k;refine p_v (.bool false) (fun _=>rfl) (Za ?_);simp only[pv];iterate 3 go_step
  refine rp ?_;refine p_v _ (Zb 56 _ 5 rfl g1 0 rfl _ underlying56 _ rfl 0 sizeOf53) ?_;simp only[pv];refine p_d 6 r1.r (.slice a1 n c1) rfl isAgg53 ?_;simp only[pv];refine p_v _ (n_l a1 n c1 O4) ?_;simp only[pv];refine p_v _ (Yy _ _ _ _ rfl .i64 (n:Nat) 0 rfl rfl true (decide_eq_true (by omega))) ?_;refine p_m ?_;simp only[pv];refine p_v _ (Zb 56 _ 6 rfl g1 0 rfl _ underlying56 _ rfl 0 sizeOf54) ?_;simp only[pv];refine p_d 7 r1.r (.slice a2 m c2) rfl isAgg54 ?_;simp only[pv];refine p_v _ (n_l a2 m c2 Lx) ?_;simp only[pv];refine p_v _ (Yy _ _ _ _ rfl .i64 (m:Nat) 0 rfl rfl true (decide_eq_true (by omega))) ?_;refine p_k true (.bool true) ?_;refine p_a (Za ?_);simp only[pv];go_wp2;go_ret;exact⟨rfl,sb⟩
 ·rw[show brB n m=false from decide_eq_false (by omega)]
  go_enter func146,ntmps146
  iterate 2 go_step
  refine rp ?_;refine ZD (by rfl) 56 _ rfl (msC kd op key sq cl dg a1 n c1 a2 m c2) rfl ?_;intro g1 z0 n0 r1 k;simp only[pv];have b1:w.heap.size<=g1:=n0;clear n0;have sb:=k_b k;clear k;refine p_v (.bool false) (fun _=>rfl) (Za ?_);simp only[pv];iterate 3 go_step
  refine rp ?_;refine p_v _ (Zb 56 _ 5 rfl g1 0 rfl _ underlying56 _ rfl 0 sizeOf53) ?_;simp only[pv];refine p_d 6 r1.r (.slice a1 n c1) rfl isAgg53 ?_;simp only[pv];refine p_v _ (n_l a1 n c1 O4) ?_;simp only[pv];refine p_v _ (Yy _ _ _ _ rfl .i64 (n:Nat) 0 rfl rfl true (decide_eq_true (by omega))) ?_;refine p_m ?_;simp only[pv];refine p_v _ (Zb 56 _ 6 rfl g1 0 rfl _ underlying56 _ rfl 0 sizeOf54) ?_;simp only[pv];refine p_d 7 r1.r (.slice a2 m c2) rfl isAgg54 ?_;simp only[pv];refine p_v _ (n_l a2 m c2 Lx) ?_;simp only[pv];refine p_v _ (Yy _ _ _ _ rfl .i64 (m:Nat) 0 rfl rfl false (decide_eq_false (by omega))) ?_;refine p_k true (.bool false) ?_;refine p_a (Za ?_);simp only[pv];go_wp2;go_ret;exact⟨rfl,sb⟩
def MtA (w:World)(a1:Option Addr)(n:Nat)(N:Nat->Nat)(M:Nat->Nat->Nat):Prop:= ∃(S:Nat->Value) (gb ob:Nat) (bcs:Array Value) (tb:TypeId),VsAt w a1 n S gb ob bcs tb/\ ∀i,i<n->DF w (S i) (N i) (M i)
theorem MtA.below {w w2:World}{a1:Option Addr}{n:Nat}{N:Nat->Nat}{M:Nat->Nat->Nat}(h:MtA w a1 n N M)(hb:Below w.heap.size w w2):MtA w2 a1 n N M:=by
 obtain⟨S,gb,ob,bcs,tb,h1,h2⟩:=h;exact⟨S,gb,ob,bcs,tb,h1.below hb,fun i hi=>(h2 i hi).below hb⟩
def YsA (w:World)(a2:Option Addr)(m:Nat)(Y:Nat->Nat):Prop:= ∃(gb ob:Nat) (bcs:Array Value) (tb:TypeId),NatsAt w a2 m Y gb ob bcs tb
theorem YsA.below {w w2:World}{a2:Option Addr}{m:Nat}{Y:Nat->Nat}(h:YsA w a2 m Y)(hb:Below w.heap.size w w2):YsA w2 a2 m Y:=by
 obtain⟨gb,ob,bcs,tb,h1⟩:=h;exact⟨gb,ob,bcs,tb,h1.below hb⟩
theorem FV (a1:Option Addr)(n c1:Nat)(N:Nat->Nat)(M:Nat->Nat->Nat)(w:World)(hn:n<4611686018427387904)(h:MtA w a1 n N M):
  Calls prog 195 #[.slice a1 n c1] w (Rt (.string ⟨(xmB n N M).toArray⟩) w):=by
 obtain⟨S,gb,ob,bcs,tb,h1,h2⟩:=h;exact O1 a1 n c1 S gb ob bcs tb N M w hn h1 h2
theorem O5 (kd op:Int)(key:List UInt8)(sq cl:Int)(dg:List UInt8)(a1:Option Addr)(n c1:Nat)(a2:Option Addr)(m c2:Nat)(N:Nat->Nat)(M:Nat->Nat->Nat)(X:List UInt8)(w:World)(hX:xmB n N M=X)(hn:n<4611686018427387904)(hM:MtA w a1 n N M):
  Calls prog 148 #[.agg (msC kd op key sq cl dg a1 n c1 a2 m c2)] w fun e w'=>e= .returned (.bool (dlB n m X))/\Below w.heap.size w w':=by
 have hB: ∀w',Below w.heap.size w w'->Calls prog 195 #[.slice a1 n c1] w' (Rt (.string ⟨X.toArray⟩) w'):=fun w' hb=>by
  have:=FV a1 n c1 N M w' hn (hM.below hb);rw[hX]at this;exact this
 clear hX hM;by_cases h1:m=n
 rotate_left
 ·rw[show dlB n m X=false from decide_eq_false (fun h=>h1 h.1)]
  go_enter func148,ntmps148
  iterate 2 go_step
  refine rp ?_;refine ZD (by rfl) 56 _ rfl (msC kd op key sq cl dg a1 n c1 a2 m c2) rfl ?_;intro g1 z0 n0 r1 k;simp only[pv];have b1:w.heap.size<=g1:=n0;clear n0;have sb:=k_b k;clear k;refine p_v (.bool false) (fun _=>rfl) (Za ?_);simp only[pv];iterate 3 go_step
  refine rp ?_;refine p_v _ (Zb 56 _ 6 rfl g1 0 rfl _ underlying56 _ rfl 0 sizeOf54) ?_;simp only[pv];refine p_d 7 r1.r (.slice a2 m c2) rfl isAgg54 ?_;simp only[pv];refine p_v _ (n_l a2 m c2 Lx) ?_;simp only[pv];refine p_v _ (Zb 56 _ 5 rfl g1 0 rfl _ underlying56 _ rfl 0 sizeOf53) ?_;simp only[pv];refine p_d 6 r1.r (.slice a1 n c1) rfl isAgg53 ?_;simp only[pv];refine p_v _ (n_l a1 n c1 O4) ?_;simp only[pv];refine p_v _ (Yy _ _ _ _ rfl .i64 (m:Nat) (n:Nat) rfl rfl false (decide_eq_false (by omega))) ?_;refine p_m ?_;refine p_s ?_;refine p_s ?_;refine p_s ?_;simp only[pv];refine p_s ?_;refine p_k false (.bool false) ?_;refine p_a (Za ?_);simp only[pv];go_wp2;go_ret;exact⟨rfl,sb⟩
 by_cases h2:X=[]
 ·rw[show dlB n m X=false from decide_eq_false (fun h=>h.2 h2)]
  go_enter func148,ntmps148
  iterate 2 go_step
  refine rp ?_;refine ZD (by rfl) 56 _ rfl (msC kd op key sq cl dg a1 n c1 a2 m c2) rfl ?_;intro g1 z0 n0 r1 k;simp only[pv];have b1:w.heap.size<=g1:=n0;clear n0;have sb:=k_b k;clear k;refine p_v (.bool false) (fun _=>rfl) (Za ?_);simp only[pv];iterate 3 go_step
  refine rp ?_;refine p_v _ (Zb 56 _ 6 rfl g1 0 rfl _ underlying56 _ rfl 0 sizeOf54) ?_;simp only[pv];refine p_d 7 r1.r (.slice a2 m c2) rfl isAgg54 ?_;simp only[pv];refine p_v _ (n_l a2 m c2 Lx) ?_;simp only[pv];refine p_v _ (Zb 56 _ 5 rfl g1 0 rfl _ underlying56 _ rfl 0 sizeOf53) ?_;simp only[pv];refine p_d 6 r1.r (.slice a1 n c1) rfl isAgg53 ?_;simp only[pv];refine p_v _ (n_l a1 n c1 O4) ?_;simp only[pv];refine p_v _ (Yy _ _ _ _ rfl .i64 (m:Nat) (n:Nat) rfl rfl true (decide_eq_true (by omega))) ?_;refine p_m ?_;simp only[pv];refine p_v _ (Zb 56 _ 5 rfl g1 0 rfl _ underlying56 _ rfl 0 sizeOf53) ?_;simp only[pv];refine p_d 6 r1.r (.slice a1 n c1) rfl isAgg53 ?_;simp only[pv];refine p_c 195 func195 #[.slice a1 n c1] (hB _ sb) ?_;intro z1010 k;simp only[pv];replace r1:=k.ro r1;replace sb:=kk sb k;clear k;refine p_v _ (OL _ _ _ _ rfl X [] rfl rfl false (by simp[h2])) ?_;refine p_k true (.bool false) ?_;refine p_a (Za ?_);simp only[pv];go_wp2;go_ret;exact⟨rfl,sb⟩
 ·rw[show dlB n m X=true from decide_eq_true ⟨h1,h2⟩]
  go_enter func148,ntmps148
  iterate 2 go_step
  refine rp ?_;refine ZD (by rfl) 56 _ rfl (msC kd op key sq cl dg a1 n c1 a2 m c2) rfl ?_;intro g1 z0 n0 r1 k;simp only[pv];have b1:w.heap.size<=g1:=n0;clear n0;have sb:=k_b k;clear k;refine p_v (.bool false) (fun _=>rfl) (Za ?_);simp only[pv];iterate 3 go_step
  refine rp ?_;refine p_v _ (Zb 56 _ 6 rfl g1 0 rfl _ underlying56 _ rfl 0 sizeOf54) ?_;simp only[pv];refine p_d 7 r1.r (.slice a2 m c2) rfl isAgg54 ?_;simp only[pv];refine p_v _ (n_l a2 m c2 Lx) ?_;simp only[pv];refine p_v _ (Zb 56 _ 5 rfl g1 0 rfl _ underlying56 _ rfl 0 sizeOf53) ?_;simp only[pv];refine p_d 6 r1.r (.slice a1 n c1) rfl isAgg53 ?_;simp only[pv];refine p_v _ (n_l a1 n c1 O4) ?_;simp only[pv];refine p_v _ (Yy _ _ _ _ rfl .i64 (m:Nat) (n:Nat) rfl rfl true (decide_eq_true (by omega))) ?_;refine p_m ?_;simp only[pv];refine p_v _ (Zb 56 _ 5 rfl g1 0 rfl _ underlying56 _ rfl 0 sizeOf53) ?_;simp only[pv];refine p_d 6 r1.r (.slice a1 n c1) rfl isAgg53 ?_;simp only[pv];refine p_c 195 func195 #[.slice a1 n c1] (hB _ sb) ?_;intro z1010 k;simp only[pv];replace r1:=k.ro r1;replace sb:=kk sb k;clear k;refine p_v _ (OL _ _ _ _ rfl X [] rfl rfl true (by simp[h2])) ?_;refine p_k true (.bool true) ?_;refine p_a (Za ?_);simp only[pv];go_wp2;go_ret;exact⟨rfl,sb⟩
def Wg (kd sq cl:Int)(dg:List UInt8)(br dl:Bool):Bool:=
 if kd=1∨kd=2 then zsB sq cl&&(nlB dg&&br)
 else if kd=3 then(if zsB sq cl then nlB dg&&br else stB sq cl&&(g32 dg&&(br||dl)))
 else if kd=4∨kd=8 then stB sq cl&&(nlB dg&&dl)
 else if kd=5∨kd=6 then stB sq cl&&(g32 dg&&br)
 else if kd=7 then stB sq cl&&(nlB dg&&br)
 else false
def wmB (kd op:Int)(key:List UInt8)(sq cl:Int)(dg:List UInt8)(br dl:Bool):Bool:=Is key&&(opB kd op&&Wg kd sq cl dg br dl)
theorem YK {kd op:Int}{key:List UInt8}{sq cl:Int}{dg:List UInt8}{br dl:Bool}(hk:Is key=true)(hop:opB kd op=true):wmB kd op key sq cl dg br dl=Wg kd sq cl dg br dl:=by unfold wmB;rw[hk,hop];rfl
theorem O6 (kd op:Int)(key:List UInt8)(sq cl:Int)(dg:List UInt8)(a1:Option Addr)(n c1:Nat)(a2:Option Addr)(m c2:Nat)(X:List UInt8)(w:World)(hkl:key.length<9223372036854775808)
  (hD: ∀w',Below w.heap.size w w'->Calls prog 148 #[.agg (msC kd op key sq cl dg a1 n c1 a2 m c2)] w' (Rt (.bool (dlB n m X)) w')):
  Calls prog 95 #[.agg (msC kd op key sq cl dg a1 n c1 a2 m c2)] w fun e w'=>e=FU (wmB kd op key sq cl dg (brB n m) (dlB n m X)) 1/\Below w.heap.size w w':=by
 obtain⟨W0,hW0⟩: ∃b,wmB kd op key sq cl dg (brB n m) (dlB n m X)=b:=⟨_,rfl⟩
 rw[hW0]
 go_enter func95,ntmps95
 iterate 2 go_step
 refine rp ?_;refine ZD (by rfl) 56 _ rfl (msC kd op key sq cl dg a1 n c1 a2 m c2) rfl ?_;intro g1 z0 n0 r1 k;simp only[pv];have b1:w.heap.size<=g1:=n0;clear n0;have sb:=k_b k;clear k;refine Za ?_;iterate 3 go_step
 refine rp ?_;refine YI (by rfl) (.inr rfl) rfl ?_;simp only[pv];refine Za ?_
 cases hk:Is key with
 |false=>
  have hv:W0=false:=by rw[<-hW0];simp[wmB,hk]
  iterate 3 go_step
  refine rp ?_;refine p_m ?_;simp only[pv];refine p_v _ (Zb 56 _ 2 rfl g1 0 rfl _ underlying56 _ rfl 0 sizeOf9) ?_;simp only[pv];refine p_d 2 r1.r (.string ⟨key.toArray⟩) rfl isAgg9 ?_;simp only[pv];refine p_c 45 func45 #[.string ⟨key.toArray⟩] ((V6 key _ hkl).mono fun e w' ⟨he,hb⟩=>⟨he.trans (by rw[hk]),hb⟩) ?_;intro z2003 k;simp only[pv];replace r1:=k.ro r1;replace sb:=kk sb k;clear k;refine ZR (by rfl) 143 _ _ _ rfl #[] rfl func143 (by kernel_rfl) #[.bool false] rfl (Yg _) ?_;intro z2004 hb;exact⟨rfl,by rw[hv];rfl,Zk sb (Nat.le_refl _) hb⟩
 |true=>
  iterate 3 go_step
  refine rp ?_;refine p_m ?_;simp only[pv];refine p_v _ (Zb 56 _ 2 rfl g1 0 rfl _ underlying56 _ rfl 0 sizeOf9) ?_;simp only[pv];refine p_d 2 r1.r (.string ⟨key.toArray⟩) rfl isAgg9 ?_;simp only[pv];refine p_c 45 func45 #[.string ⟨key.toArray⟩] ((V6 key _ hkl).mono fun e w' ⟨he,hb⟩=>⟨he.trans (by rw[hk]),hb⟩) ?_;intro z2003 k;simp only[pv];replace r1:=k.ro r1;replace sb:=kk sb k;clear k;refine Yd (by rfl) (143) _ _ _ rfl (#[]) rfl (func143) (by kernel_rfl) #[.bool true] rfl _ (Y7 _) ?_;intro z2004 k;simp only[pv];replace r1:=k.ro r1;replace sb:=kk sb k;clear k;refine Za ?_
  cases hop:opB kd op with
  |false=>
   have hv:W0=false:=by rw[<-hW0];simp[wmB,hop]
   iterate 3 go_step
   refine rp ?_;refine p_m ?_;simp only[pv];refine p_v _ (Zb 56 _ 0 rfl g1 0 rfl _ underlying56 _ rfl 0 sizeOf3) ?_;simp only[pv];refine p_d 0 r1.r (.int .i64 kd) rfl isAgg3 ?_;simp only[pv];refine p_v _ (Zb 56 _ 1 rfl g1 0 rfl _ underlying56 _ rfl 0 sizeOf3) ?_;simp only[pv];refine p_d 1 r1.r (.int .i64 op) rfl isAgg3 ?_;simp only[pv];refine p_c 145 func145 #[.int .i64 kd,.int .i64 op] ((Lw kd op _).mono fun e w' ⟨he,hb⟩=>⟨he.trans (by rw[hop]),hb⟩) ?_;intro z3005 k;simp only[pv];replace r1:=k.ro r1;replace sb:=kk sb k;clear k;refine ZR (by rfl) 143 _ _ _ rfl #[] rfl func143 (by kernel_rfl) #[.bool false] rfl (Yg _) ?_;intro z3006 hb;exact⟨rfl,by rw[hv];rfl,Zk sb (Nat.le_refl _) hb⟩
  |true=>
   iterate 3 go_step
   refine rp ?_;refine p_m ?_;simp only[pv];refine p_v _ (Zb 56 _ 0 rfl g1 0 rfl _ underlying56 _ rfl 0 sizeOf3) ?_;simp only[pv];refine p_d 0 r1.r (.int .i64 kd) rfl isAgg3 ?_;simp only[pv];refine p_v _ (Zb 56 _ 1 rfl g1 0 rfl _ underlying56 _ rfl 0 sizeOf3) ?_;simp only[pv];refine p_d 1 r1.r (.int .i64 op) rfl isAgg3 ?_;simp only[pv];refine p_c 145 func145 #[.int .i64 kd,.int .i64 op] ((Lw kd op _).mono fun e w' ⟨he,hb⟩=>⟨he.trans (by rw[hop]),hb⟩) ?_;intro z3005 k;simp only[pv];replace r1:=k.ro r1;replace sb:=kk sb k;clear k;refine Yd (by rfl) (143) _ _ _ rfl (#[]) rfl (func143) (by kernel_rfl) #[.bool true] rfl _ (Y7 _) ?_;intro z3006 k;simp only[pv];replace r1:=k.ro r1;replace sb:=kk sb k;clear k;refine Za ?_;iterate 3 go_step
   refine rp ?_;refine p_v _ (Zb 56 _ 0 rfl g1 0 rfl _ underlying56 _ rfl 0 sizeOf3) ?_;simp only[pv];refine p_d 0 r1.r (.int .i64 kd) rfl isAgg3 (Za ?_);simp only[pv];by_cases h1:kd=1
   ·skip
    iterate 5 go_step
    refine rp ?_;refine p_v _ (Yy _ _ _ _ rfl .i64 kd 1 rfl rfl true (decide_eq_true (by omega))) ?_;refine p_a (Za ?_);simp only[pv]
    cases hzs:zsB sq cl with
    |true=>
     cases hnl:nlB dg with
     |true=>
      cases hbr:brB n m with
      |true=>
       have hv:W0=true:=by rw[<-hW0,YK hk hop];simp[Wg,h1,hzs,hnl,hbr]
       iterate 7 go_step
       refine rp ?_;refine p_m ?_;simp only[pv];refine p_v _ (Zb 56 _ 3 rfl g1 0 rfl _ underlying56 _ rfl 1 sizeOf51) ?_;simp only[pv];refine Zf (by rfl) 51 _ rfl _ (3) rfl r1.r (tsC sq cl) (YR _ _ _ _ _ _ _ _ _ _ _ _) _ underlying51 rfl Zz ?_;simp only[pv];refine p_v _ (Zm _ [] rfl [] rfl _ Z1) ?_;simp only[pv];refine p_v _ (Yn _ _ _ rfl sq cl 0 0 rfl rfl true hzs) ?_;refine p_m ?_;simp only[pv];refine p_v _ (Zb 56 _ 4 rfl g1 0 rfl _ underlying56 _ rfl 0 sizeOf9) ?_;simp only[pv];refine p_d 5 r1.r (.string ⟨dg.toArray⟩) rfl isAgg9 ?_;simp only[pv];refine p_v _ (X4 _ _ _ _ rfl dg [] rfl rfl true hnl) ?_;refine p_k true (.bool true) ?_;refine p_m ?_;simp only[pv];refine Zf (by rfl) 56 _ rfl _ (0) rfl r1.r (msC kd op key sq cl dg a1 n c1 a2 m c2) (Zu _) _ underlying56 rfl ZP ?_;simp only[pv];refine p_c 146 func146 #[.agg (msC kd op key sq cl dg a1 n c1 a2 m c2)] ((Yz kd op key sq cl dg a1 n c1 a2 m c2 _).mono fun e w' ⟨he,hb⟩=>⟨he.trans (by rw[hbr]),hb⟩) ?_;intro z8012 k;simp only[pv];replace r1:=k.ro r1;replace sb:=kk sb k;clear k;refine p_k true (.bool true) ?_;simp only[pv];refine Yd (by rfl) (143) _ _ _ rfl (#[]) rfl (func143) (by kernel_rfl) #[.bool true] rfl _ (Y7 _) ?_;intro z8014 k;simp only[pv];replace r1:=k.ro r1;replace sb:=kk sb k;clear k;refine Za ?_;go_wp2
       first|(go_ret;exact⟨by rw[hv];rfl,sb⟩)|exact⟨rfl,_,results_none rfl _ _ _,by rw[hv];rfl,sb⟩
      |false=>
       have hv:W0=false:=by rw[<-hW0,YK hk hop];simp[Wg,h1,hzs,hnl,hbr]
       iterate 7 go_step
       refine rp ?_;refine p_m ?_;simp only[pv];refine p_v _ (Zb 56 _ 3 rfl g1 0 rfl _ underlying56 _ rfl 1 sizeOf51) ?_;simp only[pv];refine Zf (by rfl) 51 _ rfl _ (3) rfl r1.r (tsC sq cl) (YR _ _ _ _ _ _ _ _ _ _ _ _) _ underlying51 rfl Zz ?_;simp only[pv];refine p_v _ (Zm _ [] rfl [] rfl _ Z1) ?_;simp only[pv];refine p_v _ (Yn _ _ _ rfl sq cl 0 0 rfl rfl true hzs) ?_;refine p_m ?_;simp only[pv];refine p_v _ (Zb 56 _ 4 rfl g1 0 rfl _ underlying56 _ rfl 0 sizeOf9) ?_;simp only[pv];refine p_d 5 r1.r (.string ⟨dg.toArray⟩) rfl isAgg9 ?_;simp only[pv];refine p_v _ (X4 _ _ _ _ rfl dg [] rfl rfl true hnl) ?_;refine p_k true (.bool true) ?_;refine p_m ?_;simp only[pv];refine Zf (by rfl) 56 _ rfl _ (0) rfl r1.r (msC kd op key sq cl dg a1 n c1 a2 m c2) (Zu _) _ underlying56 rfl ZP ?_;simp only[pv];refine p_c 146 func146 #[.agg (msC kd op key sq cl dg a1 n c1 a2 m c2)] ((Yz kd op key sq cl dg a1 n c1 a2 m c2 _).mono fun e w' ⟨he,hb⟩=>⟨he.trans (by rw[hbr]),hb⟩) ?_;intro z8012 k;simp only[pv];replace r1:=k.ro r1;replace sb:=kk sb k;clear k;refine p_k true (.bool false) ?_;simp only[pv];refine ZR (by rfl) 143 _ _ _ rfl #[] rfl func143 (by kernel_rfl) #[.bool false] rfl (Yg _) ?_;intro z8014 hb;exact⟨rfl,by rw[hv];rfl,Zk sb (Nat.le_refl _) hb⟩
     |false=>
      have hv:W0=false:=by rw[<-hW0,YK hk hop];simp[Wg,h1,hzs,hnl]
      iterate 7 go_step
      refine rp ?_;refine p_m ?_;simp only[pv];refine p_v _ (Zb 56 _ 3 rfl g1 0 rfl _ underlying56 _ rfl 1 sizeOf51) ?_;simp only[pv];refine Zf (by rfl) 51 _ rfl _ (3) rfl r1.r (tsC sq cl) (YR _ _ _ _ _ _ _ _ _ _ _ _) _ underlying51 rfl Zz ?_;simp only[pv];refine p_v _ (Zm _ [] rfl [] rfl _ Z1) ?_;simp only[pv];refine p_v _ (Yn _ _ _ rfl sq cl 0 0 rfl rfl true hzs) ?_;refine p_m ?_;simp only[pv];refine p_v _ (Zb 56 _ 4 rfl g1 0 rfl _ underlying56 _ rfl 0 sizeOf9) ?_;simp only[pv];refine p_d 5 r1.r (.string ⟨dg.toArray⟩) rfl isAgg9 ?_;simp only[pv];refine p_v _ (X4 _ _ _ _ rfl dg [] rfl rfl false hnl) ?_;refine p_k true (.bool false) ?_;refine p_m ?_;refine p_s ?_;refine p_s ?_;simp only[pv];refine p_k false (.bool false) ?_;simp only[pv];refine ZR (by rfl) 143 _ _ _ rfl #[] rfl func143 (by kernel_rfl) #[.bool false] rfl (Yg _) ?_;intro z8014 hb;exact⟨rfl,by rw[hv];rfl,Zk sb (Nat.le_refl _) hb⟩
    |false=>
     have hv:W0=false:=by rw[<-hW0,YK hk hop];simp[Wg,h1,hzs]
     iterate 7 go_step
     refine rp ?_;refine p_m ?_;simp only[pv];refine p_v _ (Zb 56 _ 3 rfl g1 0 rfl _ underlying56 _ rfl 1 sizeOf51) ?_;simp only[pv];refine Zf (by rfl) 51 _ rfl _ (3) rfl r1.r (tsC sq cl) (YR _ _ _ _ _ _ _ _ _ _ _ _) _ underlying51 rfl Zz ?_;simp only[pv];refine p_v _ (Zm _ [] rfl [] rfl _ Z1) ?_;simp only[pv];refine p_v _ (Yn _ _ _ rfl sq cl 0 0 rfl rfl false hzs) ?_;refine p_m ?_;refine p_s ?_;refine p_s ?_;refine p_s ?_;simp only[pv];refine p_k false (.bool false) ?_;refine p_m ?_;refine p_s ?_;refine p_s ?_;refine p_k false (.bool false) ?_;simp only[pv];refine ZR (by rfl) 143 _ _ _ rfl #[] rfl func143 (by kernel_rfl) #[.bool false] rfl (Yg _) ?_;intro z8014 hb;exact⟨rfl,by rw[hv];rfl,Zk sb (Nat.le_refl _) hb⟩
   iterate 5 go_step
   refine rp ?_;refine p_v _ (Yy _ _ _ _ rfl .i64 kd 1 rfl rfl false (decide_eq_false (by omega))) ?_;refine p_a (Za ?_);simp only[pv];by_cases h2:kd=2
   ·skip
    iterate 3 go_step
    refine rp ?_;refine p_v _ (Yy _ _ _ _ rfl .i64 kd 2 rfl rfl true (decide_eq_true (by omega))) ?_;refine p_a (Za ?_);simp only[pv]
    cases hzs:zsB sq cl with
    |true=>
     cases hnl:nlB dg with
     |true=>
      cases hbr:brB n m with
      |true=>
       have hv:W0=true:=by rw[<-hW0,YK hk hop];simp[Wg,h2,hzs,hnl,hbr]
       iterate 3 go_step
       refine rp ?_;refine p_m ?_;simp only[pv];refine p_v _ (Zb 56 _ 3 rfl g1 0 rfl _ underlying56 _ rfl 1 sizeOf51) ?_;simp only[pv];refine Zf (by rfl) 51 _ rfl _ (3) rfl r1.r (tsC sq cl) (YR _ _ _ _ _ _ _ _ _ _ _ _) _ underlying51 rfl Zz ?_;simp only[pv];refine p_v _ (Zm _ [] rfl [] rfl _ Z1) ?_;simp only[pv];refine p_v _ (Yn _ _ _ rfl sq cl 0 0 rfl rfl true hzs) ?_;refine p_m ?_;simp only[pv];refine p_v _ (Zb 56 _ 4 rfl g1 0 rfl _ underlying56 _ rfl 0 sizeOf9) ?_;simp only[pv];refine p_d 5 r1.r (.string ⟨dg.toArray⟩) rfl isAgg9 ?_;simp only[pv];refine p_v _ (X4 _ _ _ _ rfl dg [] rfl rfl true hnl) ?_;refine p_k true (.bool true) ?_;refine p_m ?_;simp only[pv];refine Zf (by rfl) 56 _ rfl _ (0) rfl r1.r (msC kd op key sq cl dg a1 n c1 a2 m c2) (Zu _) _ underlying56 rfl ZP ?_;simp only[pv];refine p_c 146 func146 #[.agg (msC kd op key sq cl dg a1 n c1 a2 m c2)] ((Yz kd op key sq cl dg a1 n c1 a2 m c2 _).mono fun e w' ⟨he,hb⟩=>⟨he.trans (by rw[hbr]),hb⟩) ?_;intro z8012 k;simp only[pv];replace r1:=k.ro r1;replace sb:=kk sb k;clear k;refine p_k true (.bool true) ?_;simp only[pv];refine Yd (by rfl) (143) _ _ _ rfl (#[]) rfl (func143) (by kernel_rfl) #[.bool true] rfl _ (Y7 _) ?_;intro z8014 k;simp only[pv];replace r1:=k.ro r1;replace sb:=kk sb k;clear k;refine Za ?_;go_wp2
       first|(go_ret;exact⟨by rw[hv];rfl,sb⟩)|exact⟨rfl,_,results_none rfl _ _ _,by rw[hv];rfl,sb⟩
      |false=>
       have hv:W0=false:=by rw[<-hW0,YK hk hop];simp[Wg,h2,hzs,hnl,hbr]
       iterate 3 go_step
       refine rp ?_;refine p_m ?_;simp only[pv];refine p_v _ (Zb 56 _ 3 rfl g1 0 rfl _ underlying56 _ rfl 1 sizeOf51) ?_;simp only[pv];refine Zf (by rfl) 51 _ rfl _ (3) rfl r1.r (tsC sq cl) (YR _ _ _ _ _ _ _ _ _ _ _ _) _ underlying51 rfl Zz ?_;simp only[pv];refine p_v _ (Zm _ [] rfl [] rfl _ Z1) ?_;simp only[pv];refine p_v _ (Yn _ _ _ rfl sq cl 0 0 rfl rfl true hzs) ?_;refine p_m ?_;simp only[pv];refine p_v _ (Zb 56 _ 4 rfl g1 0 rfl _ underlying56 _ rfl 0 sizeOf9) ?_;simp only[pv];refine p_d 5 r1.r (.string ⟨dg.toArray⟩) rfl isAgg9 ?_;simp only[pv];refine p_v _ (X4 _ _ _ _ rfl dg [] rfl rfl true hnl) ?_;refine p_k true (.bool true) ?_;refine p_m ?_;simp only[pv];refine Zf (by rfl) 56 _ rfl _ (0) rfl r1.r (msC kd op key sq cl dg a1 n c1 a2 m c2) (Zu _) _ underlying56 rfl ZP ?_;simp only[pv];refine p_c 146 func146 #[.agg (msC kd op key sq cl dg a1 n c1 a2 m c2)] ((Yz kd op key sq cl dg a1 n c1 a2 m c2 _).mono fun e w' ⟨he,hb⟩=>⟨he.trans (by rw[hbr]),hb⟩) ?_;intro z8012 k;simp only[pv];replace r1:=k.ro r1;replace sb:=kk sb k;clear k;refine p_k true (.bool false) ?_;simp only[pv];refine ZR (by rfl) 143 _ _ _ rfl #[] rfl func143 (by kernel_rfl) #[.bool false] rfl (Yg _) ?_;intro z8014 hb;exact⟨rfl,by rw[hv];rfl,Zk sb (Nat.le_refl _) hb⟩
     |false=>
      have hv:W0=false:=by rw[<-hW0,YK hk hop];simp[Wg,h2,hzs,hnl]
      iterate 3 go_step
      refine rp ?_;refine p_m ?_;simp only[pv];refine p_v _ (Zb 56 _ 3 rfl g1 0 rfl _ underlying56 _ rfl 1 sizeOf51) ?_;simp only[pv];refine Zf (by rfl) 51 _ rfl _ (3) rfl r1.r (tsC sq cl) (YR _ _ _ _ _ _ _ _ _ _ _ _) _ underlying51 rfl Zz ?_;simp only[pv];refine p_v _ (Zm _ [] rfl [] rfl _ Z1) ?_;simp only[pv];refine p_v _ (Yn _ _ _ rfl sq cl 0 0 rfl rfl true hzs) ?_;refine p_m ?_;simp only[pv];refine p_v _ (Zb 56 _ 4 rfl g1 0 rfl _ underlying56 _ rfl 0 sizeOf9) ?_;simp only[pv];refine p_d 5 r1.r (.string ⟨dg.toArray⟩) rfl isAgg9 ?_;simp only[pv];refine p_v _ (X4 _ _ _ _ rfl dg [] rfl rfl false hnl) ?_;refine p_k true (.bool false) ?_;refine p_m ?_;refine p_s ?_;refine p_s ?_;simp only[pv];refine p_k false (.bool false) ?_;simp only[pv];refine ZR (by rfl) 143 _ _ _ rfl #[] rfl func143 (by kernel_rfl) #[.bool false] rfl (Yg _) ?_;intro z8014 hb;exact⟨rfl,by rw[hv];rfl,Zk sb (Nat.le_refl _) hb⟩
    |false=>
     have hv:W0=false:=by rw[<-hW0,YK hk hop];simp[Wg,h2,hzs]
     iterate 3 go_step
     refine rp ?_;refine p_m ?_;simp only[pv];refine p_v _ (Zb 56 _ 3 rfl g1 0 rfl _ underlying56 _ rfl 1 sizeOf51) ?_;simp only[pv];refine Zf (by rfl) 51 _ rfl _ (3) rfl r1.r (tsC sq cl) (YR _ _ _ _ _ _ _ _ _ _ _ _) _ underlying51 rfl Zz ?_;simp only[pv];refine p_v _ (Zm _ [] rfl [] rfl _ Z1) ?_;simp only[pv];refine p_v _ (Yn _ _ _ rfl sq cl 0 0 rfl rfl false hzs) ?_;refine p_m ?_;refine p_s ?_;refine p_s ?_;refine p_s ?_;simp only[pv];refine p_k false (.bool false) ?_;refine p_m ?_;refine p_s ?_;refine p_s ?_;refine p_k false (.bool false) ?_;simp only[pv];refine ZR (by rfl) 143 _ _ _ rfl #[] rfl func143 (by kernel_rfl) #[.bool false] rfl (Yg _) ?_;intro z8014 hb;exact⟨rfl,by rw[hv];rfl,Zk sb (Nat.le_refl _) hb⟩
   iterate 3 go_step
   refine rp ?_;refine p_v _ (Yy _ _ _ _ rfl .i64 kd 2 rfl rfl false (decide_eq_false (by omega))) ?_;refine p_a (Za ?_);simp only[pv];by_cases h3:kd=3
   ·skip
    iterate 4 go_step
    refine rp ?_;refine p_v _ (Yy _ _ _ _ rfl .i64 kd 3 rfl rfl true (decide_eq_true (by omega))) ?_;refine p_a (Za ?_);simp only[pv]
    cases hzs:zsB sq cl with
    |true=>
     iterate 5 go_step
     refine rp ?_;refine p_v _ (Zb 56 _ 3 rfl g1 0 rfl _ underlying56 _ rfl 1 sizeOf51) ?_;simp only[pv];refine Zf (by rfl) 51 _ rfl _ (3) rfl r1.r (tsC sq cl) (YR _ _ _ _ _ _ _ _ _ _ _ _) _ underlying51 rfl Zz ?_;simp only[pv];refine p_v _ (Zm _ [] rfl [] rfl _ Z1) ?_;simp only[pv];refine p_v _ (Yn _ _ _ rfl sq cl 0 0 rfl rfl true hzs) (Za ?_);simp only[pv]
     cases hnl:nlB dg with
     |true=>
      cases hbr:brB n m with
      |true=>
       have hv:W0=true:=by rw[<-hW0,YK hk hop];simp[Wg,h3,hzs,hnl,hbr]
       iterate 4 go_step
       refine rp ?_;refine p_m ?_;simp only[pv];refine p_v _ (Zb 56 _ 4 rfl g1 0 rfl _ underlying56 _ rfl 0 sizeOf9) ?_;simp only[pv];refine p_d 5 r1.r (.string ⟨dg.toArray⟩) rfl isAgg9 ?_;simp only[pv];refine p_v _ (X4 _ _ _ _ rfl dg [] rfl rfl true hnl) ?_;refine p_m ?_;simp only[pv];refine Zf (by rfl) 56 _ rfl _ (0) rfl r1.r (msC kd op key sq cl dg a1 n c1 a2 m c2) (Zu _) _ underlying56 rfl ZP ?_;simp only[pv];refine p_c 146 func146 #[.agg (msC kd op key sq cl dg a1 n c1 a2 m c2)] ((Yz kd op key sq cl dg a1 n c1 a2 m c2 _).mono fun e w' ⟨he,hb⟩=>⟨he.trans (by rw[hbr]),hb⟩) ?_;intro z11006 k;simp only[pv];replace r1:=k.ro r1;replace sb:=kk sb k;clear k;refine p_k true (.bool true) ?_;simp only[pv];refine Yd (by rfl) (143) _ _ _ rfl (#[]) rfl (func143) (by kernel_rfl) #[.bool true] rfl _ (Y7 _) ?_;intro z11008 k;simp only[pv];replace r1:=k.ro r1;replace sb:=kk sb k;clear k;refine Za ?_;go_wp2
       first|(go_ret;exact⟨by rw[hv];rfl,sb⟩)|exact⟨rfl,_,results_none rfl _ _ _,by rw[hv];rfl,sb⟩
      |false=>
       have hv:W0=false:=by rw[<-hW0,YK hk hop];simp[Wg,h3,hzs,hnl,hbr]
       iterate 4 go_step
       refine rp ?_;refine p_m ?_;simp only[pv];refine p_v _ (Zb 56 _ 4 rfl g1 0 rfl _ underlying56 _ rfl 0 sizeOf9) ?_;simp only[pv];refine p_d 5 r1.r (.string ⟨dg.toArray⟩) rfl isAgg9 ?_;simp only[pv];refine p_v _ (X4 _ _ _ _ rfl dg [] rfl rfl true hnl) ?_;refine p_m ?_;simp only[pv];refine Zf (by rfl) 56 _ rfl _ (0) rfl r1.r (msC kd op key sq cl dg a1 n c1 a2 m c2) (Zu _) _ underlying56 rfl ZP ?_;simp only[pv];refine p_c 146 func146 #[.agg (msC kd op key sq cl dg a1 n c1 a2 m c2)] ((Yz kd op key sq cl dg a1 n c1 a2 m c2 _).mono fun e w' ⟨he,hb⟩=>⟨he.trans (by rw[hbr]),hb⟩) ?_;intro z11006 k;simp only[pv];replace r1:=k.ro r1;replace sb:=kk sb k;clear k;refine p_k true (.bool false) ?_;simp only[pv];refine ZR (by rfl) 143 _ _ _ rfl #[] rfl func143 (by kernel_rfl) #[.bool false] rfl (Yg _) ?_;intro z11008 hb;exact⟨rfl,by rw[hv];rfl,Zk sb (Nat.le_refl _) hb⟩
     |false=>
      have hv:W0=false:=by rw[<-hW0,YK hk hop];simp[Wg,h3,hzs,hnl]
      iterate 4 go_step
      refine rp ?_;refine p_m ?_;simp only[pv];refine p_v _ (Zb 56 _ 4 rfl g1 0 rfl _ underlying56 _ rfl 0 sizeOf9) ?_;simp only[pv];refine p_d 5 r1.r (.string ⟨dg.toArray⟩) rfl isAgg9 ?_;simp only[pv];refine p_v _ (X4 _ _ _ _ rfl dg [] rfl rfl false hnl) ?_;refine p_m ?_;refine p_s ?_;refine p_s ?_;refine p_k false (.bool false) ?_;simp only[pv];refine ZR (by rfl) 143 _ _ _ rfl #[] rfl func143 (by kernel_rfl) #[.bool false] rfl (Yg _) ?_;intro z11008 hb;exact⟨rfl,by rw[hv];rfl,Zk sb (Nat.le_refl _) hb⟩
    |false=>
     iterate 5 go_step
     refine rp ?_;refine p_v _ (Zb 56 _ 3 rfl g1 0 rfl _ underlying56 _ rfl 1 sizeOf51) ?_;simp only[pv];refine Zf (by rfl) 51 _ rfl _ (3) rfl r1.r (tsC sq cl) (YR _ _ _ _ _ _ _ _ _ _ _ _) _ underlying51 rfl Zz ?_;simp only[pv];refine p_v _ (Zm _ [] rfl [] rfl _ Z1) ?_;simp only[pv];refine p_v _ (Yn _ _ _ rfl sq cl 0 0 rfl rfl false hzs) (Za ?_);simp only[pv]
     cases hst:stB sq cl with
     |true=>
      cases h32:g32 dg with
      |true=>
       cases hbr:brB n m with
       |true=>
        have hv:W0=true:=by rw[<-hW0,YK hk hop];simp[Wg,h3,hzs,hst,h32,hbr]
        iterate 6 go_step
        refine rp ?_;refine p_m ?_;simp only[pv];refine p_v _ (Zb 56 _ 3 rfl g1 0 rfl _ underlying56 _ rfl 1 sizeOf51) ?_;simp only[pv];refine Zf (by rfl) 51 _ rfl _ (3) rfl r1.r (tsC sq cl) (YR _ _ _ _ _ _ _ _ _ _ _ _) _ underlying51 rfl Zz ?_;simp only[pv];refine p_c 147 func147 #[.agg (tsC sq cl)] ((Yo sq cl _).mono fun e w' ⟨he,hb⟩=>⟨he.trans (by rw[hst]),hb⟩) ?_;intro z12003 k;simp only[pv];replace r1:=k.ro r1;replace sb:=kk sb k;clear k;refine p_m ?_;simp only[pv];refine p_v _ (Zb 56 _ 4 rfl g1 0 rfl _ underlying56 _ rfl 0 sizeOf9) ?_;simp only[pv];refine p_d 5 r1.r (.string ⟨dg.toArray⟩) rfl isAgg9 ?_;simp only[pv];refine p_v _ (YA _ _ rfl dg rfl underlying9) ?_;simp only[pv];refine p_v _ (Yy _ _ _ _ rfl .i64 (dg.length:Nat) 32 rfl rfl true h32) ?_;refine p_k true (.bool true) ?_;refine p_m ?_;simp only[pv];refine Zf (by rfl) 56 _ rfl _ (0) rfl r1.r (msC kd op key sq cl dg a1 n c1 a2 m c2) (Zu _) _ underlying56 rfl ZP ?_;simp only[pv];refine p_c 146 func146 #[.agg (msC kd op key sq cl dg a1 n c1 a2 m c2)] ((Yz kd op key sq cl dg a1 n c1 a2 m c2 _).mono fun e w' ⟨he,hb⟩=>⟨he.trans (by rw[hbr]),hb⟩) ?_;intro z12012 k;simp only[pv];replace r1:=k.ro r1;replace sb:=kk sb k;clear k;refine p_m ?_;refine p_s ?_;refine p_s ?_;refine p_k true (.bool true) ?_;refine p_k true (.bool true) ?_;simp only[pv];refine Yd (by rfl) (143) _ _ _ rfl (#[]) rfl (func143) (by kernel_rfl) #[.bool true] rfl _ (Y7 _) ?_;intro z12018 k;simp only[pv];replace r1:=k.ro r1;replace sb:=kk sb k;clear k;refine Za ?_;go_wp2
        first|(go_ret;exact⟨by rw[hv];rfl,sb⟩)|exact⟨rfl,_,results_none rfl _ _ _,by rw[hv];rfl,sb⟩
       |false=>
        cases hdl:dlB n m X with
        |true=>
         have hv:W0=true:=by rw[<-hW0,YK hk hop];simp[Wg,h3,hzs,hst,h32,hbr,hdl]
         iterate 6 go_step
         refine rp ?_;refine p_m ?_;simp only[pv];refine p_v _ (Zb 56 _ 3 rfl g1 0 rfl _ underlying56 _ rfl 1 sizeOf51) ?_;simp only[pv];refine Zf (by rfl) 51 _ rfl _ (3) rfl r1.r (tsC sq cl) (YR _ _ _ _ _ _ _ _ _ _ _ _) _ underlying51 rfl Zz ?_;simp only[pv];refine p_c 147 func147 #[.agg (tsC sq cl)] ((Yo sq cl _).mono fun e w' ⟨he,hb⟩=>⟨he.trans (by rw[hst]),hb⟩) ?_;intro z12003 k;simp only[pv];replace r1:=k.ro r1;replace sb:=kk sb k;clear k;refine p_m ?_;simp only[pv];refine p_v _ (Zb 56 _ 4 rfl g1 0 rfl _ underlying56 _ rfl 0 sizeOf9) ?_;simp only[pv];refine p_d 5 r1.r (.string ⟨dg.toArray⟩) rfl isAgg9 ?_;simp only[pv];refine p_v _ (YA _ _ rfl dg rfl underlying9) ?_;simp only[pv];refine p_v _ (Yy _ _ _ _ rfl .i64 (dg.length:Nat) 32 rfl rfl true h32) ?_;refine p_k true (.bool true) ?_;refine p_m ?_;simp only[pv];refine Zf (by rfl) 56 _ rfl _ (0) rfl r1.r (msC kd op key sq cl dg a1 n c1 a2 m c2) (Zu _) _ underlying56 rfl ZP ?_;simp only[pv];refine p_c 146 func146 #[.agg (msC kd op key sq cl dg a1 n c1 a2 m c2)] ((Yz kd op key sq cl dg a1 n c1 a2 m c2 _).mono fun e w' ⟨he,hb⟩=>⟨he.trans (by rw[hbr]),hb⟩) ?_;intro z12012 k;simp only[pv];replace r1:=k.ro r1;replace sb:=kk sb k;clear k;refine p_m ?_;simp only[pv];refine Zf (by rfl) 56 _ rfl _ (0) rfl r1.r (msC kd op key sq cl dg a1 n c1 a2 m c2) (Zu _) _ underlying56 rfl ZP ?_;simp only[pv];refine p_c 148 func148 #[.agg (msC kd op key sq cl dg a1 n c1 a2 m c2)] ((hD _ sb).mono fun e w' ⟨he,hb⟩=>⟨he.trans (by rw[hdl]),hb⟩) ?_;intro z12015 k;simp only[pv];replace r1:=k.ro r1;replace sb:=kk sb k;clear k;refine p_k false (.bool true) ?_;refine p_k true (.bool true) ?_;simp only[pv];refine Yd (by rfl) (143) _ _ _ rfl (#[]) rfl (func143) (by kernel_rfl) #[.bool true] rfl _ (Y7 _) ?_;intro z12018 k;simp only[pv];replace r1:=k.ro r1;replace sb:=kk sb k;clear k;refine Za ?_;go_wp2
         first|(go_ret;exact⟨by rw[hv];rfl,sb⟩)|exact⟨rfl,_,results_none rfl _ _ _,by rw[hv];rfl,sb⟩
        |false=>
         have hv:W0=false:=by rw[<-hW0,YK hk hop];simp[Wg,h3,hzs,hst,h32,hbr,hdl]
         iterate 6 go_step
         refine rp ?_;refine p_m ?_;simp only[pv];refine p_v _ (Zb 56 _ 3 rfl g1 0 rfl _ underlying56 _ rfl 1 sizeOf51) ?_;simp only[pv];refine Zf (by rfl) 51 _ rfl _ (3) rfl r1.r (tsC sq cl) (YR _ _ _ _ _ _ _ _ _ _ _ _) _ underlying51 rfl Zz ?_;simp only[pv];refine p_c 147 func147 #[.agg (tsC sq cl)] ((Yo sq cl _).mono fun e w' ⟨he,hb⟩=>⟨he.trans (by rw[hst]),hb⟩) ?_;intro z12003 k;simp only[pv];replace r1:=k.ro r1;replace sb:=kk sb k;clear k;refine p_m ?_;simp only[pv];refine p_v _ (Zb 56 _ 4 rfl g1 0 rfl _ underlying56 _ rfl 0 sizeOf9) ?_;simp only[pv];refine p_d 5 r1.r (.string ⟨dg.toArray⟩) rfl isAgg9 ?_;simp only[pv];refine p_v _ (YA _ _ rfl dg rfl underlying9) ?_;simp only[pv];refine p_v _ (Yy _ _ _ _ rfl .i64 (dg.length:Nat) 32 rfl rfl true h32) ?_;refine p_k true (.bool true) ?_;refine p_m ?_;simp only[pv];refine Zf (by rfl) 56 _ rfl _ (0) rfl r1.r (msC kd op key sq cl dg a1 n c1 a2 m c2) (Zu _) _ underlying56 rfl ZP ?_;simp only[pv];refine p_c 146 func146 #[.agg (msC kd op key sq cl dg a1 n c1 a2 m c2)] ((Yz kd op key sq cl dg a1 n c1 a2 m c2 _).mono fun e w' ⟨he,hb⟩=>⟨he.trans (by rw[hbr]),hb⟩) ?_;intro z12012 k;simp only[pv];replace r1:=k.ro r1;replace sb:=kk sb k;clear k;refine p_m ?_;simp only[pv];refine Zf (by rfl) 56 _ rfl _ (0) rfl r1.r (msC kd op key sq cl dg a1 n c1 a2 m c2) (Zu _) _ underlying56 rfl ZP ?_;simp only[pv];refine p_c 148 func148 #[.agg (msC kd op key sq cl dg a1 n c1 a2 m c2)] ((hD _ sb).mono fun e w' ⟨he,hb⟩=>⟨he.trans (by rw[hdl]),hb⟩) ?_;intro z12015 k;simp only[pv];replace r1:=k.ro r1;replace sb:=kk sb k;clear k;refine p_k false (.bool false) ?_;refine p_k true (.bool false) ?_;simp only[pv];refine ZR (by rfl) 143 _ _ _ rfl #[] rfl func143 (by kernel_rfl) #[.bool false] rfl (Yg _) ?_;intro z12018 hb;exact⟨rfl,by rw[hv];rfl,Zk sb (Nat.le_refl _) hb⟩
      |false=>
       have hv:W0=false:=by rw[<-hW0,YK hk hop];simp[Wg,h3,hzs,hst,h32]
       iterate 6 go_step
       refine rp ?_;refine p_m ?_;simp only[pv];refine p_v _ (Zb 56 _ 3 rfl g1 0 rfl _ underlying56 _ rfl 1 sizeOf51) ?_;simp only[pv];refine Zf (by rfl) 51 _ rfl _ (3) rfl r1.r (tsC sq cl) (YR _ _ _ _ _ _ _ _ _ _ _ _) _ underlying51 rfl Zz ?_;simp only[pv];refine p_c 147 func147 #[.agg (tsC sq cl)] ((Yo sq cl _).mono fun e w' ⟨he,hb⟩=>⟨he.trans (by rw[hst]),hb⟩) ?_;intro z12003 k;simp only[pv];replace r1:=k.ro r1;replace sb:=kk sb k;clear k;refine p_m ?_;simp only[pv];refine p_v _ (Zb 56 _ 4 rfl g1 0 rfl _ underlying56 _ rfl 0 sizeOf9) ?_;simp only[pv];refine p_d 5 r1.r (.string ⟨dg.toArray⟩) rfl isAgg9 ?_;simp only[pv];refine p_v _ (YA _ _ rfl dg rfl underlying9) ?_;simp only[pv];refine p_v _ (Yy _ _ _ _ rfl .i64 (dg.length:Nat) 32 rfl rfl false h32) ?_;refine p_k true (.bool false) ?_;refine p_m ?_;refine p_s ?_;refine p_s ?_;simp only[pv];refine p_s ?_;refine p_s ?_;refine p_s ?_;refine p_s ?_;refine p_k false (.bool false) ?_;simp only[pv];refine ZR (by rfl) 143 _ _ _ rfl #[] rfl func143 (by kernel_rfl) #[.bool false] rfl (Yg _) ?_;intro z12018 hb;exact⟨rfl,by rw[hv];rfl,Zk sb (Nat.le_refl _) hb⟩
     |false=>
      have hv:W0=false:=by rw[<-hW0,YK hk hop];simp[Wg,h3,hzs,hst]
      iterate 6 go_step
      refine rp ?_;refine p_m ?_;simp only[pv];refine p_v _ (Zb 56 _ 3 rfl g1 0 rfl _ underlying56 _ rfl 1 sizeOf51) ?_;simp only[pv];refine Zf (by rfl) 51 _ rfl _ (3) rfl r1.r (tsC sq cl) (YR _ _ _ _ _ _ _ _ _ _ _ _) _ underlying51 rfl Zz ?_;simp only[pv];refine p_c 147 func147 #[.agg (tsC sq cl)] ((Yo sq cl _).mono fun e w' ⟨he,hb⟩=>⟨he.trans (by rw[hst]),hb⟩) ?_;intro z12003 k;simp only[pv];replace r1:=k.ro r1;replace sb:=kk sb k;clear k;refine p_m ?_;refine p_s ?_;refine p_s ?_;refine p_s ?_;refine p_s ?_;simp only[pv];refine p_k false (.bool false) ?_;refine p_m ?_;refine p_s ?_;refine p_s ?_;refine p_s ?_;simp only[pv];refine p_s ?_;refine p_s ?_;refine p_s ?_;refine p_k false (.bool false) ?_;simp only[pv];refine ZR (by rfl) 143 _ _ _ rfl #[] rfl func143 (by kernel_rfl) #[.bool false] rfl (Yg _) ?_;intro z12018 hb;exact⟨rfl,by rw[hv];rfl,Zk sb (Nat.le_refl _) hb⟩
   iterate 4 go_step
   refine rp ?_;refine p_v _ (Yy _ _ _ _ rfl .i64 kd 3 rfl rfl false (decide_eq_false (by omega))) ?_;refine p_a (Za ?_);simp only[pv];by_cases h4:kd=4
   ·skip
    iterate 5 go_step
    refine rp ?_;refine p_v _ (Yy _ _ _ _ rfl .i64 kd 4 rfl rfl true (decide_eq_true (by omega))) ?_;refine p_a (Za ?_);simp only[pv]
    cases hst:stB sq cl with
    |true=>
     cases hnl:nlB dg with
     |true=>
      cases hdl:dlB n m X with
      |true=>
       have hv:W0=true:=by rw[<-hW0,YK hk hop];simp[Wg,h4,hst,hnl,hdl]
       iterate 7 go_step
       refine rp ?_;refine p_m ?_;simp only[pv];refine p_v _ (Zb 56 _ 3 rfl g1 0 rfl _ underlying56 _ rfl 1 sizeOf51) ?_;simp only[pv];refine Zf (by rfl) 51 _ rfl _ (3) rfl r1.r (tsC sq cl) (YR _ _ _ _ _ _ _ _ _ _ _ _) _ underlying51 rfl Zz ?_;simp only[pv];refine p_c 147 func147 #[.agg (tsC sq cl)] ((Yo sq cl _).mono fun e w' ⟨he,hb⟩=>⟨he.trans (by rw[hst]),hb⟩) ?_;intro z15003 k;simp only[pv];replace r1:=k.ro r1;replace sb:=kk sb k;clear k;refine p_m ?_;simp only[pv];refine p_v _ (Zb 56 _ 4 rfl g1 0 rfl _ underlying56 _ rfl 0 sizeOf9) ?_;simp only[pv];refine p_d 5 r1.r (.string ⟨dg.toArray⟩) rfl isAgg9 ?_;simp only[pv];refine p_v _ (X4 _ _ _ _ rfl dg [] rfl rfl true hnl) ?_;refine p_k true (.bool true) ?_;refine p_m ?_;simp only[pv];refine Zf (by rfl) 56 _ rfl _ (0) rfl r1.r (msC kd op key sq cl dg a1 n c1 a2 m c2) (Zu _) _ underlying56 rfl ZP ?_;simp only[pv];refine p_c 148 func148 #[.agg (msC kd op key sq cl dg a1 n c1 a2 m c2)] ((hD _ sb).mono fun e w' ⟨he,hb⟩=>⟨he.trans (by rw[hdl]),hb⟩) ?_;intro z15011 k;simp only[pv];replace r1:=k.ro r1;replace sb:=kk sb k;clear k;refine p_k true (.bool true) ?_;simp only[pv];refine Yd (by rfl) (143) _ _ _ rfl (#[]) rfl (func143) (by kernel_rfl) #[.bool true] rfl _ (Y7 _) ?_;intro z15013 k;simp only[pv];replace r1:=k.ro r1;replace sb:=kk sb k;clear k;refine Za ?_;go_wp2
       first|(go_ret;exact⟨by rw[hv];rfl,sb⟩)|exact⟨rfl,_,results_none rfl _ _ _,by rw[hv];rfl,sb⟩
      |false=>
       have hv:W0=false:=by rw[<-hW0,YK hk hop];simp[Wg,h4,hst,hnl,hdl]
       iterate 7 go_step
       refine rp ?_;refine p_m ?_;simp only[pv];refine p_v _ (Zb 56 _ 3 rfl g1 0 rfl _ underlying56 _ rfl 1 sizeOf51) ?_;simp only[pv];refine Zf (by rfl) 51 _ rfl _ (3) rfl r1.r (tsC sq cl) (YR _ _ _ _ _ _ _ _ _ _ _ _) _ underlying51 rfl Zz ?_;simp only[pv];refine p_c 147 func147 #[.agg (tsC sq cl)] ((Yo sq cl _).mono fun e w' ⟨he,hb⟩=>⟨he.trans (by rw[hst]),hb⟩) ?_;intro z15003 k;simp only[pv];replace r1:=k.ro r1;replace sb:=kk sb k;clear k;refine p_m ?_;simp only[pv];refine p_v _ (Zb 56 _ 4 rfl g1 0 rfl _ underlying56 _ rfl 0 sizeOf9) ?_;simp only[pv];refine p_d 5 r1.r (.string ⟨dg.toArray⟩) rfl isAgg9 ?_;simp only[pv];refine p_v _ (X4 _ _ _ _ rfl dg [] rfl rfl true hnl) ?_;refine p_k true (.bool true) ?_;refine p_m ?_;simp only[pv];refine Zf (by rfl) 56 _ rfl _ (0) rfl r1.r (msC kd op key sq cl dg a1 n c1 a2 m c2) (Zu _) _ underlying56 rfl ZP ?_;simp only[pv];refine p_c 148 func148 #[.agg (msC kd op key sq cl dg a1 n c1 a2 m c2)] ((hD _ sb).mono fun e w' ⟨he,hb⟩=>⟨he.trans (by rw[hdl]),hb⟩) ?_;intro z15011 k;simp only[pv];replace r1:=k.ro r1;replace sb:=kk sb k;clear k;refine p_k true (.bool false) ?_;simp only[pv];refine ZR (by rfl) 143 _ _ _ rfl #[] rfl func143 (by kernel_rfl) #[.bool false] rfl (Yg _) ?_;intro z15013 hb;exact⟨rfl,by rw[hv];rfl,Zk sb (Nat.le_refl _) hb⟩
     |false=>
      have hv:W0=false:=by rw[<-hW0,YK hk hop];simp[Wg,h4,hst,hnl]
      iterate 7 go_step
      refine rp ?_;refine p_m ?_;simp only[pv];refine p_v _ (Zb 56 _ 3 rfl g1 0 rfl _ underlying56 _ rfl 1 sizeOf51) ?_;simp only[pv];refine Zf (by rfl) 51 _ rfl _ (3) rfl r1.r (tsC sq cl) (YR _ _ _ _ _ _ _ _ _ _ _ _) _ underlying51 rfl Zz ?_;simp only[pv];refine p_c 147 func147 #[.agg (tsC sq cl)] ((Yo sq cl _).mono fun e w' ⟨he,hb⟩=>⟨he.trans (by rw[hst]),hb⟩) ?_;intro z15003 k;simp only[pv];replace r1:=k.ro r1;replace sb:=kk sb k;clear k;refine p_m ?_;simp only[pv];refine p_v _ (Zb 56 _ 4 rfl g1 0 rfl _ underlying56 _ rfl 0 sizeOf9) ?_;simp only[pv];refine p_d 5 r1.r (.string ⟨dg.toArray⟩) rfl isAgg9 ?_;simp only[pv];refine p_v _ (X4 _ _ _ _ rfl dg [] rfl rfl false hnl) ?_;refine p_k true (.bool false) ?_;refine p_m ?_;refine p_s ?_;refine p_s ?_;simp only[pv];refine p_k false (.bool false) ?_;simp only[pv];refine ZR (by rfl) 143 _ _ _ rfl #[] rfl func143 (by kernel_rfl) #[.bool false] rfl (Yg _) ?_;intro z15013 hb;exact⟨rfl,by rw[hv];rfl,Zk sb (Nat.le_refl _) hb⟩
    |false=>
     have hv:W0=false:=by rw[<-hW0,YK hk hop];simp[Wg,h4,hst]
     iterate 7 go_step
     refine rp ?_;refine p_m ?_;simp only[pv];refine p_v _ (Zb 56 _ 3 rfl g1 0 rfl _ underlying56 _ rfl 1 sizeOf51) ?_;simp only[pv];refine Zf (by rfl) 51 _ rfl _ (3) rfl r1.r (tsC sq cl) (YR _ _ _ _ _ _ _ _ _ _ _ _) _ underlying51 rfl Zz ?_;simp only[pv];refine p_c 147 func147 #[.agg (tsC sq cl)] ((Yo sq cl _).mono fun e w' ⟨he,hb⟩=>⟨he.trans (by rw[hst]),hb⟩) ?_;intro z15003 k;simp only[pv];replace r1:=k.ro r1;replace sb:=kk sb k;clear k;refine p_m ?_;refine p_s ?_;refine p_s ?_;refine p_s ?_;refine p_k false (.bool false) ?_;simp only[pv];refine p_m ?_;refine p_s ?_;refine p_s ?_;refine p_k false (.bool false) ?_;simp only[pv];refine ZR (by rfl) 143 _ _ _ rfl #[] rfl func143 (by kernel_rfl) #[.bool false] rfl (Yg _) ?_;intro z15013 hb;exact⟨rfl,by rw[hv];rfl,Zk sb (Nat.le_refl _) hb⟩
   iterate 5 go_step
   refine rp ?_;refine p_v _ (Yy _ _ _ _ rfl .i64 kd 4 rfl rfl false (decide_eq_false (by omega))) ?_;refine p_a (Za ?_);simp only[pv];by_cases h8:kd=8
   ·skip
    iterate 3 go_step
    refine rp ?_;refine p_v _ (Yy _ _ _ _ rfl .i64 kd 8 rfl rfl true (decide_eq_true (by omega))) ?_;refine p_a (Za ?_);simp only[pv]
    cases hst:stB sq cl with
    |true=>
     cases hnl:nlB dg with
     |true=>
      cases hdl:dlB n m X with
      |true=>
       have hv:W0=true:=by rw[<-hW0,YK hk hop];simp[Wg,h8,hst,hnl,hdl]
       iterate 3 go_step
       refine rp ?_;refine p_m ?_;simp only[pv];refine p_v _ (Zb 56 _ 3 rfl g1 0 rfl _ underlying56 _ rfl 1 sizeOf51) ?_;simp only[pv];refine Zf (by rfl) 51 _ rfl _ (3) rfl r1.r (tsC sq cl) (YR _ _ _ _ _ _ _ _ _ _ _ _) _ underlying51 rfl Zz ?_;simp only[pv];refine p_c 147 func147 #[.agg (tsC sq cl)] ((Yo sq cl _).mono fun e w' ⟨he,hb⟩=>⟨he.trans (by rw[hst]),hb⟩) ?_;intro z15003 k;simp only[pv];replace r1:=k.ro r1;replace sb:=kk sb k;clear k;refine p_m ?_;simp only[pv];refine p_v _ (Zb 56 _ 4 rfl g1 0 rfl _ underlying56 _ rfl 0 sizeOf9) ?_;simp only[pv];refine p_d 5 r1.r (.string ⟨dg.toArray⟩) rfl isAgg9 ?_;simp only[pv];refine p_v _ (X4 _ _ _ _ rfl dg [] rfl rfl true hnl) ?_;refine p_k true (.bool true) ?_;refine p_m ?_;simp only[pv];refine Zf (by rfl) 56 _ rfl _ (0) rfl r1.r (msC kd op key sq cl dg a1 n c1 a2 m c2) (Zu _) _ underlying56 rfl ZP ?_;simp only[pv];refine p_c 148 func148 #[.agg (msC kd op key sq cl dg a1 n c1 a2 m c2)] ((hD _ sb).mono fun e w' ⟨he,hb⟩=>⟨he.trans (by rw[hdl]),hb⟩) ?_;intro z15011 k;simp only[pv];replace r1:=k.ro r1;replace sb:=kk sb k;clear k;refine p_k true (.bool true) ?_;simp only[pv];refine Yd (by rfl) (143) _ _ _ rfl (#[]) rfl (func143) (by kernel_rfl) #[.bool true] rfl _ (Y7 _) ?_;intro z15013 k;simp only[pv];replace r1:=k.ro r1;replace sb:=kk sb k;clear k;refine Za ?_;go_wp2
       first|(go_ret;exact⟨by rw[hv];rfl,sb⟩)|exact⟨rfl,_,results_none rfl _ _ _,by rw[hv];rfl,sb⟩
      |false=>
       have hv:W0=false:=by rw[<-hW0,YK hk hop];simp[Wg,h8,hst,hnl,hdl]
       iterate 3 go_step
       refine rp ?_;refine p_m ?_;simp only[pv];refine p_v _ (Zb 56 _ 3 rfl g1 0 rfl _ underlying56 _ rfl 1 sizeOf51) ?_;simp only[pv];refine Zf (by rfl) 51 _ rfl _ (3) rfl r1.r (tsC sq cl) (YR _ _ _ _ _ _ _ _ _ _ _ _) _ underlying51 rfl Zz ?_;simp only[pv];refine p_c 147 func147 #[.agg (tsC sq cl)] ((Yo sq cl _).mono fun e w' ⟨he,hb⟩=>⟨he.trans (by rw[hst]),hb⟩) ?_;intro z15003 k;simp only[pv];replace r1:=k.ro r1;replace sb:=kk sb k;clear k;refine p_m ?_;simp only[pv];refine p_v _ (Zb 56 _ 4 rfl g1 0 rfl _ underlying56 _ rfl 0 sizeOf9) ?_;simp only[pv];refine p_d 5 r1.r (.string ⟨dg.toArray⟩) rfl isAgg9 ?_;simp only[pv];refine p_v _ (X4 _ _ _ _ rfl dg [] rfl rfl true hnl) ?_;refine p_k true (.bool true) ?_;refine p_m ?_;simp only[pv];refine Zf (by rfl) 56 _ rfl _ (0) rfl r1.r (msC kd op key sq cl dg a1 n c1 a2 m c2) (Zu _) _ underlying56 rfl ZP ?_;simp only[pv];refine p_c 148 func148 #[.agg (msC kd op key sq cl dg a1 n c1 a2 m c2)] ((hD _ sb).mono fun e w' ⟨he,hb⟩=>⟨he.trans (by rw[hdl]),hb⟩) ?_;intro z15011 k;simp only[pv];replace r1:=k.ro r1;replace sb:=kk sb k;clear k;refine p_k true (.bool false) ?_;simp only[pv];refine ZR (by rfl) 143 _ _ _ rfl #[] rfl func143 (by kernel_rfl) #[.bool false] rfl (Yg _) ?_;intro z15013 hb;exact⟨rfl,by rw[hv];rfl,Zk sb (Nat.le_refl _) hb⟩
     |false=>
      have hv:W0=false:=by rw[<-hW0,YK hk hop];simp[Wg,h8,hst,hnl]
      iterate 3 go_step
      refine rp ?_;refine p_m ?_;simp only[pv];refine p_v _ (Zb 56 _ 3 rfl g1 0 rfl _ underlying56 _ rfl 1 sizeOf51) ?_;simp only[pv];refine Zf (by rfl) 51 _ rfl _ (3) rfl r1.r (tsC sq cl) (YR _ _ _ _ _ _ _ _ _ _ _ _) _ underlying51 rfl Zz ?_;simp only[pv];refine p_c 147 func147 #[.agg (tsC sq cl)] ((Yo sq cl _).mono fun e w' ⟨he,hb⟩=>⟨he.trans (by rw[hst]),hb⟩) ?_;intro z15003 k;simp only[pv];replace r1:=k.ro r1;replace sb:=kk sb k;clear k;refine p_m ?_;simp only[pv];refine p_v _ (Zb 56 _ 4 rfl g1 0 rfl _ underlying56 _ rfl 0 sizeOf9) ?_;simp only[pv];refine p_d 5 r1.r (.string ⟨dg.toArray⟩) rfl isAgg9 ?_;simp only[pv];refine p_v _ (X4 _ _ _ _ rfl dg [] rfl rfl false hnl) ?_;refine p_k true (.bool false) ?_;refine p_m ?_;refine p_s ?_;refine p_s ?_;simp only[pv];refine p_k false (.bool false) ?_;simp only[pv];refine ZR (by rfl) 143 _ _ _ rfl #[] rfl func143 (by kernel_rfl) #[.bool false] rfl (Yg _) ?_;intro z15013 hb;exact⟨rfl,by rw[hv];rfl,Zk sb (Nat.le_refl _) hb⟩
    |false=>
     have hv:W0=false:=by rw[<-hW0,YK hk hop];simp[Wg,h8,hst]
     iterate 3 go_step
     refine rp ?_;refine p_m ?_;simp only[pv];refine p_v _ (Zb 56 _ 3 rfl g1 0 rfl _ underlying56 _ rfl 1 sizeOf51) ?_;simp only[pv];refine Zf (by rfl) 51 _ rfl _ (3) rfl r1.r (tsC sq cl) (YR _ _ _ _ _ _ _ _ _ _ _ _) _ underlying51 rfl Zz ?_;simp only[pv];refine p_c 147 func147 #[.agg (tsC sq cl)] ((Yo sq cl _).mono fun e w' ⟨he,hb⟩=>⟨he.trans (by rw[hst]),hb⟩) ?_;intro z15003 k;simp only[pv];replace r1:=k.ro r1;replace sb:=kk sb k;clear k;refine p_m ?_;refine p_s ?_;refine p_s ?_;refine p_s ?_;refine p_k false (.bool false) ?_;simp only[pv];refine p_m ?_;refine p_s ?_;refine p_s ?_;refine p_k false (.bool false) ?_;simp only[pv];refine ZR (by rfl) 143 _ _ _ rfl #[] rfl func143 (by kernel_rfl) #[.bool false] rfl (Yg _) ?_;intro z15013 hb;exact⟨rfl,by rw[hv];rfl,Zk sb (Nat.le_refl _) hb⟩
   iterate 3 go_step
   refine rp ?_;refine p_v _ (Yy _ _ _ _ rfl .i64 kd 8 rfl rfl false (decide_eq_false (by omega))) ?_;refine p_a (Za ?_);simp only[pv];by_cases h5:kd=5
   ·skip
    iterate 5 go_step
    refine rp ?_;refine p_v _ (Yy _ _ _ _ rfl .i64 kd 5 rfl rfl true (decide_eq_true (by omega))) ?_;refine p_a (Za ?_);simp only[pv]
    cases hst:stB sq cl with
    |true=>
     cases h32:g32 dg with
     |true=>
      cases hbr:brB n m with
      |true=>
       have hv:W0=true:=by rw[<-hW0,YK hk hop];simp[Wg,h5,hst,h32,hbr]
       iterate 7 go_step
       refine rp ?_;refine p_m ?_;simp only[pv];refine p_v _ (Zb 56 _ 3 rfl g1 0 rfl _ underlying56 _ rfl 1 sizeOf51) ?_;simp only[pv];refine Zf (by rfl) 51 _ rfl _ (3) rfl r1.r (tsC sq cl) (YR _ _ _ _ _ _ _ _ _ _ _ _) _ underlying51 rfl Zz ?_;simp only[pv];refine p_c 147 func147 #[.agg (tsC sq cl)] ((Yo sq cl _).mono fun e w' ⟨he,hb⟩=>⟨he.trans (by rw[hst]),hb⟩) ?_;intro z18003 k;simp only[pv];replace r1:=k.ro r1;replace sb:=kk sb k;clear k;refine p_m ?_;simp only[pv];refine p_v _ (Zb 56 _ 4 rfl g1 0 rfl _ underlying56 _ rfl 0 sizeOf9) ?_;simp only[pv];refine p_d 5 r1.r (.string ⟨dg.toArray⟩) rfl isAgg9 ?_;simp only[pv];refine p_v _ (YA _ _ rfl dg rfl underlying9) ?_;simp only[pv];refine p_v _ (Yy _ _ _ _ rfl .i64 (dg.length:Nat) 32 rfl rfl true h32) ?_;refine p_k true (.bool true) ?_;refine p_m ?_;simp only[pv];refine Zf (by rfl) 56 _ rfl _ (0) rfl r1.r (msC kd op key sq cl dg a1 n c1 a2 m c2) (Zu _) _ underlying56 rfl ZP ?_;simp only[pv];refine p_c 146 func146 #[.agg (msC kd op key sq cl dg a1 n c1 a2 m c2)] ((Yz kd op key sq cl dg a1 n c1 a2 m c2 _).mono fun e w' ⟨he,hb⟩=>⟨he.trans (by rw[hbr]),hb⟩) ?_;intro z18012 k;simp only[pv];replace r1:=k.ro r1;replace sb:=kk sb k;clear k;refine p_k true (.bool true) ?_;simp only[pv];refine Yd (by rfl) (143) _ _ _ rfl (#[]) rfl (func143) (by kernel_rfl) #[.bool true] rfl _ (Y7 _) ?_;intro z18014 k;simp only[pv];replace r1:=k.ro r1;replace sb:=kk sb k;clear k;refine Za ?_;go_wp2
       first|(go_ret;exact⟨by rw[hv];rfl,sb⟩)|exact⟨rfl,_,results_none rfl _ _ _,by rw[hv];rfl,sb⟩
      |false=>
       have hv:W0=false:=by rw[<-hW0,YK hk hop];simp[Wg,h5,hst,h32,hbr]
       iterate 7 go_step
       refine rp ?_;refine p_m ?_;simp only[pv];refine p_v _ (Zb 56 _ 3 rfl g1 0 rfl _ underlying56 _ rfl 1 sizeOf51) ?_;simp only[pv];refine Zf (by rfl) 51 _ rfl _ (3) rfl r1.r (tsC sq cl) (YR _ _ _ _ _ _ _ _ _ _ _ _) _ underlying51 rfl Zz ?_;simp only[pv];refine p_c 147 func147 #[.agg (tsC sq cl)] ((Yo sq cl _).mono fun e w' ⟨he,hb⟩=>⟨he.trans (by rw[hst]),hb⟩) ?_;intro z18003 k;simp only[pv];replace r1:=k.ro r1;replace sb:=kk sb k;clear k;refine p_m ?_;simp only[pv];refine p_v _ (Zb 56 _ 4 rfl g1 0 rfl _ underlying56 _ rfl 0 sizeOf9) ?_;simp only[pv];refine p_d 5 r1.r (.string ⟨dg.toArray⟩) rfl isAgg9 ?_;simp only[pv];refine p_v _ (YA _ _ rfl dg rfl underlying9) ?_;simp only[pv];refine p_v _ (Yy _ _ _ _ rfl .i64 (dg.length:Nat) 32 rfl rfl true h32) ?_;refine p_k true (.bool true) ?_;refine p_m ?_;simp only[pv];refine Zf (by rfl) 56 _ rfl _ (0) rfl r1.r (msC kd op key sq cl dg a1 n c1 a2 m c2) (Zu _) _ underlying56 rfl ZP ?_;simp only[pv];refine p_c 146 func146 #[.agg (msC kd op key sq cl dg a1 n c1 a2 m c2)] ((Yz kd op key sq cl dg a1 n c1 a2 m c2 _).mono fun e w' ⟨he,hb⟩=>⟨he.trans (by rw[hbr]),hb⟩) ?_;intro z18012 k;simp only[pv];replace r1:=k.ro r1;replace sb:=kk sb k;clear k;refine p_k true (.bool false) ?_;simp only[pv];refine ZR (by rfl) 143 _ _ _ rfl #[] rfl func143 (by kernel_rfl) #[.bool false] rfl (Yg _) ?_;intro z18014 hb;exact⟨rfl,by rw[hv];rfl,Zk sb (Nat.le_refl _) hb⟩
     |false=>
      have hv:W0=false:=by rw[<-hW0,YK hk hop];simp[Wg,h5,hst,h32]
      iterate 7 go_step
      refine rp ?_;refine p_m ?_;simp only[pv];refine p_v _ (Zb 56 _ 3 rfl g1 0 rfl _ underlying56 _ rfl 1 sizeOf51) ?_;simp only[pv];refine Zf (by rfl) 51 _ rfl _ (3) rfl r1.r (tsC sq cl) (YR _ _ _ _ _ _ _ _ _ _ _ _) _ underlying51 rfl Zz ?_;simp only[pv];refine p_c 147 func147 #[.agg (tsC sq cl)] ((Yo sq cl _).mono fun e w' ⟨he,hb⟩=>⟨he.trans (by rw[hst]),hb⟩) ?_;intro z18003 k;simp only[pv];replace r1:=k.ro r1;replace sb:=kk sb k;clear k;refine p_m ?_;simp only[pv];refine p_v _ (Zb 56 _ 4 rfl g1 0 rfl _ underlying56 _ rfl 0 sizeOf9) ?_;simp only[pv];refine p_d 5 r1.r (.string ⟨dg.toArray⟩) rfl isAgg9 ?_;simp only[pv];refine p_v _ (YA _ _ rfl dg rfl underlying9) ?_;simp only[pv];refine p_v _ (Yy _ _ _ _ rfl .i64 (dg.length:Nat) 32 rfl rfl false h32) ?_;refine p_k true (.bool false) ?_;refine p_m ?_;refine p_s ?_;refine p_s ?_;simp only[pv];refine p_k false (.bool false) ?_;simp only[pv];refine ZR (by rfl) 143 _ _ _ rfl #[] rfl func143 (by kernel_rfl) #[.bool false] rfl (Yg _) ?_;intro z18014 hb;exact⟨rfl,by rw[hv];rfl,Zk sb (Nat.le_refl _) hb⟩
    |false=>
     have hv:W0=false:=by rw[<-hW0,YK hk hop];simp[Wg,h5,hst]
     iterate 7 go_step
     refine rp ?_;refine p_m ?_;simp only[pv];refine p_v _ (Zb 56 _ 3 rfl g1 0 rfl _ underlying56 _ rfl 1 sizeOf51) ?_;simp only[pv];refine Zf (by rfl) 51 _ rfl _ (3) rfl r1.r (tsC sq cl) (YR _ _ _ _ _ _ _ _ _ _ _ _) _ underlying51 rfl Zz ?_;simp only[pv];refine p_c 147 func147 #[.agg (tsC sq cl)] ((Yo sq cl _).mono fun e w' ⟨he,hb⟩=>⟨he.trans (by rw[hst]),hb⟩) ?_;intro z18003 k;simp only[pv];replace r1:=k.ro r1;replace sb:=kk sb k;clear k;refine p_m ?_;refine p_s ?_;refine p_s ?_;refine p_s ?_;refine p_s ?_;simp only[pv];refine p_k false (.bool false) ?_;refine p_m ?_;refine p_s ?_;refine p_s ?_;refine p_k false (.bool false) ?_;simp only[pv];refine ZR (by rfl) 143 _ _ _ rfl #[] rfl func143 (by kernel_rfl) #[.bool false] rfl (Yg _) ?_;intro z18014 hb;exact⟨rfl,by rw[hv];rfl,Zk sb (Nat.le_refl _) hb⟩
   iterate 5 go_step
   refine rp ?_;refine p_v _ (Yy _ _ _ _ rfl .i64 kd 5 rfl rfl false (decide_eq_false (by omega))) ?_;refine p_a (Za ?_);simp only[pv];by_cases h6:kd=6
   ·skip
    iterate 3 go_step
    refine rp ?_;refine p_v _ (Yy _ _ _ _ rfl .i64 kd 6 rfl rfl true (decide_eq_true (by omega))) ?_;refine p_a (Za ?_);simp only[pv]
    cases hst:stB sq cl with
    |true=>
     cases h32:g32 dg with
     |true=>
      cases hbr:brB n m with
      |true=>
       have hv:W0=true:=by rw[<-hW0,YK hk hop];simp[Wg,h6,hst,h32,hbr]
       iterate 3 go_step
       refine rp ?_;refine p_m ?_;simp only[pv];refine p_v _ (Zb 56 _ 3 rfl g1 0 rfl _ underlying56 _ rfl 1 sizeOf51) ?_;simp only[pv];refine Zf (by rfl) 51 _ rfl _ (3) rfl r1.r (tsC sq cl) (YR _ _ _ _ _ _ _ _ _ _ _ _) _ underlying51 rfl Zz ?_;simp only[pv];refine p_c 147 func147 #[.agg (tsC sq cl)] ((Yo sq cl _).mono fun e w' ⟨he,hb⟩=>⟨he.trans (by rw[hst]),hb⟩) ?_;intro z18003 k;simp only[pv];replace r1:=k.ro r1;replace sb:=kk sb k;clear k;refine p_m ?_;simp only[pv];refine p_v _ (Zb 56 _ 4 rfl g1 0 rfl _ underlying56 _ rfl 0 sizeOf9) ?_;simp only[pv];refine p_d 5 r1.r (.string ⟨dg.toArray⟩) rfl isAgg9 ?_;simp only[pv];refine p_v _ (YA _ _ rfl dg rfl underlying9) ?_;simp only[pv];refine p_v _ (Yy _ _ _ _ rfl .i64 (dg.length:Nat) 32 rfl rfl true h32) ?_;refine p_k true (.bool true) ?_;refine p_m ?_;simp only[pv];refine Zf (by rfl) 56 _ rfl _ (0) rfl r1.r (msC kd op key sq cl dg a1 n c1 a2 m c2) (Zu _) _ underlying56 rfl ZP ?_;simp only[pv];refine p_c 146 func146 #[.agg (msC kd op key sq cl dg a1 n c1 a2 m c2)] ((Yz kd op key sq cl dg a1 n c1 a2 m c2 _).mono fun e w' ⟨he,hb⟩=>⟨he.trans (by rw[hbr]),hb⟩) ?_;intro z18012 k;simp only[pv];replace r1:=k.ro r1;replace sb:=kk sb k;clear k;refine p_k true (.bool true) ?_;simp only[pv];refine Yd (by rfl) (143) _ _ _ rfl (#[]) rfl (func143) (by kernel_rfl) #[.bool true] rfl _ (Y7 _) ?_;intro z18014 k;simp only[pv];replace r1:=k.ro r1;replace sb:=kk sb k;clear k;refine Za ?_;go_wp2
       first|(go_ret;exact⟨by rw[hv];rfl,sb⟩)|exact⟨rfl,_,results_none rfl _ _ _,by rw[hv];rfl,sb⟩
      |false=>
       have hv:W0=false:=by rw[<-hW0,YK hk hop];simp[Wg,h6,hst,h32,hbr]
       iterate 3 go_step
       refine rp ?_;refine p_m ?_;simp only[pv];refine p_v _ (Zb 56 _ 3 rfl g1 0 rfl _ underlying56 _ rfl 1 sizeOf51) ?_;simp only[pv];refine Zf (by rfl) 51 _ rfl _ (3) rfl r1.r (tsC sq cl) (YR _ _ _ _ _ _ _ _ _ _ _ _) _ underlying51 rfl Zz ?_;simp only[pv];refine p_c 147 func147 #[.agg (tsC sq cl)] ((Yo sq cl _).mono fun e w' ⟨he,hb⟩=>⟨he.trans (by rw[hst]),hb⟩) ?_;intro z18003 k;simp only[pv];replace r1:=k.ro r1;replace sb:=kk sb k;clear k;refine p_m ?_;simp only[pv];refine p_v _ (Zb 56 _ 4 rfl g1 0 rfl _ underlying56 _ rfl 0 sizeOf9) ?_;simp only[pv];refine p_d 5 r1.r (.string ⟨dg.toArray⟩) rfl isAgg9 ?_;simp only[pv];refine p_v _ (YA _ _ rfl dg rfl underlying9) ?_;simp only[pv];refine p_v _ (Yy _ _ _ _ rfl .i64 (dg.length:Nat) 32 rfl rfl true h32) ?_;refine p_k true (.bool true) ?_;refine p_m ?_;simp only[pv];refine Zf (by rfl) 56 _ rfl _ (0) rfl r1.r (msC kd op key sq cl dg a1 n c1 a2 m c2) (Zu _) _ underlying56 rfl ZP ?_;simp only[pv];refine p_c 146 func146 #[.agg (msC kd op key sq cl dg a1 n c1 a2 m c2)] ((Yz kd op key sq cl dg a1 n c1 a2 m c2 _).mono fun e w' ⟨he,hb⟩=>⟨he.trans (by rw[hbr]),hb⟩) ?_;intro z18012 k;simp only[pv];replace r1:=k.ro r1;replace sb:=kk sb k;clear k;refine p_k true (.bool false) ?_;simp only[pv];refine ZR (by rfl) 143 _ _ _ rfl #[] rfl func143 (by kernel_rfl) #[.bool false] rfl (Yg _) ?_;intro z18014 hb;exact⟨rfl,by rw[hv];rfl,Zk sb (Nat.le_refl _) hb⟩
     |false=>
      have hv:W0=false:=by rw[<-hW0,YK hk hop];simp[Wg,h6,hst,h32]
      iterate 3 go_step
      refine rp ?_;refine p_m ?_;simp only[pv];refine p_v _ (Zb 56 _ 3 rfl g1 0 rfl _ underlying56 _ rfl 1 sizeOf51) ?_;simp only[pv];refine Zf (by rfl) 51 _ rfl _ (3) rfl r1.r (tsC sq cl) (YR _ _ _ _ _ _ _ _ _ _ _ _) _ underlying51 rfl Zz ?_;simp only[pv];refine p_c 147 func147 #[.agg (tsC sq cl)] ((Yo sq cl _).mono fun e w' ⟨he,hb⟩=>⟨he.trans (by rw[hst]),hb⟩) ?_;intro z18003 k;simp only[pv];replace r1:=k.ro r1;replace sb:=kk sb k;clear k;refine p_m ?_;simp only[pv];refine p_v _ (Zb 56 _ 4 rfl g1 0 rfl _ underlying56 _ rfl 0 sizeOf9) ?_;simp only[pv];refine p_d 5 r1.r (.string ⟨dg.toArray⟩) rfl isAgg9 ?_;simp only[pv];refine p_v _ (YA _ _ rfl dg rfl underlying9) ?_;simp only[pv];refine p_v _ (Yy _ _ _ _ rfl .i64 (dg.length:Nat) 32 rfl rfl false h32) ?_;refine p_k true (.bool false) ?_;refine p_m ?_;refine p_s ?_;refine p_s ?_;simp only[pv];refine p_k false (.bool false) ?_;simp only[pv];refine ZR (by rfl) 143 _ _ _ rfl #[] rfl func143 (by kernel_rfl) #[.bool false] rfl (Yg _) ?_;intro z18014 hb;exact⟨rfl,by rw[hv];rfl,Zk sb (Nat.le_refl _) hb⟩
    |false=>
     have hv:W0=false:=by rw[<-hW0,YK hk hop];simp[Wg,h6,hst]
     iterate 3 go_step
     refine rp ?_;refine p_m ?_;simp only[pv];refine p_v _ (Zb 56 _ 3 rfl g1 0 rfl _ underlying56 _ rfl 1 sizeOf51) ?_;simp only[pv];refine Zf (by rfl) 51 _ rfl _ (3) rfl r1.r (tsC sq cl) (YR _ _ _ _ _ _ _ _ _ _ _ _) _ underlying51 rfl Zz ?_;simp only[pv];refine p_c 147 func147 #[.agg (tsC sq cl)] ((Yo sq cl _).mono fun e w' ⟨he,hb⟩=>⟨he.trans (by rw[hst]),hb⟩) ?_;intro z18003 k;simp only[pv];replace r1:=k.ro r1;replace sb:=kk sb k;clear k;refine p_m ?_;refine p_s ?_;refine p_s ?_;refine p_s ?_;refine p_s ?_;simp only[pv];refine p_k false (.bool false) ?_;refine p_m ?_;refine p_s ?_;refine p_s ?_;refine p_k false (.bool false) ?_;simp only[pv];refine ZR (by rfl) 143 _ _ _ rfl #[] rfl func143 (by kernel_rfl) #[.bool false] rfl (Yg _) ?_;intro z18014 hb;exact⟨rfl,by rw[hv];rfl,Zk sb (Nat.le_refl _) hb⟩
   iterate 3 go_step
   refine rp ?_;refine p_v _ (Yy _ _ _ _ rfl .i64 kd 6 rfl rfl false (decide_eq_false (by omega))) ?_;refine p_a (Za ?_);simp only[pv];by_cases h7:kd=7
   ·skip
    iterate 4 go_step
    refine rp ?_;refine p_v _ (Yy _ _ _ _ rfl .i64 kd 7 rfl rfl true (decide_eq_true (by omega))) ?_;refine p_a (Za ?_);simp only[pv]
    cases hst:stB sq cl with
    |true=>
     cases hnl:nlB dg with
     |true=>
      cases hbr:brB n m with
      |true=>
       have hv:W0=true:=by rw[<-hW0,YK hk hop];simp[Wg,h7,hst,hnl,hbr]
       iterate 3 go_step
       refine rp ?_;refine p_m ?_;simp only[pv];refine p_v _ (Zb 56 _ 3 rfl g1 0 rfl _ underlying56 _ rfl 1 sizeOf51) ?_;simp only[pv];refine Zf (by rfl) 51 _ rfl _ (3) rfl r1.r (tsC sq cl) (YR _ _ _ _ _ _ _ _ _ _ _ _) _ underlying51 rfl Zz ?_;simp only[pv];refine p_c 147 func147 #[.agg (tsC sq cl)] ((Yo sq cl _).mono fun e w' ⟨he,hb⟩=>⟨he.trans (by rw[hst]),hb⟩) ?_;intro z20003 k;simp only[pv];replace r1:=k.ro r1;replace sb:=kk sb k;clear k;refine p_m ?_;simp only[pv];refine p_v _ (Zb 56 _ 4 rfl g1 0 rfl _ underlying56 _ rfl 0 sizeOf9) ?_;simp only[pv];refine p_d 5 r1.r (.string ⟨dg.toArray⟩) rfl isAgg9 ?_;simp only[pv];refine p_v _ (X4 _ _ _ _ rfl dg [] rfl rfl true hnl) ?_;refine p_k true (.bool true) ?_;refine p_m ?_;simp only[pv];refine Zf (by rfl) 56 _ rfl _ (0) rfl r1.r (msC kd op key sq cl dg a1 n c1 a2 m c2) (Zu _) _ underlying56 rfl ZP ?_;simp only[pv];refine p_c 146 func146 #[.agg (msC kd op key sq cl dg a1 n c1 a2 m c2)] ((Yz kd op key sq cl dg a1 n c1 a2 m c2 _).mono fun e w' ⟨he,hb⟩=>⟨he.trans (by rw[hbr]),hb⟩) ?_;intro z20011 k;simp only[pv];replace r1:=k.ro r1;replace sb:=kk sb k;clear k;refine p_k true (.bool true) ?_;simp only[pv];refine Yd (by rfl) (143) _ _ _ rfl (#[]) rfl (func143) (by kernel_rfl) #[.bool true] rfl _ (Y7 _) ?_;intro z20013 k;simp only[pv];replace r1:=k.ro r1;replace sb:=kk sb k;clear k;refine Za ?_;go_wp2
       first|(go_ret;exact⟨by rw[hv];rfl,sb⟩)|exact⟨rfl,_,results_none rfl _ _ _,by rw[hv];rfl,sb⟩
      |false=>
       have hv:W0=false:=by rw[<-hW0,YK hk hop];simp[Wg,h7,hst,hnl,hbr]
       iterate 3 go_step
       refine rp ?_;refine p_m ?_;simp only[pv];refine p_v _ (Zb 56 _ 3 rfl g1 0 rfl _ underlying56 _ rfl 1 sizeOf51) ?_;simp only[pv];refine Zf (by rfl) 51 _ rfl _ (3) rfl r1.r (tsC sq cl) (YR _ _ _ _ _ _ _ _ _ _ _ _) _ underlying51 rfl Zz ?_;simp only[pv];refine p_c 147 func147 #[.agg (tsC sq cl)] ((Yo sq cl _).mono fun e w' ⟨he,hb⟩=>⟨he.trans (by rw[hst]),hb⟩) ?_;intro z20003 k;simp only[pv];replace r1:=k.ro r1;replace sb:=kk sb k;clear k;refine p_m ?_;simp only[pv];refine p_v _ (Zb 56 _ 4 rfl g1 0 rfl _ underlying56 _ rfl 0 sizeOf9) ?_;simp only[pv];refine p_d 5 r1.r (.string ⟨dg.toArray⟩) rfl isAgg9 ?_;simp only[pv];refine p_v _ (X4 _ _ _ _ rfl dg [] rfl rfl true hnl) ?_;refine p_k true (.bool true) ?_;refine p_m ?_;simp only[pv];refine Zf (by rfl) 56 _ rfl _ (0) rfl r1.r (msC kd op key sq cl dg a1 n c1 a2 m c2) (Zu _) _ underlying56 rfl ZP ?_;simp only[pv];refine p_c 146 func146 #[.agg (msC kd op key sq cl dg a1 n c1 a2 m c2)] ((Yz kd op key sq cl dg a1 n c1 a2 m c2 _).mono fun e w' ⟨he,hb⟩=>⟨he.trans (by rw[hbr]),hb⟩) ?_;intro z20011 k;simp only[pv];replace r1:=k.ro r1;replace sb:=kk sb k;clear k;refine p_k true (.bool false) ?_;simp only[pv];refine ZR (by rfl) 143 _ _ _ rfl #[] rfl func143 (by kernel_rfl) #[.bool false] rfl (Yg _) ?_;intro z20013 hb;exact⟨rfl,by rw[hv];rfl,Zk sb (Nat.le_refl _) hb⟩
     |false=>
      have hv:W0=false:=by rw[<-hW0,YK hk hop];simp[Wg,h7,hst,hnl]
      iterate 3 go_step
      refine rp ?_;refine p_m ?_;simp only[pv];refine p_v _ (Zb 56 _ 3 rfl g1 0 rfl _ underlying56 _ rfl 1 sizeOf51) ?_;simp only[pv];refine Zf (by rfl) 51 _ rfl _ (3) rfl r1.r (tsC sq cl) (YR _ _ _ _ _ _ _ _ _ _ _ _) _ underlying51 rfl Zz ?_;simp only[pv];refine p_c 147 func147 #[.agg (tsC sq cl)] ((Yo sq cl _).mono fun e w' ⟨he,hb⟩=>⟨he.trans (by rw[hst]),hb⟩) ?_;intro z20003 k;simp only[pv];replace r1:=k.ro r1;replace sb:=kk sb k;clear k;refine p_m ?_;simp only[pv];refine p_v _ (Zb 56 _ 4 rfl g1 0 rfl _ underlying56 _ rfl 0 sizeOf9) ?_;simp only[pv];refine p_d 5 r1.r (.string ⟨dg.toArray⟩) rfl isAgg9 ?_;simp only[pv];refine p_v _ (X4 _ _ _ _ rfl dg [] rfl rfl false hnl) ?_;refine p_k true (.bool false) ?_;refine p_m ?_;refine p_s ?_;refine p_s ?_;simp only[pv];refine p_k false (.bool false) ?_;simp only[pv];refine ZR (by rfl) 143 _ _ _ rfl #[] rfl func143 (by kernel_rfl) #[.bool false] rfl (Yg _) ?_;intro z20013 hb;exact⟨rfl,by rw[hv];rfl,Zk sb (Nat.le_refl _) hb⟩
    |false=>
     have hv:W0=false:=by rw[<-hW0,YK hk hop];simp[Wg,h7,hst]
     iterate 3 go_step
     refine rp ?_;refine p_m ?_;simp only[pv];refine p_v _ (Zb 56 _ 3 rfl g1 0 rfl _ underlying56 _ rfl 1 sizeOf51) ?_;simp only[pv];refine Zf (by rfl) 51 _ rfl _ (3) rfl r1.r (tsC sq cl) (YR _ _ _ _ _ _ _ _ _ _ _ _) _ underlying51 rfl Zz ?_;simp only[pv];refine p_c 147 func147 #[.agg (tsC sq cl)] ((Yo sq cl _).mono fun e w' ⟨he,hb⟩=>⟨he.trans (by rw[hst]),hb⟩) ?_;intro z20003 k;simp only[pv];replace r1:=k.ro r1;replace sb:=kk sb k;clear k;refine p_m ?_;refine p_s ?_;refine p_s ?_;refine p_s ?_;refine p_k false (.bool false) ?_;simp only[pv];refine p_m ?_;refine p_s ?_;refine p_s ?_;refine p_k false (.bool false) ?_;simp only[pv];refine ZR (by rfl) 143 _ _ _ rfl #[] rfl func143 (by kernel_rfl) #[.bool false] rfl (Yg _) ?_;intro z20013 hb;exact⟨rfl,by rw[hv];rfl,Zk sb (Nat.le_refl _) hb⟩
   iterate 4 go_step
   refine rp ?_;refine p_v _ (Yy _ _ _ _ rfl .i64 kd 7 rfl rfl false (decide_eq_false (by omega))) ?_;refine p_a (Za ?_);simp only[pv]
   have hv:W0=false:=by rw[<-hW0,YK hk hop];simp[Wg,h1,h2,h3,h4,h8,h5,h6,h7]
   iterate 3 go_step
   refine rp ?_;refine p_m ?_;simp only[pv];refine ZR (by rfl) 143 _ _ _ rfl #[] rfl func143 (by kernel_rfl) #[.bool false] rfl (Yg _) ?_;intro z5001 hb;exact⟨rfl,by rw[hv];rfl,Zk sb (Nat.le_refl _) hb⟩
end Go.Proofs.YtcdahmommonnfaaGreatDoor
