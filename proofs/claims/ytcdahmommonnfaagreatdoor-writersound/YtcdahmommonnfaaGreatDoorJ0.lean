import Derived.Test.YtcdahmommonnfaaGreatDoorGJ
set_option maxRecDepth 100000
set_option maxHeartbeats 8000000
namespace Go.Proofs.YtcdahmommonnfaaGreatDoor
set_option linter.all false
open Go.Proofs.Tryz
open Go.RowKit
theorem Kept.ofBelow {w w':World}(h:Below w.heap.size w w'):Kept [] w w':=⟨h.os,h.tape,h.output,h.size,fun k hk _=>h.block k hk⟩
theorem Kept.nil {w w':World}(h:Kept [] w w'):Below w.heap.size w w':=h.below w.heap.size (Nat.le_refl _) (by simp)
section
variable {P:Program}{ops:Array Oper}{Q:Exit->Act->World->Prop}{rest:List Oper}{o:Oper}{a:Act}{w:World}
theorem GD (hw:Region.wanted o (yielded ops a.tmps)=false)(h:PW P ops Q rest (a.put o.dst undef) w):PW P ops Q (o::rest) a w:=by
 refine⟨?_⟩;unfold wpList;rw[if_neg (by rw[hw];simp)];exact h.out
theorem Bc (hw:Region.wanted o (yielded ops a.tmps)=true){t:Tmp}{v:Value}(ho:o.op= .move (.tmp t))(hx:a.tmps.toList[t]?=some v)(h:PW P ops Q rest (a.put o.dst v) w):PW P ops Q (o::rest) a w:=
 VY hw v (fun w=>by unfold execOp;rw[ho];simp only[WA hx];rfl) h
theorem Bd (hw:Region.wanted o (yielded ops a.tmps)=true){t:Tmp}{v:Value}(ho:o.op= .assign (.tmp t))(hx:a.tmps.toList[t]?=some v)(h:PW P ops Q rest (a.put o.dst v) w):PW P ops Q (o::rest) a w:=
 VY hw v (fun w=>by unfold execOp;rw[ho];simp only[WA hx];rfl) h
theorem ET (hw:Region.wanted o (yielded ops a.tmps)=true){x:Operand}{i:Nat}{vs:Array Value}{v:Value}(ho:o.op= .extract x i)(hx:a.eval x= .tuple vs)(hv:vs.toList[i]?=some v)(h:PW P ops Q rest (a.put o.dst v) w):PW P ops Q (o::rest) a w:=by
 have hv':vs[i]?=some v:=by rw[<-Array.getElem?_toList];exact hv
 refine Xt hw v w ?_ h;unfold execOp;rw[ho];simp only[hx,Instr.extract];simp[hv']
theorem K1 {fn:Func}(hw:Region.wanted o (yielded ops a.tmps)=true)(f:FuncId)(args:Array Operand)(ts:Array TypeId)
  (ho:o.op= .call {callee:=.value (.func f),args:=args,argTypes:=ts})(hf:P.funcs[f]?=some fn)(hb:(fn.name== "runtime.NumGoroutine" ||fn.body.isNone)=false)
  (vs:Array Value)(hv':args.toList.map a.eval=vs.toList){R:Ending->World->Prop}(hc:Calls P f vs w R)
  (h: ∀e w',R e w'-> ∃v,e= .returned v/\PW P ops Q rest (a.put o.dst v) w'):PW P ops Q (o::rest) a w:=by
 refine⟨?_⟩;unfold wpList;rw[if_pos hw];left
 refine(QT f args ts ho hf hb vs hv' ?_).out
 exact hc.mono fun e w' hR=>by
  obtain⟨v,he,hp⟩:=h e w' hR;exact⟨v,he,hp.out⟩
theorem p_f {fn:Func}(f:FuncId)(hf:P.funcs[f]?=some fn)(vs:Array Value){R:Ending->World->Prop}(hc:Calls P f vs w R)(h: ∀e w',R e w'-> ∃v,e= .returned v/\PW P ops Q rest (a.put o.dst v) w'){args:Array Operand}{ts:Array TypeId}(hw:Region.wanted o (yielded ops a.tmps)=true:=by rfl)(ho:o.op= .call {callee:=.value (.func f),args:=args,argTypes:=ts}:=by exact rfl)(hb:(fn.name== "runtime.NumGoroutine" ||fn.body.isNone)=false:=by kernel_rfl)(hv':args.toList.map a.eval=vs.toList:=by exact rfl):PW P ops Q (o::rest) a w:=K1 hw f args ts ho hf hb vs hv' hc h
theorem K2 {fn:Func}(hw:Region.wanted o (yielded ops a.tmps)=true)(f:FuncId)(args:Array Operand)(ts:Array TypeId)
  (ho:o.op= .call {callee:=.value (.func f),args:=args,argTypes:=ts})(hf:P.funcs[f]?=some fn)(hb:(fn.name== "runtime.NumGoroutine" ||fn.body.isNone)=false)
  (vs:Array Value)(hv':args.toList.map a.eval=vs.toList)(v:Value)(hc:Calls P f vs w (Rt v w))
  (h: ∀w',Kept [] w w'->PW P ops Q rest (a.put o.dst v) w'):PW P ops Q (o::rest) a w:=
 GC hw f args ts ho hf hb vs hv' v hc fun w' hb'=>h w' (Kept.ofBelow hb')
theorem p_c {fn:Func}(f:FuncId)(hf:P.funcs[f]?=some fn)(vs:Array Value){v:Value}(hc:Calls P f vs w (Rt v w))(h: ∀w',Kept [] w w'->PW P ops Q rest (a.put o.dst v) w'){args:Array Operand}{ts:Array TypeId}(hw:Region.wanted o (yielded ops a.tmps)=true:=by rfl)(ho:o.op= .call {callee:=.value (.func f),args:=args,argTypes:=ts}:=by exact rfl)(hb:(fn.name== "runtime.NumGoroutine" ||fn.body.isNone)=false:=by kernel_rfl)(hv':args.toList.map a.eval=vs.toList:=by exact rfl):PW P ops Q (o::rest) a w:=K2 hw f args ts ho hf hb vs hv' v hc h
theorem W5 (hw:Region.wanted o (yielded ops a.tmps)=true)(f:Nat->Value)(t:TypeId)(c:Array Value)(hr:(execOp a.eval o).run P w= .ok (.value (f w.heap.size)) (w.alloc (.cells c t)))
  (h: ∀g w',w.heap.size<=g->Row w' g c t->Kept [] w w'->PW P ops Q rest (a.put o.dst (f g)) w'):PW P ops Q (o::rest) a w:=
 Xt hw _ _ hr (h _ _ (Nat.le_refl _) (Row.new _ _ _) (Kept.ofBelow (Z5 _)))
theorem ZJ (hw:Region.wanted o (yielded ops a.tmps)=true)(t:TypeId)(ho:o.op= .alloc t)(c:Array Value)(hz: ∀w,(zeroValue t).run P w= .ok (.agg c) w)
  (h: ∀g w',w.heap.size<=g->Row w' g c t->Kept [] w w'->PW P ops Q rest (a.put o.dst (.pointer (some ⟨g,0,none⟩))) w'):PW P ops Q (o::rest) a w:=
 W5 hw (fun g=>.pointer (some ⟨g,0,none⟩)) t c (by unfold execOp;simp only[ho,Instr.alloc,Sem.run_bind,hz,Result.andThen_ok,newVar,newRow];rfl) h
theorem ZD (hw:Region.wanted o (yielded ops a.tmps)=true)(t:TypeId)(x:Operand)(ho:o.op= .box t x)(c:Array Value)(hx:a.eval x= .agg c)
  (h: ∀g w',w.heap.size<=g->Row w' g c t->Kept [] w w'->PW P ops Q rest (a.put o.dst (.pointer (some ⟨g,0,none⟩))) w'):PW P ops Q (o::rest) a w:=
 W5 hw (fun g=>.pointer (some ⟨g,0,none⟩)) t c (by unfold execOp;simp only[ho,hx,Instr.box,Sem.run_bind,newVar,newRow];rfl) h
theorem Xg (hw:Region.wanted o (yielded ops a.tmps)=true)(t e:TypeId)(len:Nat)(parts:Array (Nat×Operand))(ho:o.op= .buildSlice t len parts)(cells:Array Value)(ie:TypeInfo)(z:Value)
  (hu:P.underlying t=some (.slice e))(hie:P.info? e=some ie)(hz:ie.zero=some z)(hsmall: ¬len*ie.size>2^24)(hpos: ¬len*ie.size=0)
  (vals:List (Nat×Value))(hv:parts.toList.map (fun x=>(x.1,a.eval x.2))=vals)
  (hf:Instr.fill (fun i=>some (i*ie.size,ie.size)) ((Array.range (len*ie.size)).map (z.cells[· %z.cells.size]!)) vals=some cells)
  (h: ∀g w',w.heap.size<=g->Row w' g cells e->Kept [] w w'->PW P ops Q rest (a.put o.dst (.slice (some ⟨g,0,none⟩) len len)) w'):PW P ops Q (o::rest) a w:=by
 have hf':Instr.fill (fun i=>some (i*ie.size,ie.size)) ((Array.range (len*ie.size)).map (z.cells[· %z.cells.size]!)) (parts.map fun(i,x)=>(i,a.eval x)).toList=some cells:=by
  rw[Array.toList_map];rw[<-hv]at hf;exact hf
 refine W5 hw (fun g=>.slice (some ⟨g,0,none⟩) len len) e cells ?_ h;unfold execOp;simp only[ho,Sem.run_bind,run_buildSlice w t e len _ cells ie z hu hie hz hsmall hpos hf',Result.andThen_ok];rfl
theorem Wn (hw:Region.wanted o (yielded ops a.tmps)=true)(t e:TypeId)(x y:Operand)(ho:o.op= .makeSlice t x y)(i:TypeInfo)(z:Value)(ht:P.underlying t=some (.slice e))(hi:P.info? e=some i)(hz:i.zero=some z)(m:Nat)(hx:a.eval x= .int .i64 m)(hy:a.eval y= .int .i64 m)
  (hcells:m*i.size<=16777216)(hbytes:i.bytes*m<=281474976710656)(h63:m<=9223372036854775807)
  (h: ∀g w',w.heap.size<=g->Row w' g (madeCells z.cells (m*i.size)) e->Kept [] w w'->PW P ops Q rest (a.put o.dst (.slice (some ⟨g,0,none⟩) m m)) w'):PW P ops Q (o::rest) a w:=by
 refine W5 hw (fun g=>.slice (some ⟨g,0,none⟩) m m) e _ ?_ h
 have hb':(i.bytes:Int)*(m:Int)<=281474976710656:=by rw[<-Int.natCast_mul];omega
 have hr:=run_makeSlice (P:=P) w t e i z ht hi hz .i64 .i64 (m:Int) (m:Int) (by omega) (by omega) (by rw[Int.toNat_natCast];exact hcells) hb' (by omega);rw[Int.toNat_natCast]at hr;unfold execOp;simp only[ho,hx,hy,Sem.run_bind,hr,Result.andThen_ok];rfl
theorem Zf (hw:Region.wanted o (yielded ops a.tmps)=true)(ty:TypeId)(x:Operand)(ho:o.op= .load ty x)(g off:Nat)(hx:a.eval x= .pointer (some ⟨g,off,none⟩)){t:TypeId}{cs:Array Value}(hg:WD w g cs t)
  (sub:Array Value)(hs: ∀j v,sub.toList[j]?=some v->cs[off+j]?=some v)(d:TypeDesc)(hu:P.underlying ty=some d)(hd:d.isRow=true)(hi:(P.info? ty).map (·.size)=some sub.size)
  (h:PW P ops Q rest (a.put o.dst (.agg sub)) w):PW P ops Q (o::rest) a w:=
 Xt hw _ _ (YT ty x ho g off hx hg sub hs d hu hd hi) h
theorem K3 (hw:Region.wanted o (yielded ops a.tmps)=true)(ty:TypeId)(x:Operand)(ho:o.op= .load ty x)(g i:Nat)(hx:a.eval x= .pointer (some ⟨g,i,none⟩)){t:TypeId}{cs:Array Value}(hg:WD w g cs t)(v:Value)(hc:cs[i]?=some v)
  (ha: ∀w,(isAgg ty).run P w= .ok false w)(h:PW P ops Q rest (a.put o.dst v) w):PW P ops Q (o::rest) a w:=by
 refine Xt hw v w ?_ h;unfold execOp;simp only[ho,hx,Instr.loadAt,Instr.sureAddr,Sem.run_bind,Sem.run_pure,Result.andThen_ok,YC w g i ty v ha ((hg.cell i).trans hc)]
theorem p_x {t:TypeId}{x y:Operand}{g off len cap:Nat}(i:Nat)(hi:i<len){e:TypeId}(hu:P.underlying t=some (.slice e)){z:Nat}(hz: ∀w,(sizeOf e).run P w= .ok z w)(h:PW P ops Q rest (a.put o.dst (.pointer (some ⟨g,off+i*z,none⟩))) w)(hw:Region.wanted o (yielded ops a.tmps)=true:=by rfl)(ho:o.op= .indexAddr t x y:=by exact rfl)(hx:a.eval x= .slice (some ⟨g,off,none⟩) len cap:=by exact rfl)(hy:a.eval y= .int .i64 i:=by exact rfl):PW P ops Q (o::rest) a w:=VY hw _ (Zs t x y ho g off len cap hx i hy hi e hu z hz) h
theorem p_d {ty:TypeId}{x:Operand}{g:Nat}(i:Nat){t:TypeId}{cs:Array Value}(hg:WD w g cs t)(v:Value)(hc:cs[i]?=some v)(ha: ∀w,(isAgg ty).run P w= .ok false w)(h:PW P ops Q rest (a.put o.dst v) w)(hw:Region.wanted o (yielded ops a.tmps)=true:=by rfl)(ho:o.op= .load ty x:=by exact rfl)(hx:a.eval x= .pointer (some ⟨g,i,none⟩):=by exact rfl):PW P ops Q (o::rest) a w:=K3 hw ty x ho g i hx hg v hc ha h
theorem XO {g:Nat}{w w':World}(h:Only g w w'):Kept [g] w w':=⟨h.os,h.tape,h.output,by rw[h.size];exact Nat.le_refl _,fun k _ hk=>h.block k (by simpa using hk)⟩
theorem Ud (hw:Region.wanted o (yielded ops a.tmps)=true)(w':World)(hr:(execOp a.eval o).run P w= .ok .skip w')(h:PW P ops Q rest (a.put o.dst undef) w'):PW P ops Q (o::rest) a w:=by
 refine⟨?_⟩;unfold wpList;rw[if_pos hw];left
 unfold Oper.wp;rw[hr];exact h.out
theorem X2 (hw:Region.wanted o (yielded ops a.tmps)=true)(ty:TypeId)(x y:Operand)(ho:o.op= .store ty x y)(g off:Nat)(hx:a.eval x= .pointer (some ⟨g,off,none⟩)){t:TypeId}{old:Array Value}(hg:Row w g old t)(sub:Array Value)(hy:a.eval y= .agg sub)
  (hi:(P.info? ty).map (·.size)=some sub.size)(hold:off+sub.size<=old.size)(h1:sub.all (·.oneCell')=true)(c:Array Value)(hc:Sn old off sub.toList=c)
  (h: ∀w',Row w' g c t->Kept [g] w w'->PW P ops Q rest (a.put o.dst undef) w'):PW P ops Q (o::rest) a w:=by
 subst hc;refine Ud hw (w.setCells g off sub.toList) ?_ (h _ (Row.setCells _ _ hg) (XO (YZ _ _ _ _)));unfold execOp;simp only[ho,hx,hy,Instr.storeAt,Instr.sureAddr,Sem.run_bind,Sem.run_pure,Result.andThen_ok,run_storeVar_mid w _ off ty sub (Xs hg off _ hold) hi h1]
theorem Z0 (hw:Region.wanted o (yielded ops a.tmps)=true)(ty:TypeId)(x y:Operand)(ho:o.op= .store ty x y)(g:Nat)(hx:a.eval x= .pointer (some ⟨g,0,none⟩)){t:TypeId}{old:Array Value}(hg:Row w g old t)(c:Array Value)(hy:a.eval y= .agg c)
  (hi:(P.info? ty).map (·.size)=some c.size)(hold:old.size=c.size)(h1:c.all (·.oneCell')=true)
  (h: ∀w',Row w' g c t->Kept [g] w w'->PW P ops Q rest (a.put o.dst undef) w'):PW P ops Q (o::rest) a w:=by
 refine Ud hw (w.setRow g c) ?_ (h _ (hg.setRow _) (XO (W2 _ _ _)));unfold execOp;simp only[ho,hx,hy,Instr.storeAt,Instr.sureAddr,Sem.run_bind,Sem.run_pure,Result.andThen_ok,run_storeVar_row w _ t ty old c hg hi hold h1]
theorem Yj (hw:Region.wanted o (yielded ops a.tmps)=true)(ty:TypeId)(x y:Operand)(ho:o.op= .store ty x y)(g i:Nat)(hx:a.eval x= .pointer (some ⟨g,i,none⟩)){t:TypeId}{old:Array Value}(hg:Row w g old t)(v:Value)(hy:a.eval y=v)
  (hv:v.cells=#[v])(h1:v.oneCell'=true)(hz:(P.info? ty).map (·.size)=some 1)(hi:i<old.size)(c:Array Value)(hc:old.setIfInBounds i v=c)
  (h: ∀w',Row w' g c t->Kept [g] w w'->PW P ops Q rest (a.put o.dst undef) w'):PW P ops Q (o::rest) a w:=by
 subst hc;refine Ud hw (w.setCell ⟨g,i,none⟩ v) ?_ (h _ (hg.setCell _ _) (XO (XV _ _ _ _)));have hcell:w.cell? ⟨g,i,none⟩=some old[i]:=(hg.cell i).trans (by simp[hi]);unfold execOp;simp only[ho,hx,hy,Instr.storeAt,Instr.sureAddr,Sem.run_bind,Sem.run_pure,Result.andThen_ok,Vo w _ i ty v _ hv h1 hz hcell (hg.frozen i)]
end
theorem YP {P:Program}{fn:Func}{R:Ending->World->Prop}{a:Act}{w:World}{p:Tmp}{ty:TypeId}(hf:fn.results=#[.cell p ty])(g:Nat)(hp:a.tmps.getD p undef= .pointer (some ⟨g,0,none⟩))
  {t:TypeId}{cs:Array Value}(hr:Row w g cs t)(fs:Array Field)(hu:P.underlying ty=some (.struct fs))(hi:(P.info? ty).map (·.size)=some cs.size)(hd:a.defers=[])
  (h:R (.returned (.agg cs)) w):bodyPost P fn R .ret a w:=
 bodyPost_ret (results_cell_row hf a.tmps w g t cs (0,0) _ hp hr hu rfl hi) hd h
section
variable {P:Program}{o:Oper}{ρ:Operand->Value}
theorem YA (t:TypeId)(x:Operand)(ho:o.op= .call {callee:=.builtin .len,args:=#[x],argTypes:=#[t]})(l:List UInt8)(hx:ρ x= .string ⟨l.toArray⟩)(hu:P.underlying t=some .string)(w:World):
  (execOp ρ o).run P w= .ok (.value (.int .i64 l.length)) w:=by
 have hs:(⟨l.toArray⟩:ByteArray).size=l.length:=by simp[ByteArray.size]
 unfold execOp;simp only[ho];simp[resolve,invoke,builtin,hx,go_sem,goInt,hu,hs]
def yb (l:List UInt8)(i:Nat):Nat:=(l.getD i 0).toNat
theorem TE (t:TypeId)(x ix:Operand)(ho:o.op= .index t x ix)(hu:P.underlying t=some .string)(l:List UInt8)(hx:ρ x= .string ⟨l.toArray⟩)
  (k:IntKind)(i:Nat)(hi:ρ ix= .int k i)(h1:i<l.length)(w:World):(execOp ρ o).run P w= .ok (.value (.int .u8 (yb l i:Nat))) w:=by
 have hs:(⟨l.toArray⟩:ByteArray).size=l.length:=by simp[ByteArray.size]
 unfold execOp;simp only[ho,hx,hi,Sem.run_bind];rw[run_index_string w t ⟨l.toArray⟩ k i hu,dif_pos ⟨by omega,by omega⟩];show Result.ok (Next.value _) w=_
 congr 4
 have:(⟨l.toArray⟩:ByteArray)[(i:Int).toNat]'(by rw[hs];omega)=l[i]:=by
  simp[ByteArray.getElem_eq_getElem_data]
 rw[this];unfold yb;simp[h1]
theorem Q6 (s d:TypeId)(x:Operand)(ho:o.op= .convert s d x)(ks kd:IntKind)(hs:P.underlying s=some (.int ks))(hd:P.underlying d=some (.int kd))(n:Int)(r:Int)(hx:ρ x= .int ks n)(hr:kd.wrap n=r)(w:World):
  (execOp ρ o).run P w= .ok (.value (.int kd r)) w:=by
 subst hr;unfold execOp;simp only[ho,hx];simp[convert,run_underlying hs,run_underlying hd,go_sem]
theorem YU (s:TypeId)(x:Operand)(fi:Nat)(ho:o.op= .field s x fi)(v r:Value)(hx:ρ x=v)(hr: ∀w,(Instr.field s v fi).run P w= .ok r w)(w:World):(execOp ρ o).run P w= .ok (.value r) w:=by
 unfold execOp;simp only[ho,hx,Sem.run_bind,hr,Result.andThen_ok];rfl
theorem Zm (t:TypeId)(l:List (Nat×Operand))(ho:o.op= .build t l.toArray)(vs:List (Nat×Value))(hv:l.map (fun q=>(q.1,ρ q.2))=vs)(c:Array Value)(hb:P.built t vs=some c)(w:World):
  (execOp ρ o).run P w= .ok (.value (.agg c)) w:=by
 unfold execOp;simp only[ho,List.map_toArray,Sem.run_bind];rw[show(l.map fun x=>match x with|(i,y)=>(i,ρ y))=vs from hv,run_build w t vs.toArray c (by simpa using hb)];rfl
end
section
variable {P:Program}{ops:Array Oper}{Q:Exit->Act->World->Prop}{rest:List Oper}{o:Oper}{a:Act}{w:World}
theorem p_m {t:Tmp}{v:Value}(h:PW P ops Q rest (a.put o.dst v) w)(hw:Region.wanted o (yielded ops a.tmps)=true:=by rfl)(ho:o.op= .move (.tmp t):=by exact rfl)(hx:a.tmps.toList[t]?=some v:=by exact rfl):PW P ops Q (o::rest) a w:=Bc hw ho hx h
theorem p_a {t:Tmp}{v:Value}(h:PW P ops Q rest (a.put o.dst v) w)(hw:Region.wanted o (yielded ops a.tmps)=true:=by rfl)(ho:o.op= .assign (.tmp t):=by exact rfl)(hx:a.tmps.toList[t]?=some v:=by exact rfl):PW P ops Q (o::rest) a w:=Bd hw ho hx h
theorem p_e {x:Operand}{i:Nat}{vs:Array Value}{v:Value}(h:PW P ops Q rest (a.put o.dst v) w)(hw:Region.wanted o (yielded ops a.tmps)=true:=by rfl)(ho:o.op= .extract x i:=by exact rfl)(hx:a.eval x= .tuple vs:=by exact rfl)(hv:vs.toList[i]?=some v:=by exact rfl):PW P ops Q (o::rest) a w:=ET hw ho hx hv h
theorem p_s (h:PW P ops Q rest (a.put o.dst undef) w)(hw:Region.wanted o (yielded ops a.tmps)=false:=by rfl):PW P ops Q (o::rest) a w:=GD hw h
end
theorem Q7 (A n k:Nat):(A*2^n).testBit k=(decide (n<=k)&&A.testBit (k-n)):=by
 rw[Nat.mul_comm,Nat.testBit_two_pow_mul]
theorem TF (A n k:Nat):(A/2^n).testBit k=A.testBit (k+n):=by
 rw[Nat.testBit_div_two_pow,Nat.add_comm]
def upV (A f j:Nat):Nat:=lm A j*2^f%18446744073709551616
def upW (A f j:Nat):Nat:=upV A f j|||lm A (j-1)/2^(64-f)
def UW (A f i:Nat):Nat:=lm A i/2^f
def RZ (A f i:Nat):Nat:=UW A f i|||lm A (i+1)*2^(64-f)%18446744073709551616
theorem EU (A f j:Nat):upV A f j<18446744073709551616:=Nat.mod_lt _ (by decide)
theorem K4 (A f j:Nat):UW A f j<18446744073709551616:=Nat.lt_of_le_of_lt (Nat.div_le_self _ _) (Xz A j)
theorem Q8 (x f:Nat):IntKind.u64.wrap ((x:Int)*2^f)=((x*2^f%18446744073709551616:Nat):Int):=by
 rw[IntKind.wrap_u64,show((x:Int)*2^f)=((x*2^f:Nat):Int) by simp];omega
theorem NK (A f j:Nat):IntKind.u64.wrap ((lm A j:Int)*2^f)=(upV A f j:Nat):=Q8 _ _
theorem Be (A f j:Nat):bits .or .u64 (IntKind.u64.wrap ((lm A j:Int)*2^f)) ((lm A (j-1):Int)/2^(64-f))=(upW A f j:Nat):=by
 rw[NK,show((lm A (j-1):Int)/2^(64-f))=((lm A (j-1)/2^(64-f):Nat):Int) by simp];exact u64_or_nat _ _ (EU A f j) (Nat.lt_of_le_of_lt (Nat.div_le_self _ _) (Xz A _))
theorem TG (A f j:Nat):((lm A j:Int)/2^f)=(UW A f j:Nat):=by simp[UW]
theorem GE (A f j:Nat):bits .or .u64 ((lm A j:Int)/2^f) (IntKind.u64.wrap ((lm A (j+1):Int)*2^(64-f)))=(RZ A f j:Nat):=by
 rw[TG,Q8];exact u64_or_nat _ _ (K4 A f j) (Nat.mod_lt _ (by decide))
theorem NL (A f j i:Nat):(upV A f j).testBit i=(decide (i<64)&&(decide (f<=i)&&A.testBit (64*j+(i-f)))):=by
 unfold upV;rw[show 18446744073709551616=2^64 from rfl,Nat.testBit_mod_two_pow,Q7,ZW];by_cases hi:i<64
 ·simp[hi,show i-f<64 by omega]
 ·simp[hi]
theorem K5 (A L f:Nat):lm (A*2^(64*L+f)) (L+0)=upV A f 0:=by
 apply Nat.eq_of_testBit_eq;intro i;rw[ZW,Q7,NL];by_cases hf:f<=i
 ·rw[decide_eq_true hf,decide_eq_true (show 64*L+f<=64*(L+0)+i by omega),show 64*(L+0)+i-(64*L+f)=64*0+(i-f) by omega]
 ·rw[decide_eq_false hf,decide_eq_false (show ¬64*L+f<=64*(L+0)+i by omega),Bool.false_and,Bool.false_and]
theorem GH (A L f j:Nat)(hj:0<j)(hf:f<64):lm (A*2^(64*L+f)) (L+j)=upW A f j:=by
 apply Nat.eq_of_testBit_eq;intro i;unfold upW;rw[ZW,Q7,Nat.testBit_or,NL,TF,ZW];by_cases hi:i<64
 ·have e1:64*(L+j)+i-(64*L+f)=64*j+i-f:=by omega
  rw[e1,decide_eq_true (show 64*L+f<=64*(L+j)+i by omega),decide_eq_true hi];by_cases hfi:f<=i
  ·rw[decide_eq_true hfi,decide_eq_false (show ¬i+(64-f)<64 by omega),show 64*j+i-f=64*j+(i-f) by omega];simp
  ·rw[decide_eq_false hfi,decide_eq_true (show i+(64-f)<64 by omega),show 64*(j-1)+(i+(64-f))=64*j+i-f by omega];simp
 ·rw[decide_eq_false hi,decide_eq_false (show ¬i+(64-f)<64 by omega)];simp
theorem NM (A f j i:Nat):(UW A f j).testBit i=(decide (i+f<64)&&A.testBit (64*j+(i+f))):=by
 unfold UW;rw[TF,ZW]
theorem SK (A L f j:Nat)(hf:f<64):lm (A/2^(64*L+f)) j=RZ A f (j+L):=by
 apply Nat.eq_of_testBit_eq;intro i;unfold RZ;rw[ZW,TF,Nat.testBit_or,NM,show 18446744073709551616=2^64 from rfl,Nat.testBit_mod_two_pow,Q7,ZW];have e1:64*j+i+(64*L+f)=64*(j+L)+(i+f):=by omega
 rw[e1];by_cases hi:i<64
 ·by_cases h2:i+f<64
  ·simp[hi,h2,show ¬64-f<=i by omega]
  ·simp[hi,h2,show 64-f<=i by omega,show i-(64-f)<64 by omega,show 64*(j+L+1)+(i-(64-f))=64*(j+L)+(i+f) by omega]
 ·simp[hi,show ¬i+f<64 by omega]
theorem NN (A f i:Nat)(h:lm A (i+1)=0):RZ A f i=UW A f i:=by
 unfold RZ;rw[h,Nat.zero_mul,Nat.zero_mod,Nat.or_zero]
theorem GI (A:Nat)(h:A<2^256):lm A 4=0:=by
 unfold lm;rw[Nat.div_eq_of_lt h]
theorem EX (A L f:Nat)(w:World)(hf:f<64)(hL:L<4)(h1:1<=64*L+f):
  Calls prog 175 #[.agg (Zc A),.int .i64 (64*L+f:Nat)] w fun e w'=>e= .returned (.agg (Zc (A*2^(64*L+f))))/\Below w.heap.size w w':=by
 have hk1: ¬(((64*L+f:Nat):Int)<1):=by omega
 have hk2: ¬((256:Int)<=((64*L+f:Nat):Int)):=by omega
 have hq:((64*L+f:Nat):Int)/64=(L:Int):=by omega
 have hr:((64*L+f:Nat):Int)%64=(f:Int):=by omega
 have HK:Hid (∃k:Nat,k=64*L+f):=⟨_,rfl⟩;obtain⟨k,hk⟩:=HK.out;rw[<-hk]at hk1 hk2 hq hr ⊢;have HK:Hid (k=64*L+f/\1<=64*L+f):=⟨hk,h1⟩;clear hk h1
 go_enter func175,ntmps175
 go_wp2_with (first
  |refine Zr rfl 39 _ rfl _ rfl ?_
  |refine Zj rfl 39 rfl _ Zv ?_)
 go_loopg [21] (4-L) (fun g s21 wr=> ∃j:Nat,j+g=4-L/\s21= .int .i64 j/\Row wr w.heap.size (Zc A) 39/\Row wr (w.heap.size+1) (Zc 0) 39/\Row wr (w.heap.size+1+1) (Zc (A*2^k%2^(64*(L+j)))) 39/\Below w.heap.size w wr)
 case atStart=>
  refine⟨0,by omega,rfl,Row.two rfl,Row.one (by simp),?_,Y9 _ _ _⟩;rw[show A*2^k%2^(64*(L+0))=0 by rw[HK.out.1,Nat.pow_add,<-Nat.mul_assoc,Nat.mul_right_comm];exact Nat.mul_mod_left _ _];exact Row.here (by simp)
 case round=>
  obtain⟨j,hj,rfl,r0,r1,r2,hb⟩:=hrel
  cases gk with
  |zero=>
   obtain rfl:j=4-L:=by omega
   rw[show 64*(L+(4-L))=256 by omega,Yu]at r2;clear hj;have hx: ¬(((4-L:Nat):Int)<4-L):=by omega
   have hx':((4-L:Nat):Int)=4-L:=by omega
   rw[hx'];have hx'': ¬((4:Int)-L<4-L):=by omega
   clear hx hx'
   go_wp2_with (first
    |refine Zh rfl 39 _ rfl _ rfl r2 4 _ underlying39 (by exact Ze) ?_
    |refine Zw rfl 39 _ _ rfl _ _ rfl rfl r1 (by exact Ze) (by simp only[Zt]) (ZA _) ?_)
   exact ZX rfl _ rfl (r1.setRow _) 4 _ underlying39 (by exact Ze) rfl ⟨by rw[HK.out.1],Zy hb (by omega) _⟩
  |succ g=>
   have hlt:(j:Int)<4-L:=by omega
   have hj4:(j:Int)<4:=by omega
   have hjL:(j:Int)+L<4:=by omega
   have hc0:=ZV r0 j (by omega);have hc1:=ZV r0 (j-1) (by omega);have hc2:=ZV r2 (j+L) (by omega);have hf2:=r2.frozen (j+L);have R:Aside (Row wr w.heap.size (Zc A) 39/\Row wr (w.heap.size+1) (Zc 0) 39/\Row wr (w.heap.size+1+1) (Zc (A*2^k%2^(64*(L+j)))) 39/\Below w.heap.size w wr):=⟨r0,r1,r2,hb⟩;clear r0 r1 r2 hb;by_cases hj0:0<j
   ·have hj0':(0:Int)<j:=by omega
    have hjm:((j:Int)-1).toNat=j-1:=by omega
    go_wp2
    go_region
    go_wp2;obtain⟨r0,r1,r2,hb⟩:=R.out
    go_roundg g
    case measure=>omega
    case rel=>
     refine⟨j+1,by omega,by go_num,((r0.setCell_far _ _ _ (by omega)).setCell_far _ _ _ (by omega)).drew,((r1.setCell_far _ _ _ (by omega)).setCell_far _ _ _ (by omega)).drew,?_,(Z3 (Z3 hb (by omega) _ _) (by omega) _ _).drew⟩;have:=((r2.setCell (j+L) (.int .u64 (upV A f j:Nat))).setCell (j+L) (.int .u64 (upW A f j:Nat))).drew;rw[Array.setIfInBounds_setIfInBounds,Nat.add_comm j L,Xr (A*2^k) (L+j) _ (by omega) (by rw[HK.out.1,GH A L f j hj0 hf])]at this;rw[Be,NK,Nat.add_comm j L];exact this
   ·obtain rfl:j=0:=by omega
    have hj0': ¬((0:Int)<((0:Nat):Int)):=by omega
    rw[Nat.zero_add]at hc2 hf2;go_wp2;obtain⟨r0,r1,r2,hb⟩:=R.out
    go_roundg g
    case measure=>omega
    case rel=>
     refine⟨1,by omega,by go_num,r0.setCell_far _ _ _ (by omega),r1.setCell_far _ _ _ (by omega),?_,Z3 hb (by omega) _ _⟩;have:=r2.setCell (L+0) (.int .u64 (upV A f 0:Nat));rw[Xr (A*2^k) (L+0) _ (by omega) (by rw[HK.out.1,K5 A L f])]at this;rw[NK];exact this
theorem GK (A:Nat)(k:Int)(w:World)(h:k<1):
  Calls prog 175 #[.agg (Zc A),.int .i64 k] w fun e w'=>e= .returned (.agg (Zc A))/\Below w.heap.size w w':=by
 have rA:Row ((w.alloc (.cells (Zc A) 39)).alloc (.cells (Zc 0) 39)) w.heap.size (Zc A) 39:=Row.one rfl;have rR:Row ((w.alloc (.cells (Zc A) 39)).alloc (.cells (Zc 0) 39)) (w.heap.size+1) (Zc 0) 39:=Row.here (by simp)
 go_enter func175,ntmps175
 go_wp2_with (first
  |refine Zr rfl 39 _ rfl _ rfl ?_
  |refine Zj rfl 39 rfl _ Zv ?_
  |refine Zh rfl 39 _ rfl _ rfl rA 4 _ underlying39 (by exact Ze) ?_
  |refine Zw rfl 39 _ _ rfl _ _ rfl rfl rR (by exact Ze) (by simp only[Zt]) (ZA _) ?_)
 exact ZX rfl _ rfl (rR.setRow _) 4 _ underlying39 (by exact Ze) rfl ⟨rfl,Zy (Ye _ _) (by omega) _⟩
theorem K6 (A:Nat)(k:Int)(w:World)(h:256<=k):
  Calls prog 175 #[.agg (Zc A),.int .i64 k] w fun e w'=>e= .returned (.agg (Zc 0))/\Below w.heap.size w w':=by
 have rR:Row ((w.alloc (.cells (Zc A) 39)).alloc (.cells (Zc 0) 39)) (w.heap.size+1) (Zc 0) 39:=Row.here (by simp);have h1: ¬k<1:=by omega
 go_enter func175,ntmps175
 go_wp2_with (first
  |refine Zr rfl 39 _ rfl _ rfl ?_
  |refine Zj rfl 39 rfl _ Zv ?_
  |refine ZL rfl 39 rfl _ ZO ?_
  |refine Zw rfl 39 _ _ rfl _ _ rfl rfl rR (by exact Ze) (by simp only[Zt]) (ZA _) ?_)
 exact ZX rfl _ rfl (rR.setRow _) 4 _ underlying39 (by exact Ze) rfl ⟨rfl,Zy (Ye _ _) (by omega) _⟩
theorem NO (A:Nat)(k:Int)(w:World):
  Calls prog 175 #[.agg (Zc A),.int .i64 k] w (Rt (.agg (Zc (A*2^k.toNat))) w):=by
 by_cases h0:k<1
 ·rw[show k.toNat=0 by omega,Nat.pow_zero,Nat.mul_one];exact GK A k w h0
 ·by_cases h1:256<=k
  ·have e:Zc (A*2^k.toNat)=Zc 0:=by
    refine(VF _ _).2 ?_;rw[show k.toNat=(k.toNat-256)+256 by omega,Nat.pow_add,<-Nat.mul_assoc,Nat.mul_mod_left,Nat.zero_mod]
   rw[e];exact K6 A k w h1
  ·obtain⟨K,rfl⟩:=Int.eq_ofNat_of_zero_le (show 0<=k by omega);rw[Int.toNat_natCast];have:=EX A (K/64) (K%64) w (Nat.mod_lt _ (by decide)) (by omega) (by omega);rw[show 64*(K/64)+K%64=K by omega]at this;exact this
theorem K7 (A L f:Nat)(w:World)(hf:f<64)(hL:L<4)(h1:1<=64*L+f)(hA:A<2^256):
  Calls prog 177 #[.agg (Zc A),.int .i64 (64*L+f:Nat)] w fun e w'=>e= .returned (.agg (Zc (A/2^(64*L+f))))/\Below w.heap.size w w':=by
 have hk1: ¬(((64*L+f:Nat):Int)<1):=by omega
 have hk2: ¬((256:Int)<=((64*L+f:Nat):Int)):=by omega
 have hq:((64*L+f:Nat):Int)/64=(L:Int):=by omega
 have hr:((64*L+f:Nat):Int)%64=(f:Int):=by omega
 have HK:Hid (∃k:Nat,k=64*L+f):=⟨_,rfl⟩;obtain⟨k,hk⟩:=HK.out;rw[<-hk]at hk1 hk2 hq hr ⊢;have HK:Hid (k=64*L+f/\1<=64*L+f):=⟨hk,h1⟩;clear hk h1;have HA:Hid (A<2^256):=hA;clear hA
 go_enter func177,ntmps177
 go_wp2_with (first
  |refine Zr rfl 39 _ rfl _ rfl ?_
  |refine Zj rfl 39 rfl _ Zv ?_)
 go_loopg [22] (4-L) (fun g s21 wr=> ∃j:Nat,j+g=4-L/\s21= .int .i64 j/\Row wr w.heap.size (Zc A) 39/\Row wr (w.heap.size+1) (Zc 0) 39/\Row wr (w.heap.size+1+1) (Zc (A/2^k%2^(64*j))) 39/\Below w.heap.size w wr)
 case atStart=>
  refine⟨0,by omega,rfl,Row.two rfl,Row.one (by simp),?_,Y9 _ _ _⟩;rw[show A/2^k%2^(64*0)=0 by simp[Nat.mod_one]];exact Row.here (by simp)
 case round=>
  obtain⟨j,hj,rfl,r0,r1,r2,hb⟩:=hrel
  cases gk with
  |zero=>
   obtain rfl:j=4-L:=by omega
   have hdl:A/2^k<2^(64*(4-L)):=by
    refine Nat.div_lt_of_lt_mul (Nat.lt_of_lt_of_le HA.out ?_);rw[<-Nat.pow_add];exact Nat.pow_le_pow_right (by decide) (by have:=HK.out.1;omega)
   rw[Nat.mod_eq_of_lt hdl]at r2;clear hdl;clear hj;have hx: ¬(((4-L:Nat):Int)<4-L):=by omega
   have hx':((4-L:Nat):Int)=4-L:=by omega
   rw[hx'];have hx'': ¬((4:Int)-L<4-L):=by omega
   clear hx hx'
   go_wp2_with (first
    |refine Zh rfl 39 _ rfl _ rfl r2 4 _ underlying39 (by exact Ze) ?_
    |refine Zw rfl 39 _ _ rfl _ _ rfl rfl r1 (by exact Ze) (by simp only[Zt]) (ZA _) ?_)
   exact ZX rfl _ rfl (r1.setRow _) 4 _ underlying39 (by exact Ze) rfl ⟨by rw[HK.out.1],Zy hb (by omega) _⟩
  |succ g=>
   have hlt:(j:Int)<4-L:=by omega
   have hj4:(j:Int)<4:=by omega
   have hjL:(j:Int)+L<4:=by omega
   have hc0:=ZV r0 (j+L) (by omega);have hc2:=ZV r2 j (by omega);have hf2:=r2.frozen j;have R:Aside (Row wr w.heap.size (Zc A) 39/\Row wr (w.heap.size+1) (Zc 0) 39/\Row wr (w.heap.size+1+1) (Zc (A/2^k%2^(64*j))) 39/\Below w.heap.size w wr):=⟨r0,r1,r2,hb⟩;by_cases hj0:(j:Int)+L+1<4
   ·have hc1:=ZV r0 (j+L+1) (by omega);clear r0 r1 r2 hb;go_wp2
    go_region
    go_wp2;obtain⟨r0,r1,r2,hb⟩:=R.out
    go_roundg g
    case measure=>omega
    case rel=>
     refine⟨j+1,by omega,by go_num,((r0.setCell_far _ _ _ (by omega)).setCell_far _ _ _ (by omega)).drew,((r1.setCell_far _ _ _ (by omega)).setCell_far _ _ _ (by omega)).drew,?_,(Z3 (Z3 hb (by omega) _ _) (by omega) _ _).drew⟩;have:=((r2.setCell j (.int .u64 (UW A f (j+L):Nat))).setCell j (.int .u64 (RZ A f (j+L):Nat))).drew;rw[Array.setIfInBounds_setIfInBounds,Xr (A/2^k) j _ (by omega) (by rw[HK.out.1,SK A L f j hf])]at this;rw[GE,TG];exact this
   ·clear r0 r1 r2 hb;have HT:Hid (RZ A f (j+L)=UW A f (j+L)):=NN A f _ (by rw[show j+L+1=4 by omega];exact GI A HA.out);go_wp2;obtain⟨r0,r1,r2,hb⟩:=R.out
    go_roundg g
    case measure=>omega
    case rel=>
     refine⟨j+1,by omega,by go_num,r0.setCell_far _ _ _ (by omega),r1.setCell_far _ _ _ (by omega),?_,Z3 hb (by omega) _ _⟩;have:=r2.setCell j (.int .u64 (UW A f (j+L):Nat));rw[Xr (A/2^k) j _ (by omega) (by rw[HK.out.1,SK A L f j hf,HT.out])]at this;rw[TG];exact this
theorem NP (A:Nat)(k:Int)(w:World)(h:k<1):
  Calls prog 177 #[.agg (Zc A),.int .i64 k] w fun e w'=>e= .returned (.agg (Zc A))/\Below w.heap.size w w':=by
 have rA:Row ((w.alloc (.cells (Zc A) 39)).alloc (.cells (Zc 0) 39)) w.heap.size (Zc A) 39:=Row.one rfl;have rR:Row ((w.alloc (.cells (Zc A) 39)).alloc (.cells (Zc 0) 39)) (w.heap.size+1) (Zc 0) 39:=Row.here (by simp)
 go_enter func177,ntmps177
 go_wp2_with (first
  |refine Zr rfl 39 _ rfl _ rfl ?_
  |refine Zj rfl 39 rfl _ Zv ?_
  |refine Zh rfl 39 _ rfl _ rfl rA 4 _ underlying39 (by exact Ze) ?_
  |refine Zw rfl 39 _ _ rfl _ _ rfl rfl rR (by exact Ze) (by simp only[Zt]) (ZA _) ?_)
 exact ZX rfl _ rfl (rR.setRow _) 4 _ underlying39 (by exact Ze) rfl ⟨rfl,Zy (Ye _ _) (by omega) _⟩
theorem On (A:Nat)(k:Int)(w:World)(h:256<=k):
  Calls prog 177 #[.agg (Zc A),.int .i64 k] w fun e w'=>e= .returned (.agg (Zc 0))/\Below w.heap.size w w':=by
 have rR:Row ((w.alloc (.cells (Zc A) 39)).alloc (.cells (Zc 0) 39)) (w.heap.size+1) (Zc 0) 39:=Row.here (by simp);have h1: ¬k<1:=by omega
 go_enter func177,ntmps177
 go_wp2_with (first
  |refine Zr rfl 39 _ rfl _ rfl ?_
  |refine Zj rfl 39 rfl _ Zv ?_
  |refine ZL rfl 39 rfl _ ZO ?_
  |refine Zw rfl 39 _ _ rfl _ _ rfl rfl rR (by exact Ze) (by simp only[Zt]) (ZA _) ?_)
 exact ZX rfl _ rfl (rR.setRow _) 4 _ underlying39 (by exact Ze) rfl ⟨rfl,Zy (Ye _ _) (by omega) _⟩
theorem Ue (A:Nat)(k:Int)(w:World)(hA:A<2^256):
  Calls prog 177 #[.agg (Zc A),.int .i64 k] w (Rt (.agg (Zc (A/2^k.toNat))) w):=by
 by_cases h0:k<1
 ·rw[show k.toNat=0 by omega,Nat.pow_zero,Nat.div_one];exact NP A k w h0
 ·by_cases h1:256<=k
  ·rw[Nat.div_eq_of_lt (Nat.lt_of_lt_of_le hA (Nat.pow_le_pow_right (by decide) (by omega)))];exact On A k w h1
  ·obtain⟨K,rfl⟩:=Int.eq_ofNat_of_zero_le (show 0<=k by omega);rw[Int.toNat_natCast];have:=K7 A (K/64) (K%64) w (Nat.mod_lt _ (by decide)) (by omega) (by omega) hA;rw[show 64*(K/64)+K%64=K by omega]at this;exact this
end Go.Proofs.YtcdahmommonnfaaGreatDoor
