import Derived.Test.YtcdahmommonnfaaGreatDoorGF
import Derived.Deep.MidRow
import Derived.Great.BuildSlice
import Derived.Laws.MakeOwn
namespace Go.Proofs.YtcdahmommonnfaaGreatDoor
set_option linter.all false
open Go.RowKit
section
variable {P:Program}{olds:Wz}{p:Nat->Nat}{W:World}{F:Act->Ct->Prop}{n:Nat}{l:List Oper}{pl:List Sp}{a:Act}{ct:Ct}{o:Oper}
theorem Wm {fn:Func}{en:Array Value->Sem Value}{w:World}
  (f:FuncId)(args:Array Operand)(ts:Array TypeId)(ho:o.op= .call {callee:=.value (.func f),args:=args,argTypes:=ts})
  (hf:P.funcs[f]?=some fn)(hname:(fn.name== "runtime.NumGoroutine")=false)(hb:fn.body.isNone=true)(hn:Extern.findNext fn=none)(he:Extern.find fn=some en)
  (vs:Array Value)(hv':args.toList.map a.eval=vs.toList)(v:Value)(hr:(en vs).run P w= .ok v w):(execOp a.eval o).run P w= .ok (.value v) w:=by
 have hv:args.map a.eval=vs:=by apply Array.toList_inj.1;rw[Array.toList_map];exact hv'
 unfold execOp;have hc:=run_callFunc_extern (P:=P) hf hname hb hn he vs w;rw[hr]at hc;simp only[ho,resolve,hv,Act.eval];simp[Deferred.ofValue,invoke,hc]
def WD (w:World)(b:Nat)(c:Array Value)(t:TypeId):Prop:= ∃fr,w.heap[b]?=some (.cells c t fr)
theorem Row.r {w:World}{b:Nat}{c:Array Value}{t:TypeId}(h:Row w b c t):WD w b c t:=⟨_,h⟩
theorem WD.lt {w:World}{b:Nat}{c:Array Value}{t:TypeId}(h:WD w b c t):b<w.heap.size:=by
 obtain⟨fr,h⟩:=h;exact(Array.getElem?_eq_some_iff.1 h).1
theorem WD.cell {w:World}{b:Nat}{c:Array Value}{t:TypeId}(h:WD w b c t)(i:Nat):w.cell? ⟨b,i,none⟩=c[i]?:=by
 obtain⟨fr,h⟩:=h;exact cell_of_row w b i c t fr h
theorem WD.belowAll {w w':World}{b:Nat}{c:Array Value}{t:TypeId}(h:WD w b c t)(hb:Below w.heap.size w w'):WD w' b c t:=by
 have hl:=h.lt;obtain⟨fr,h⟩:=h;exact⟨fr,(hb.block b hl).trans h⟩
theorem Kept.rowR {S:List Nat}{w w':World}(h:Kept S w w'){b:Nat}{c:Array Value}{t:TypeId}(r:WD w b c t)(hb:b∉S):WD w' b c t:=by
 have hl:=r.lt;obtain⟨fr,r⟩:=r;exact⟨fr,(h.block b hl hb).trans r⟩
theorem Kept.trans {S S':List Nat}{w w1 w2:World}(h:Kept S w w1)(h':Kept S' w1 w2)(hs: ∀g∈S',g∈S∨w.heap.size<=g):Kept S w w2:=
 ⟨h'.os.trans h.os,h'.tape.trans h.tape,h'.output.trans h.output,Nat.le_trans h.size h'.size,fun b hb hn=>(h'.block b (Nat.lt_of_lt_of_le hb h.size) fun hm=>by
  rcases hs b hm with h1|h1
  ·exact hn h1
  ·omega).trans (h.block b hb hn)⟩
theorem Kept.refl (S:List Nat)(w:World):Kept S w w:=⟨rfl,rfl,rfl,Nat.le_refl _,fun _ _ _=>rfl⟩
theorem SI {w:World}{g off:Nat}{cs:Array Value}{t:TypeId}(h:WD w g cs t)(sub:List Value)(hs: ∀j v,sub[j]?=some v->cs[off+j]?=some v):w.rangeAt g off sub:=
 fun j v hv=>(h.cell (off+j)).trans (hs j v hv)
theorem YT {w:World}{ρ:Operand->Value}(ty:TypeId)(x:Operand)(ho:o.op= .load ty x)(g off:Nat)(hx:ρ x= .pointer (some ⟨g,off,none⟩)){t:TypeId}{cs:Array Value}(hg:WD w g cs t)
  (sub:Array Value)(hs: ∀j v,sub.toList[j]?=some v->cs[off+j]?=some v)(d:TypeDesc)(hu:P.underlying ty=some d)(hd:d.isRow=true)(hi:(P.info? ty).map (·.size)=some sub.size):
  (execOp ρ o).run P w= .ok (.value (.agg sub)) w:=by
 unfold execOp;simp only[ho,hx,Instr.loadAt,Instr.sureAddr,Sem.run_bind,Sem.run_pure,Result.andThen_ok,run_loadVar_mid w g off ty sub.toList d (SI hg sub.toList hs) hu hd (by rw[Array.length_toList];exact hi)]
theorem Xe (ty:TypeId)(x:Operand)(ho:o.op= .load ty x)(g off:Nat)(hx:a.eval x= .pointer (some ⟨g,off,none⟩)){t:TypeId}{cs:Array Value}(hg:Row W g cs t)(hS:g∉olds.map (·.1))
  (sub:Array Value)(hs: ∀j v,sub.toList[j]?=some v->cs[off+j]?=some v)(d:TypeDesc)(hu:P.underlying ty=some d)(hd:d.isRow=true)(hi:(P.info? ty).map (·.size)=some sub.size)
  (h:MX P olds p W F (n+1) l pl (a.put o.dst (.agg sub)) ct):MX P olds p W F n (o::l) ((fun _=>.agg sub,[],none,[])::pl) a ct:=by
 exact XD (.agg sub) [] (fun w hk _=>YT ty x ho g off hx (hk.row hg hS).r sub hs d hu hd hi) h
theorem Xf (ty:TypeId)(x:Operand)(ho:o.op= .load ty x)(g off:Nat)(hx:a.eval x= .pointer (some ⟨g,off,none⟩)){t:TypeId}{cs:Array Value}(hg:WD W g cs t)(hS:g∉olds.map (·.1))
  (sub:Array Value)(hs: ∀j v,sub.toList[j]?=some v->cs[off+j]?=some v)(d:TypeDesc)(hu:P.underlying ty=some d)(hd:d.isRow=true)(hi:(P.info? ty).map (·.size)=some sub.size)
  (h:MX P olds p W F (n+1) l pl (a.put o.dst (.agg sub)) ct):MX P olds p W F n (o::l) ((fun _=>.agg sub,[],none,[])::pl) a ct:=by
 exact XD (.agg sub) [] (fun w hk _=>YT ty x ho g off hx (hk.rowR hg hS) sub hs d hu hd hi) h
theorem Vn (k:Nat)(ty:TypeId)(x:Operand)(ho:o.op= .load ty x)(off:Nat){t:TypeId}{cs:Array Value}(hct:ct k=some (t,cs))(hx:a.eval x= .pointer (some ⟨ZY olds p k,off,none⟩))
  (sub:Array Value)(hs: ∀j v,sub.toList[j]?=some v->cs[off+j]?=some v)(d:TypeDesc)(hu:P.underlying ty=some d)(hd:d.isRow=true)(hi:(P.info? ty).map (·.size)=some sub.size)
  (h:MX P olds p W F (n+1) l pl (a.put o.dst (.agg sub)) ct):MX P olds p W F n (o::l) ((fun _=>.agg sub,[k],none,[])::pl) a ct:=by
 exact XD (.agg sub) [k] (fun w _ hrw=>YT ty x ho _ off hx (hrw k (List.mem_singleton.2 rfl) _ hct).r sub hs d hu hd hi) h
theorem KY {fn:Func}(f:FuncId)(args:Array Operand)(ts:Array TypeId)
  (ho:o.op= .call {callee:=.value (.func f),args:=args,argTypes:=ts})(hf:P.funcs[f]?=some fn)(hb:(fn.name== "runtime.NumGoroutine" ||fn.body.isNone)=false)
  (vs:Array Value)(hv':args.toList.map a.eval=vs.toList)(v:Value)
  (hc: ∀w,Kept (olds.map (·.1)) W w->Calls P f vs w (Rt v w))
  (h:MX P olds p W F (n+1) l pl (a.put o.dst v) ct):MX P olds p W F n (o::l) ((fun _=>v,[],none,[])::pl) a ct:=by
 refine Tt f vs v [] (fun w=>?_) (fun w hk _=>hc w hk) h
 have hv:args.map a.eval=vs:=by apply Array.toList_inj.1;rw[Array.toList_map];exact hv'
 have hr:=ZM (P:=P) hf hb vs w;unfold execOp;simp only[ho,resolve,hv,Act.eval];simp[Deferred.ofValue,invoke,hr]
theorem m_k {fn:Func}(f:FuncId)(hf:P.funcs[f]?=some fn)(vs:Array Value){v:Value}(hc: ∀w,Kept (olds.map (·.1)) W w->Calls P f vs w (Rt v w))(h:MX P olds p W F (n+1) l pl (a.put o.dst v) ct){args:Array Operand}{ts:Array TypeId}(ho:o.op= .call {callee:=.value (.func f),args:=args,argTypes:=ts}:=by exact rfl)(hb:(fn.name== "runtime.NumGoroutine" ||fn.body.isNone)=false:=by kernel_rfl)(hv':args.toList.map a.eval=vs.toList:=by exact rfl):MX P olds p W F n (o::l) ((fun _=>v,[],none,[])::pl) a ct:=KY f args ts ho hf hb vs hv' v hc h
def AB (cs:Array Value)(off:Nat)(sub:Array Value):Array Value:=sub.toList.zipIdx.foldl (fun c x=>c.setIfInBounds (off+x.2) x.1) cs
theorem Zl {ρ:Operand->Value}(x:Operand)(ho:o.op= .nilCheck x)(g off:Nat)(hx:ρ x= .pointer (some ⟨g,off,none⟩))(w:World):(execOp ρ o).run P w= .ok (.value (.pointer (some ⟨g,off,none⟩))) w:=by
 unfold execOp;simp only[ho,hx];rfl
theorem Zb {ρ:Operand->Value}(s:TypeId)(x:Operand)(fi:Nat)(ho:o.op= .fieldAddr s x fi)(g off:Nat)(hx:ρ x= .pointer (some ⟨g,off,none⟩))(fs:Array Field)(hu:P.underlying s=some (.struct fs))(f:Field)(hf:fs[fi]?=some f)
  (z:Nat)(hz: ∀w,(sizeOf f.type).run P w= .ok (z+1) w)(w:World):(execOp ρ o).run P w= .ok (.value (.pointer (some ⟨g,off+f.offset,none⟩))) w:=by
 unfold execOp;simp only[ho,hx,Instr.fieldAt,Sem.run_bind,run_underlying hu,Result.andThen_ok,hf,Instr.sureAddr,Sem.run_pure,fieldPlace,hz];simp[Addr.add_mid]
theorem GB (t e:TypeId)(len:Nat)(parts:Array (Nat×Operand))(ho:o.op= .buildSlice t len parts)(cells:Array Value)(ie:TypeInfo)(z:Value)
  (hu:P.underlying t=some (.slice e))(hie:P.info? e=some ie)(hz:ie.zero=some z)(hsmall: ¬len*ie.size>2^24)(hpos: ¬len*ie.size=0)
  (hf:Instr.fill (fun i=>some (i*ie.size,ie.size)) ((Array.range (len*ie.size)).map (z.cells[· %z.cells.size]!)) (parts.map fun(i,x)=>(i,a.eval x)).toList=some cells)
  (h:MX P olds p W F (n+1) l pl (a.put o.dst (.slice (some ⟨p n,0,none⟩) len len)) (XC ct (2*n+1) (e,cells))):
  MX P olds p W F n (o::l) ((fun q=>.slice (some ⟨q n,0,none⟩) len len,[],some (e,cells),[])::pl) a ct:=
 Ua (fun g=>.slice (some ⟨g,0,none⟩) len len) e cells (fun w=>by
  unfold execOp;simp only[ho,Sem.run_bind,run_buildSlice w t e len _ cells ie z hu hie hz hsmall hpos hf,Result.andThen_ok]
  rfl) h
theorem NI (t e:TypeId)(x y:Operand)(ho:o.op= .makeSlice t x y)(i:TypeInfo)(z:Value)(ht:P.underlying t=some (.slice e))(hi:P.info? e=some i)(hz:i.zero=some z)(m:Nat)(hx:a.eval x= .int .i64 m)(hy:a.eval y= .int .i64 m)
  (hcells:m*i.size<=16777216)(hbytes:i.bytes*m<=281474976710656)(h63:m<=9223372036854775807)
  (h:MX P olds p W F (n+1) l pl (a.put o.dst (.slice (some ⟨p n,0,none⟩) m m)) (XC ct (2*n+1) (e,madeCells z.cells (m*i.size)))):
  MX P olds p W F n (o::l) ((fun q=>.slice (some ⟨q n,0,none⟩) m m,[],some (e,madeCells z.cells (m*i.size)),[])::pl) a ct:=
 Ua (fun g=>.slice (some ⟨g,0,none⟩) m m) e _ (fun w=>by
  have hb':(i.bytes:Int)*(m:Int)<=281474976710656:=by rw[<-Int.natCast_mul];omega
  have hr:=run_makeSlice (P:=P) w t e i z ht hi hz .i64 .i64 (m:Int) (m:Int) (by omega) (by omega) (by rw[Int.toNat_natCast];exact hcells) hb' (by omega);rw[Int.toNat_natCast]at hr;unfold execOp;simp only[ho,hx,hy,Sem.run_bind,hr,Result.andThen_ok]
  rfl) h
end
section
variable {P:Program}{ops:Array Oper}{W:World}{Q:Act->Prop}{rest:List Oper}{o:Oper}{a:Act}
theorem Yq (hw:Region.wanted o (yielded ops a.tmps)=true)(ty:TypeId)(x:Operand)(ho:o.op= .load ty x)(g off:Nat)(hx:a.eval x= .pointer (some ⟨g,off,none⟩)){t:TypeId}{cs:Array Value}(hg:Row W g cs t)
  (sub:Array Value)(hs: ∀j v,sub.toList[j]?=some v->cs[off+j]?=some v)(d:TypeDesc)(hu:P.underlying ty=some d)(hd:d.isRow=true)(hi:(P.info? ty).map (·.size)=some sub.size)
  (h:QW P ops W Q rest (a.put o.dst (.agg sub))):QW P ops W Q (o::rest) a:=by
 refine⟨?_⟩;unfold wpQuiet;rw[if_pos hw];refine⟨.agg sub,fun w hC=>?_,h.out⟩;unfold Oper.quietAt;rw[YT ty x ho g off hx (hg.belowAll hC).r sub hs d hu hd hi];exact⟨rfl,rfl⟩
theorem ZH (hw:Region.wanted o (yielded ops a.tmps)=true)(ty:TypeId)(x:Operand)(ho:o.op= .load ty x)(g i:Nat)(hx:a.eval x= .pointer (some ⟨g,i,none⟩)){t:TypeId}{cs:Array Value}(hg:Row W g cs t)(v:Value)(hc:cs[i]?=some v)
  (ha: ∀w,(isAgg ty).run P w= .ok false w)(h:QW P ops W Q rest (a.put o.dst v)):QW P ops W Q (o::rest) a:=by
 refine⟨?_⟩;unfold wpQuiet;rw[if_pos hw];refine⟨v,fun w hC=>?_,h.out⟩
 have hr:(execOp a.eval o).run P w= .ok (.value v) w:=by
  unfold execOp;simp only[ho,hx,Instr.loadAt,Instr.sureAddr,Sem.run_bind,Sem.run_pure,Result.andThen_ok,YC w g i ty v ha (((hg.belowAll hC).cell i).trans hc)]
 unfold Oper.quietAt;rw[hr];exact⟨rfl,rfl⟩
theorem KZ {fn:Func}(hw:Region.wanted o (yielded ops a.tmps)=true)(f:FuncId)(args:Array Operand)(ts:Array TypeId)
  (ho:o.op= .call {callee:=.value (.func f),args:=args,argTypes:=ts})(hf:P.funcs[f]?=some fn)(hb:(fn.name== "runtime.NumGoroutine" ||fn.body.isNone)=false)
  (vs:Array Value)(hv':args.toList.map a.eval=vs.toList)(v:Value)
  (hc: ∀w,Below W.heap.size W w->Calls P f vs w (Rt v w))
  (h:QW P ops W Q rest (a.put o.dst v)):QW P ops W Q (o::rest) a:=by
 refine⟨?_⟩;unfold wpQuiet;rw[if_pos hw];refine⟨v,fun w hC=>?_,h.out⟩
 have hv:args.map a.eval=vs:=by apply Array.toList_inj.1;rw[Array.toList_map];exact hv'
 have hr:=ZM (P:=P) hf hb vs w
 have hd:(execOp a.eval o).run P w= .ok (.enter f vs) w:=by
  unfold execOp;simp only[ho,resolve,hv,Act.eval];simp[Deferred.ofValue,invoke,hr]
 unfold Oper.quietAt;rw[hd];exact⟨rfl,(hc w hC).mono fun e w' ⟨he,hb'⟩=>⟨he,Zk hC (Nat.le_refl _) hb'⟩⟩
theorem q_k {fn:Func}(f:FuncId)(hf:P.funcs[f]?=some fn)(vs:Array Value){v:Value}(hc: ∀w,Below W.heap.size W w->Calls P f vs w (Rt v w))(h:QW P ops W Q rest (a.put o.dst v)){args:Array Operand}{ts:Array TypeId}(hw:Region.wanted o (yielded ops a.tmps)=true:=by rfl)(ho:o.op= .call {callee:=.value (.func f),args:=args,argTypes:=ts}:=by exact rfl)(hb:(fn.name== "runtime.NumGoroutine" ||fn.body.isNone)=false:=by kernel_rfl)(hv':args.toList.map a.eval=vs.toList:=by exact rfl):QW P ops W Q (o::rest) a:=KZ hw f args ts ho hf hb vs hv' v hc h
end
def Sn (cs:Array Value):Nat->List Value->Array Value
 |_,[]=>cs
 |off,v::r=>Sn (cs.setIfInBounds off v) (off+1) r
theorem VX: ∀(l:List Value) (cs:Array Value) (off i:Nat),off+l.length<=cs.size->(Sn cs off l)[i]?=if off<=i/\i<off+l.length then l[i-off]? else cs[i]?
 |[],cs,off,i,_=>by rw[if_neg (by simp only[List.length_nil];omega)];rfl
 |v::l,cs,off,i,h=>by
  have h1:off+1+l.length<=cs.size:=by have:=h;simp at this;omega
  unfold Sn;rw[VX l _ (off+1) i (by rw[Array.size_setIfInBounds];exact h1)];by_cases e:i=off
  ·subst e;rw[if_neg (by omega),if_pos (by simp),Array.getElem?_setIfInBounds,if_pos rfl,if_pos (by omega),Nat.sub_self];rfl
  ·by_cases e2:off+1<=i/\i<off+1+l.length
   ·rw[if_pos e2,if_pos (by simp;omega),show i-off=(i-(off+1))+1 by omega];rfl
   ·rw[if_neg e2,if_neg (by simp;omega),Array.getElem?_setIfInBounds,if_neg (fun x=>e x.symm)]
theorem Row.setCells {g:Nat}{t:TypeId}: ∀(l:List Value) {w:World} {cs:Array Value} (off:Nat),Row w g cs t->Row (w.setCells g off l) g (Sn cs off l) t
 |[],_,_,_,h=>h
 |v::l,w,cs,off,h=>by
  unfold World.setCells Sn;exact Row.setCells l (off+1) (h.setCell off v)
section
variable {P:Program}{olds:Wz}{p:Nat->Nat}{W:World}{F:Act->Ct->Prop}{n:Nat}{l:List Oper}{pl:List Sp}{a:Act}{ct:Ct}{o:Oper}
theorem YZ (g:Nat): ∀(l:List Value) (w:World) (off:Nat),Only g w (w.setCells g off l)
 |[],_,_=>⟨rfl,rfl,rfl,rfl,fun _ _=>rfl⟩
 |v::l,w,off=>by
  unfold World.setCells;have h1:=XV w g off v;have h2:=YZ g l (w.setCell ⟨g,off,none⟩ v) (off+1);exact⟨h2.os.trans h1.os,h2.tape.trans h1.tape,h2.output.trans h1.output,h2.size.trans h1.size,fun k hk=>(h2.block k hk).trans (h1.block k hk)⟩
theorem Xs {w:World}{g:Nat}{cs:Array Value}{t:TypeId}(h:Row w g cs t)(off m:Nat)(hm:off+m<=cs.size):w.there g off m:=fun j hj=>by
 refine⟨?_,h.frozen _⟩;rw[h.cell,Array.getElem?_eq_getElem (by omega)];rfl
theorem RX (k:Nat)(ty:TypeId)(x y:Operand)(ho:o.op= .store ty x y)(off:Nat){t:TypeId}{old:Array Value}(hct:ct k=some (t,old))(hx:a.eval x= .pointer (some ⟨ZY olds p k,off,none⟩))(sub:Array Value)(hy:a.eval y= .agg sub)
  (hi:(P.info? ty).map (·.size)=some sub.size)(hold:off+sub.size<=old.size)(h1:sub.all (·.oneCell')=true)(c:Array Value)(hc:Sn old off sub.toList=c)
  (h:MX P olds p W F (n+1) l pl (a.put o.dst undef) (XC ct k (t,c))):MX P olds p W F n (o::l) ((fun _=>undef,[],none,[(k,c)])::pl) a ct:=by
 subst hc;refine RQ k _ hct (fun w hr=>⟨w.setCells (ZY olds p k) off sub.toList,?_,Row.setCells _ _ hr,YZ _ _ _ _⟩) h;unfold execOp;simp only[ho,hx,hy,Instr.storeAt,Instr.sureAddr,Sem.run_bind,Sem.run_pure,Result.andThen_ok,run_storeVar_mid w _ off ty sub (Xs hr off _ hold) hi h1]
theorem Vo (w:World)(g i:Nat)(ty:TypeId)(v old:Value)(hv:v.cells=#[v])(h1:v.oneCell'=true)(hz:(P.info? ty).map (·.size)=some 1)(hc:w.cell? ⟨g,i,none⟩=some old)(hf:w.frozen? ⟨g,i,none⟩=false):
  (storeVar ty ⟨g,i,none⟩ v).run P w= .ok () (w.setCell ⟨g,i,none⟩ v):=by
 have ht:w.there g i 1:=fun j hj=>by
  obtain rfl:j=0:=by omega
  exact⟨by rw[Nat.add_zero,hc];rfl,hf⟩
 have:=run_storeVar_mid (P:=P) w g i ty #[v] ht hz (by simp[h1])
 have e:(storeVar ty ⟨g,i,none⟩ v).run P w=(storeVar ty ⟨g,i,none⟩ (.agg #[v])).run P w:=by
  unfold storeVar;rw[hv];rfl
 rw[e,this];rfl
theorem ZE {ρ:Operand->Value}(t:TypeId)(x y:Operand)(ho:o.op= .indexAddr t x y)(g off:Nat)(hx:ρ x= .pointer (some ⟨g,off,none⟩))(i len:Nat)(hy:ρ y= .int .i64 i)(hi:i<len)(e:TypeId)(hu:P.underlying t=some (.array len e))
  (z:Nat)(hz: ∀w,(sizeOf e).run P w= .ok z w)(w:World):(execOp ρ o).run P w= .ok (.value (.pointer (some ⟨g,off+i*z,none⟩))) w:=by
 unfold execOp;simp[ho,hx,hy,Instr.indexAt,Instr.sureAddr,Sem.run_bind,run_underlying hu,hz,go_sem,asIntOf,Addr.add_mid,hi]
theorem Zs {ρ:Operand->Value}(t:TypeId)(x y:Operand)(ho:o.op= .indexAddr t x y)(g off len cap:Nat)(hx:ρ x= .slice (some ⟨g,off,none⟩) len cap)(i:Nat)(hy:ρ y= .int .i64 i)(hi:i<len)(e:TypeId)(hu:P.underlying t=some (.slice e))
  (z:Nat)(hz: ∀w,(sizeOf e).run P w= .ok z w)(w:World):(execOp ρ o).run P w= .ok (.value (.pointer (some ⟨g,off+i*z,none⟩))) w:=by
 unfold execOp;simp[ho,hx,hy,Instr.indexAt,Sem.run_bind,run_underlying hu,hz,go_sem,asIntOf,Addr.add_mid,hi]
theorem m_x {t:TypeId}{x y:Operand}{g off len cap:Nat}(i:Nat)(hi:i<len){e:TypeId}(hu:P.underlying t=some (.slice e)){z:Nat}(hz: ∀w,(sizeOf e).run P w= .ok z w)(h:MX P olds p W F (n+1) l pl (a.put o.dst (.pointer (some ⟨g,off+i*z,none⟩))) ct)(ho:o.op= .indexAddr t x y:=by exact rfl)(hx:a.eval x= .slice (some ⟨g,off,none⟩) len cap:=by exact rfl)(hy:a.eval y= .int .i64 i:=by exact rfl):MX P olds p W F n (o::l) ((fun _=>.pointer (some ⟨g,off+i*z,none⟩),[],none,[])::pl) a ct:=Zg _ (Zs t x y ho g off len cap hx i hy hi e hu z hz) h
theorem q_x {ops:Array Oper}{Q:Act->Prop}{rest:List Oper}{t:TypeId}{x y:Operand}{g off len cap:Nat}(i:Nat)(hi:i<len){e:TypeId}(hu:P.underlying t=some (.slice e)){z:Nat}(hz: ∀w,(sizeOf e).run P w= .ok z w)(h:QW P ops W Q rest (a.put o.dst (.pointer (some ⟨g,off+i*z,none⟩))))(hw:Region.wanted o (yielded ops a.tmps)=true:=by rfl)(ho:o.op= .indexAddr t x y:=by exact rfl)(hx:a.eval x= .slice (some ⟨g,off,none⟩) len cap:=by exact rfl)(hy:a.eval y= .int .i64 i:=by exact rfl):QW P ops W Q (o::rest) a:=WN hw _ (Zs t x y ho g off len cap hx i hy hi e hu z hz) h
theorem YG {ρ:Operand->Value}(f:FuncId)(caps:Array Operand)(ho:o.op= .makeFunc (.func f) #[] caps)(vs:Array Value)(hv:caps.toList.map ρ=vs.toList)(w:World):(execOp ρ o).run P w= .ok (.value (.func (.func f) #[] vs)) w:=by
 have hv':caps.map ρ=vs:=by apply Array.toList_inj.1;rw[Array.toList_map];exact hv
 unfold execOp;simp[ho,Instr.makeFunc,hv']
theorem SJ {fn:Func}(f:FuncId)(t:Tmp)(args:Array Operand)(ts:Array TypeId)(ho:o.op= .call {callee:=.value (.tmp t),args:=args,argTypes:=ts})(caps:Array Value)(hcl:a.eval (.tmp t)= .func (.func f) #[] caps)
  (hf:P.funcs[f]?=some fn)(hb:(fn.name== "runtime.NumGoroutine" ||fn.body.isNone)=false)(vs:Array Value)(hv':args.toList.map a.eval=vs.toList)(v:Value)(k1 k2:Nat)(hne:k1≠k2){t1 t2:TypeId}{o1 o2:Array Value}(c1 c2:Array Value)
  (h1:ct k1=some (t1,o1))(h2:ct k2=some (t2,o2))
  (hc: ∀w,Kept (olds.map (·.1)) W w->Row w (ZY olds p k1) o1 t1->Row w (ZY olds p k2) o2 t2->Calls P f (vs++caps) w fun e w'=>e= .returned v/\Row w' (ZY olds p k1) c1 t1/\Row w' (ZY olds p k2) c2 t2/\Kept [ZY olds p k1,ZY olds p k2] w w')
  (h:MX P olds p W F (n+1) l pl (a.put o.dst v) (XC (XC ct k1 (t1,c1)) k2 (t2,c2))):MX P olds p W F n (o::l) ((fun _=>v,[],none,[(k1,c1),(k2,c2)])::pl) a ct:=by
 refine⟨⟨⟨.inl ⟨v,rfl⟩,fun x hx=>?_,fun w hk hrw=>?_⟩,?_⟩⟩
 ·rcases List.mem_cons.1 hx with rfl|hx
  ·exact⟨_,h1⟩
  ·obtain rfl:x=(k2,c2):=List.mem_singleton.1 hx;exact⟨_,h2⟩
 ·have hv:args.map a.eval=vs:=by apply Array.toList_inj.1;rw[Array.toList_map];exact hv'
  have hr:=ZM (P:=P) hf hb (vs++caps) w
  have hd:(execOp a.eval o).run P w= .ok (.enter f (vs++caps)) w:=by
   unfold execOp;simp only[ho,resolve,hv,hcl];simp[Deferred.ofValue,invoke,hr]
  rw[hd];refine⟨rfl,(hc w hk (hrw k1 (List.mem_append_right _ (by simp)) _ h1) (hrw k2 (List.mem_append_right _ (by simp)) _ h2)).mono fun e w' ⟨he,r1,r2,hkk⟩=>⟨v,he,hkk.os,hkk.tape,hkk.output,hkk.size,fun b hlt hb'=>hkk.block b hlt ?_,fun x hx y hy=>?_,.inl ⟨rfl,rfl⟩⟩⟩
  ·have b1:=hb' (k1,c1) (by simp);have b2:=hb' (k2,c2) (by simp);simp[b1,b2]
  ·rcases List.mem_cons.1 hx with rfl|hx
   ·obtain rfl:(t1,o1)=y:=Option.some.inj (h1.symm.trans hy);exact r1
   ·obtain rfl:x=(k2,c2):=List.mem_singleton.1 hx;obtain rfl:(t2,o2)=y:=Option.some.inj (h2.symm.trans hy);exact r2
 ·have e:spC n ((fun _=>v,[],none,[(k1,c1),(k2,c2)]):Sp) ct=XC (XC ct k1 (t1,c1)) k2 (t2,c2):=by
   funext j
   unfold XC;by_cases e2:j=k2
   ·subst e2;rw[if_pos rfl];show(match VB [(k1,c1),(j,c2)] j with|some c=>(ct j).map (fun(y:TypeId×Array Value)=>(y.1,c))|none=>ct j)=_
    rw[show VB [(k1,c1),(j,c2)] j=some c2 by simp[VB,hne],h2];rfl
   ·rw[if_neg e2];by_cases e1:j=k1
    ·subst e1;rw[if_pos rfl];show(match VB [(j,c1),(k2,c2)] j with|some c=>(ct j).map (fun(y:TypeId×Array Value)=>(y.1,c))|none=>ct j)=_
     rw[show VB [(j,c1),(k2,c2)] j=some c1 by simp[VB],h1];rfl
    ·rw[if_neg e1];exact XM (s:=((fun _=>v,[],none,[(k1,c1),(k2,c2)]):Sp)) ct (by simp[Ng,e1,e2])
  rw[e];exact h.out
end
section
variable {P:Program}{ops:Array Oper}{W:World}{Q:Act->Prop}{rest:List Oper}{o:Oper}{a:Act}
theorem Uc (hw:Region.wanted o (yielded ops a.tmps)=true)(ty:TypeId)(x:Operand)(ho:o.op= .load ty x)(g off:Nat)(hx:a.eval x= .pointer (some ⟨g,off,none⟩)){t:TypeId}{cs:Array Value}(hg:WD W g cs t)
  (sub:Array Value)(hs: ∀j v,sub.toList[j]?=some v->cs[off+j]?=some v)(d:TypeDesc)(hu:P.underlying ty=some d)(hd:d.isRow=true)(hi:(P.info? ty).map (·.size)=some sub.size)
  (h:QW P ops W Q rest (a.put o.dst (.agg sub))):QW P ops W Q (o::rest) a:=by
 refine⟨?_⟩;unfold wpQuiet;rw[if_pos hw];refine⟨.agg sub,fun w hC=>?_,h.out⟩;unfold Oper.quietAt;rw[YT ty x ho g off hx (hg.belowAll hC) sub hs d hu hd hi];exact⟨rfl,rfl⟩
theorem XN (hw:Region.wanted o (yielded ops a.tmps)=true)(ty:TypeId)(x:Operand)(ho:o.op= .load ty x)(g i:Nat)(hx:a.eval x= .pointer (some ⟨g,i,none⟩)){t:TypeId}{cs:Array Value}(hg:WD W g cs t)(v:Value)(hc:cs[i]?=some v)
  (ha: ∀w,(isAgg ty).run P w= .ok false w)(h:QW P ops W Q rest (a.put o.dst v)):QW P ops W Q (o::rest) a:=by
 refine⟨?_⟩;unfold wpQuiet;rw[if_pos hw];refine⟨v,fun w hC=>?_,h.out⟩
 have hr:(execOp a.eval o).run P w= .ok (.value v) w:=by
  unfold execOp;simp only[ho,hx,Instr.loadAt,Instr.sureAddr,Sem.run_bind,Sem.run_pure,Result.andThen_ok,YC w g i ty v ha (((hg.belowAll hC).cell i).trans hc)]
 unfold Oper.quietAt;rw[hr];exact⟨rfl,rfl⟩
end
structure PW (P:Program)(ops:Array Oper)(Q:Exit->Act->World->Prop)(l:List Oper)(a:Act)(w:World):Prop where
 out:wpList P ops Q l a w
section
variable {P:Program}{ops:Array Oper}{Q:Exit->Act->World->Prop}{rest:List Oper}{o:Oper}{a:Act}{w:World}
theorem rp {id:Nat}{l:List Oper}(h:PW P l.toArray Q l a w):(Code.region id l.toArray false).wp P Q a w:=wp_region_lit h.out
theorem Za (h:Q .normal a w):PW P ops Q [] a w:=⟨h⟩
theorem Xt (hw:Region.wanted o (yielded ops a.tmps)=true)(v:Value)(w':World)(hr:(execOp a.eval o).run P w= .ok (.value v) w')(h:PW P ops Q rest (a.put o.dst v) w'):PW P ops Q (o::rest) a w:=by
 refine⟨?_⟩;unfold wpList;rw[if_pos hw];left
 unfold Oper.wp;rw[hr];exact h.out
theorem VY (hw:Region.wanted o (yielded ops a.tmps)=true)(v:Value)(hr: ∀w,(execOp a.eval o).run P w= .ok (.value v) w)(h:PW P ops Q rest (a.put o.dst v) w):PW P ops Q (o::rest) a w:=Xt hw v w (hr w) h
theorem p_v (v:Value)(hr: ∀w,(execOp a.eval o).run P w= .ok (.value v) w)(h:PW P ops Q rest (a.put o.dst v) w)(hw:Region.wanted o (yielded ops a.tmps)=true:=by rfl):PW P ops Q (o::rest) a w:=VY hw v hr h
theorem YI (hw:Region.wanted o (yielded ops a.tmps)=true){x:Operand}{v:Value}(ho:o.op= .move x∨o.op= .assign x)(hv:a.eval x=v)(h:PW P ops Q rest (a.put o.dst v) w):PW P ops Q (o::rest) a w:=by
 refine Xt hw v w ?_ h;unfold execOp
 rcases ho with ho|ho<;>simp only[ho,hv]<;>rfl
theorem GC {fn:Func}(hw:Region.wanted o (yielded ops a.tmps)=true)(f:FuncId)(args:Array Operand)(ts:Array TypeId)
  (ho:o.op= .call {callee:=.value (.func f),args:=args,argTypes:=ts})(hf:P.funcs[f]?=some fn)(hb:(fn.name== "runtime.NumGoroutine" ||fn.body.isNone)=false)
  (vs:Array Value)(hv':args.toList.map a.eval=vs.toList)(v:Value)(hc:Calls P f vs w (Rt v w))
  (h: ∀w',Below w.heap.size w w'->PW P ops Q rest (a.put o.dst v) w'):PW P ops Q (o::rest) a w:=by
 refine⟨?_⟩;unfold wpList;rw[if_pos hw];left
 refine(QT f args ts ho hf hb vs hv' ?_).out;exact hc.mono fun e w' ⟨he,hb'⟩=>⟨v,he,(h w' hb').out⟩
theorem NJ (hw:Region.wanted o (yielded ops a.tmps)=true){c x y:Operand}(b:Bool){v:Value}(ho:o.op= .pick c x y)(hc:a.eval c= .bool b)(hv:a.eval (if b then x else y)=v)(h:PW P ops Q rest (a.put o.dst v) w):PW P ops Q (o::rest) a w:=by
 refine Xt hw v w ?_ h;subst hv;unfold execOp;rw[ho];simp only[hc]
 cases b<;>rfl
theorem p_k {c x y:Operand}(b:Bool)(v:Value)(h:PW P ops Q rest (a.put o.dst v) w)(hw:Region.wanted o (yielded ops a.tmps)=true:=by rfl)(ho:o.op= .pick c x y:=by exact rfl)(hc:a.eval c= .bool b:=by exact rfl)(hv:a.eval (if b then x else y)=v:=by exact rfl):PW P ops Q (o::rest) a w:=NJ hw b ho hc hv h
end
section
variable {P:Program}
def Om:Sp:=(fun _=>undef,[],none,[])
def ObG (P:Program)(ops:Array Oper)(olds:Wz)(p:Nat->Nat)(W:World)(n:Nat)(ct:Ct)(o:Oper)(a:Act)(s:Sp):Prop:=
 (Region.wanted o (yielded ops a.tmps)=true/\Ob P olds p W n ct o a s)∨(Region.wanted o (yielded ops a.tmps)=false/\s=Om)
def Al (P:Program)(ops:Array Oper)(olds:Wz)(p:Nat->Nat)(W:World)(F:Act->Ct->Prop):Nat->List Oper->List Sp->Act->Ct->Prop
 |_,[],[],a,ct=>F a ct
 |n,o::l,s::pl,a,ct=>ObG P ops olds p W n ct o a s/\Al P ops olds p W F (n+1) l pl (a.put o.dst (spV p s)) (spC n s ct)
 |_,_,_,_,_=>False
structure MG (P:Program)(ops:Array Oper)(olds:Wz)(p:Nat->Nat)(W:World)(F:Act->Ct->Prop)(n:Nat)(l:List Oper)(pl:List Sp)(a:Act)(ct:Ct):Prop where
 out:Al P ops olds p W F n l pl a ct
theorem RY {ops:Array Oper}(o:Oper){a a':Act}(hz:a.tmps.size=a'.tmps.size)(h: ∀g want,o.guard=some (g,want)-> ∀t,(ops[g]?).bind (·.dst)=some t->a.eval (.tmp t)=a'.eval (.tmp t)):
  Region.wanted o (yielded ops a.tmps)=Region.wanted o (yielded ops a'.tmps):=by
 unfold Region.wanted
 cases hg:o.guard with
 |none=>rfl
 |some gw=>
  obtain⟨g,want⟩:=gw
  have hy:yielded ops a.tmps g=yielded ops a'.tmps g:=by
   unfold yielded
   cases ht:(ops[g]?).bind (·.dst)with
   |none=>rfl
   |some t=>
    have e:=h g want hg t ht
    have e2:a.tmps[t]?=a'.tmps[t]?:=by
     by_cases hlt:t<a.tmps.size
     ·have hlt':t<a'.tmps.size:=hz▸hlt;simp only[Act.eval,Array.getD,hlt,hlt',dite_true]at e;rw[Array.getElem?_eq_getElem hlt,Array.getElem?_eq_getElem hlt'];exact congrArg some e
     ·rw[Array.getElem?_eq_none (Nat.le_of_not_lt hlt),Array.getElem?_eq_none (Nat.le_of_not_lt (hz▸hlt))]
    simp only[Option.bind_some,e2]
  simp only[hy]
def K0 (ops:Array Oper)(l:List (Oper×Sp))(x:Oper×Sp)(i:Nat)(y:Oper×Sp)(j:Nat):Bool:=
 j==i||((match y.1.dst with
  |none=>true
  |some s=>x.1.dst !=some s&&(!(x.1.looksAt ops).contains s||((decide (j<i)&&XA l l.length i j)||(decide (i<j)&&XA l l.length j i))))&&
 (Ng j y.2).all fun k=> !(Wy x.2).contains k||(if j<i then XA l l.length i j else XA l l.length j i))
def chkG (ops:Array Oper)(l:List (Oper×Sp)):Bool:=
 l.zipIdx.all fun z=>(match z.1.1.op with| .select _ _=>false|_=>true)&&(z.1.1.after.all fun e=> !Region.binds .any e||decide (e.on<z.2))&&((Wy z.1.2).all fun k=>k%2==0||decide (k/2<z.2))&&
  l.zipIdx.all fun u=>K0 ops l z.1 z.2 u.1 u.2
variable {ops:Array Oper}{olds:Wz}{p:Nat->Nat}{W:World}{F:Act->Ct->Prop}{n:Nat}{l:List Oper}{pl:List Sp}{a:Act}{ct:Ct}{o:Oper}{s:Sp}
end
end Go.Proofs.YtcdahmommonnfaaGreatDoor
