import Derived.WalkKit
import Derived.WalkSpells
import Derived.Deep.WholeRow
import Derived.Deep.LoopGhost
import Derived.Deep.QuietTactic
import Derived.BigQuiet
import Derived.Test.YtcdahmommonnfaaGreatDoorRows
namespace Go.Proofs.YtcdahmommonnfaaGreatDoor
set_option linter.all false
open Go.Proofs.Tryz
theorem pb {α:Type}(l:List α)(i:Nat)(a:α):l.toArray.setIfInBounds i a=(l.set i a).toArray:=List.setIfInBounds_toArray l i a
theorem pc {α:Type}{a b:α}{l:List α}:(a::l).set 0 b=b::l:=List.set_cons_zero
theorem pd {α:Type}{a b:α}{n:Nat}{l:List α}:(a::l).set (n+1) b=a::l.set n b:=List.set_cons_succ
theorem pu {α:Type}:(∀(l:List α) (i:Nat) (a:α),l.toArray.setIfInBounds i a=(l.set i a).toArray)/\(∀(a b:α) (l:List α),(a::l).set 0 b=b::l)/\(∀(a b:α) (n:Nat) (l:List α),(a::l).set (n+1) b=a::l.set n b):=⟨pb,fun _ _ _=>pc,fun _ _ _ _=>pd⟩
theorem pv:(∀(a:Act) (d:Nat) (v:Value),a.put (some d) v=⟨a.tmps.setIfInBounds d v,a.defers⟩)/\(∀(a:Act) (v:Value),a.put none v=a)/\(∀(l:List Value) (i:Nat) (a:Value),l.toArray.setIfInBounds i a=(l.set i a).toArray)/\(∀(a b:Value) (l:List Value),(a::l).set 0 b=b::l)/\(∀(a b:Value) (n:Nat) (l:List Value),(a::l).set (n+1) b=a::l.set n b):=⟨fun _ _ _=>rfl,fun _ _=>rfl,pu⟩
theorem rg {P:Program}{i:Nat}{l:Array Oper}{b:Bool}{Q:Exit->Act->World->Prop}{a:Act}{w:World}(h:(Code.region i l b).wp P Q a w):(Code.region i l b).wp P Q a w:=h
open Go.RowKit
abbrev Rt (v:Value)(w:World):Ending->World->Prop:=fun e w'=>e= .returned v/\Below w.heap.size w w'
section
variable {P:Program}
theorem Zj {ops:Array Oper}{rest:List Oper}{o:Oper}{a:Act}{w:World}{Q:Exit->Act->World->Prop}(hgd:o.guard=none)(t:TypeId)(ho:o.op= .alloc t)
  (c:Array Value)(hz: ∀w,(zeroValue t).run P w= .ok (.agg c) w)
  (h:wpList P ops Q rest (a.put o.dst (.pointer (some ⟨w.heap.size,0,none⟩))) (w.alloc (.cells c t))):wpList P ops Q (o::rest) a w:=
 wpList_plain hgd fun _ hK=>by
  unfold Oper.wp execOp;simp only[ho,Instr.alloc,Sem.run_bind,hz,Result.andThen_ok,newVar,newRow];exact hK _ _ h
theorem Zr {ops:Array Oper}{rest:List Oper}{o:Oper}{a:Act}{w:World}{Q:Exit->Act->World->Prop}(hgd:o.guard=none)(t:TypeId)(x:Operand)(ho:o.op= .box t x)
  (c:Array Value)(hx:a.eval x= .agg c)
  (h:wpList P ops Q rest (a.put o.dst (.pointer (some ⟨w.heap.size,0,none⟩))) (w.alloc (.cells c t))):wpList P ops Q (o::rest) a w:=
 wpList_plain hgd fun _ hK=>by
  unfold Oper.wp execOp;simp only[ho,hx,Instr.box,Sem.run_bind,newVar,newRow];exact hK _ _ h
theorem ZL {ops:Array Oper}{rest:List Oper}{o:Oper}{a:Act}{w:World}{Q:Exit->Act->World->Prop}(hgd:o.guard=none)(t:TypeId)(ho:o.op= .build t #[])
  (c:Array Value)(hb:P.built t []=some c)
  (h:wpList P ops Q rest (a.put o.dst (.agg c)) w):wpList P ops Q (o::rest) a w:=
 wpList_plain hgd fun _ hK=>by
  unfold Oper.wp execOp;simp only[ho,Sem.run_bind,run_build w t #[] c hb,Array.map_empty,Result.andThen_ok];exact hK _ _ h
theorem Zy {B:Nat}{a w:World}(h:Below B a w){g:Nat}(hg:B<=g)(cs:Array Value):Below B a (w.setRow g cs):=
 h.trans ⟨rfl,rfl,rfl,by simp,fun k hk=>setRow_other w g k cs (by omega)⟩
theorem Z3 {B:Nat}{a w:World}(h:Below B a w){g:Nat}(hg:B<=g)(i:Nat)(v:Value):Below B a (w.setCell ⟨g,i,none⟩ v):=h.setCell hg v
theorem Ym {ops:Array Oper}{rest:List Oper}{o:Oper}{a:Act}{w:World}{Q:Exit->Act->World->Prop}(hgd:o.guard=none)(ty:TypeId)(x y:Operand)(ho:o.op= .store ty x y)
  (cells:Array Value)(hx:a.eval x= .pointer (some ⟨w.heap.size,0,none⟩))(hy:a.eval y= .agg cells)
  (t:TypeId)(old:Array Value)(hi:(P.info? ty).map (·.size)=some cells.size)(hold:old.size=cells.size)(h1:cells.all (·.oneCell')=true)
  (h:wpList P ops Q rest (a.put o.dst undef) (w.alloc (.cells cells t))):wpList P ops Q (o::rest) a (w.alloc (.cells old t)):=
 wpList_store_row hgd ty x y ho w.heap.size cells hx hy t old (heap_alloc_new w _) hi hold h1 (by rw[World.setRow_alloc_new];exact h)
def Row (w:World)(b:Nat)(c:Array Value)(t:TypeId):Prop:=w.heap[b]?=some (.cells c t (0,0))
theorem Row.lt {w:World}{b:Nat}{c:Array Value}{t:TypeId}(h:Row w b c t):b<w.heap.size:=(Array.getElem?_eq_some_iff.1 h).1
theorem Row.cell {w:World}{b:Nat}{c:Array Value}{t:TypeId}(h:Row w b c t)(i:Nat):w.cell? ⟨b,i,none⟩=c[i]?:=cell_of_row w b i c t (0,0) h
theorem Row.frozen {w:World}{b:Nat}{c:Array Value}{t:TypeId}(h:Row w b c t)(i:Nat):w.frozen? ⟨b,i,none⟩=false:=frozen_of_row w b i c t h
theorem Row.new (w:World)(c:Array Value)(t:TypeId):Row (w.alloc (.cells c t)) w.heap.size c t:=heap_alloc_new w _
theorem Row.here {w:World}{b:Nat}{c:Array Value}{t:TypeId}(h:b=w.heap.size):Row (w.alloc (.cells c t)) b c t:=h▸Row.new w c t
theorem Row.alloc {w:World}{b:Nat}{c:Array Value}{t:TypeId}(h:Row w b c t)(o:Obj):Row (w.alloc o) b c t:=by
 unfold Row;exact(Below.heap_alloc w o b h.lt).trans h
theorem Row.below {w w':World}{B b:Nat}{c:Array Value}{t:TypeId}(h:Row w b c t)(hb:Below B w w')(hlt:b<B):Row w' b c t:=(hb.block b hlt).trans h
theorem Row.belowAll {w w':World}{b:Nat}{c:Array Value}{t:TypeId}(h:Row w b c t)(hb:Below w.heap.size w w'):Row w' b c t:=h.below hb h.lt
theorem Row.setCell {w:World}{b:Nat}{c:Array Value}{t:TypeId}(h:Row w b c t)(i:Nat)(v:Value):Row (w.setCell ⟨b,i,none⟩ v) b (c.setIfInBounds i v) t:=heap_setCell_same w b i c t v h
theorem Row.setCell_far {w:World}{b:Nat}{c:Array Value}{t:TypeId}(h:Row w b c t)(g i:Nat)(v:Value)(hp:b≠g):Row (w.setCell ⟨g,i,none⟩ v) b c t:=(heap_setCell_other w ⟨g,i,none⟩ b v hp).trans h
theorem Row.setRow {w:World}{b:Nat}{c:Array Value}{t:TypeId}(h:Row w b c t)(c':Array Value):Row (w.setRow b c') b c' t:=setRow_heap w b c c' t _ h
theorem Row.setRow_far {w:World}{b:Nat}{c:Array Value}{t:TypeId}(h:Row w b c t)(g:Nat)(c':Array Value)(hp:b≠g):Row (w.setRow g c') b c t:=(setRow_other w g b c' hp).trans h
theorem Row.drew {w:World}{b:Nat}{c:Array Value}{t:TypeId}(h:Row w b c t):Row w.drew b c t:=h
theorem Zh {ops:Array Oper}{rest:List Oper}{o:Oper}{a:Act}{w:World}{Q:Exit->Act->World->Prop}(hgd:o.guard=none)(ty:TypeId)(x:Operand)(ho:o.op= .load ty x)
  (g:Nat)(hx:a.eval x= .pointer (some ⟨g,0,none⟩)){t:TypeId}{cs:Array Value}(hg:Row w g cs t)(n:Nat)(e:TypeId)
  (hu:P.underlying ty=some (.array n e))(hi:(P.info? ty).map (·.size)=some cs.size)
  (h:wpList P ops Q rest (a.put o.dst (.agg cs)) w):wpList P ops Q (o::rest) a w:=wpList_load_row hgd ty x ho g hx t cs (0,0) _ hg hu rfl hi h
theorem Zw {ops:Array Oper}{rest:List Oper}{o:Oper}{a:Act}{w:World}{Q:Exit->Act->World->Prop}(hgd:o.guard=none)(ty:TypeId)(x y:Operand)(ho:o.op= .store ty x y)
  (g:Nat)(cells:Array Value)(hx:a.eval x= .pointer (some ⟨g,0,none⟩))(hy:a.eval y= .agg cells)
  {t:TypeId}{old:Array Value}(hg:Row w g old t)(hi:(P.info? ty).map (·.size)=some cells.size)
  (hold:old.size=cells.size)(h1:cells.all (·.oneCell')=true)
  (h:wpList P ops Q rest (a.put o.dst undef) (w.setRow g cells)):wpList P ops Q (o::rest) a w:=wpList_store_row hgd ty x y ho g cells hx hy t old hg hi hold h1 h
theorem Row.one {w:World}{b:Nat}{c:Array Value}{t:TypeId}{o:Obj}(h:b=w.heap.size):Row ((w.alloc (.cells c t)).alloc o) b c t:=(Row.here h).alloc o
theorem Row.two {w:World}{b:Nat}{c:Array Value}{t:TypeId}{o o':Obj}(h:b=w.heap.size):Row (((w.alloc (.cells c t)).alloc o).alloc o') b c t:=(Row.one h).alloc o'
theorem Z5 {w:World}(o:Obj):Below w.heap.size w (w.alloc o):=(Below.refl _ _).alloc (Nat.le_refl _) _
theorem Ye {w:World}(o o':Obj):Below w.heap.size w ((w.alloc o).alloc o'):=(Z5 o).alloc (by simp) _
theorem Y9 {w:World}(o o' o'':Obj):Below w.heap.size w (((w.alloc o).alloc o').alloc o''):=(Ye o o').alloc (by simp;omega) _
theorem Zk {B:Nat}{a w w':World}(h:Below B a w)(hB:B<=a.heap.size)(k:Below w.heap.size w w'):Below B a w':=h.trans (k.mono (Nat.le_trans hB h.size))
theorem ZX {fn:Func}{R:Ending->World->Prop}{a:Act}{w:World}{p:Tmp}{ty:TypeId}(hf:fn.results=#[.cell p ty])(g:Nat)(hp:a.tmps.getD p undef= .pointer (some ⟨g,0,none⟩))
  {t:TypeId}{cs:Array Value}(hr:Row w g cs t)(n:Nat)(e:TypeId)(hu:P.underlying ty=some (.array n e))(hi:(P.info? ty).map (·.size)=some cs.size)(hd:a.defers=[])
  (h:R (.returned (.agg cs)) w):bodyPost P fn R .ret a w:=
 bodyPost_ret (results_cell_row hf a.tmps w g t cs (0,0) _ hp hr hu rfl hi) hd h
theorem Yl {fn:Func}{R:Ending->World->Prop}{a:Act}{w:World}{p u:Tmp}{ty:TypeId}(hf:fn.results=#[.cell p ty,.tmp u])(g:Nat)(hp:a.tmps.getD p undef= .pointer (some ⟨g,0,none⟩))
  {t:TypeId}{cs:Array Value}(hr:Row w g cs t)(n:Nat)(e:TypeId)(hu:P.underlying ty=some (.array n e))(hi:(P.info? ty).map (·.size)=some cs.size)(hd:a.defers=[])
  (v:Value)(hv:a.tmps.getD u undef=v)(h:R (.returned (.tuple #[.agg cs,v])) w):bodyPost P fn R .ret a w:=by
 refine bodyPost_ret (v:=.tuple #[.agg cs,v]) ?_ hd h;rw[results_cell_tmp hf,hp,hv];simp only[asAddr,Sem.run_pure,Result.andThen_ok];rw[run_loadVar_row w g t ty cs (0,0) _ hr hu rfl hi];rfl
theorem Wx (w:World)(p:Addr)(v:Value):(w.setCell p v).heap.size=w.heap.size:=by simp[World.setCell]
theorem YF (w:World)(o:Obj):(w.alloc o).heap.size=w.heap.size+1:=by show(w.heap.push o).size=_;simp
end
def lm (N i:Nat):Nat:=N/2^(64*i)%2^64
def Zc (N:Nat):Array Value:=#[.int .u64 (lm N 0),.int .u64 (lm N 1),.int .u64 (lm N 2),.int .u64 (lm N 3)]
def Xp (N:Nat):Array Value:=Array.ofFn (n:=256) fun i=>.bool (N.testBit i)
theorem Xz (N i:Nat):lm N i<18446744073709551616:=Nat.mod_lt _ (by decide)
theorem Zt (N:Nat):(Zc N).size=4:=rfl
theorem Yi (N i:Nat)(h:i<4):(Zc N)[i]?=some (.int .u64 (lm N i)):=by
 match i,h with
 |0,_=>rfl
 |1,_=>rfl
 |2,_=>rfl
 |3,_=>rfl
theorem ZA (N:Nat):(Zc N).all (·.oneCell')=true:=by simp[Zc,Value.oneCell']
theorem Yp (N:Nat):(Xp N).size=256:=by simp[Xp]
theorem Wh (N i:Nat)(h:i<256):(Xp N)[i]?=some (.bool (N.testBit i)):=by simp[Xp,h]
theorem VV (N:Nat):(Xp N).all (·.oneCell')=true:=by
 rw[Array.all_eq_true_iff_forall_mem];intro v hv;simp only[Xp,Array.mem_ofFn]at hv;obtain⟨i,rfl⟩:=hv;rfl
theorem Sr:Xp 0=Array.replicate 256 (.bool false):=by
 apply Array.ext_getElem?;intro i;by_cases h:i<256
 ·rw[Wh 0 i h];simp[h]
 ·rw[Array.getElem?_eq_none (by rw[Yp];omega),Array.getElem?_eq_none (by simp;omega)]
theorem KF (N M k:Nat)(b:Bool)(h: ∀i,i<256->M.testBit i=if i=k then b else N.testBit i):(Xp N).setIfInBounds k (.bool b)=Xp M:=by
 apply Array.ext_getElem?;intro i;by_cases hi:i<256
 ·rw[Array.getElem?_setIfInBounds,Wh M i hi,h i hi];by_cases hk:k=i
  ·subst hk;simp[Yp,hi]
  ·rw[if_neg hk,Wh N i hi,if_neg (fun e=>hk e.symm)]
 ·rw[Array.getElem?_eq_none (by simp[Yp];omega),Array.getElem?_eq_none (by rw[Yp];omega)]
theorem Nj (N k:Nat)(b:Bool)(hb:b=N.testBit k):(Xp (N%2^k)).setIfInBounds k (.bool b)=Xp (N%2^(k+1)):=
 KF _ _ _ _ fun i _=>by
  subst hb;rw[Nat.testBit_mod_two_pow,Nat.testBit_mod_two_pow];by_cases e:i=k
  ·subst e;simp
  ·rw[if_neg e];by_cases h1:i<k
   ·simp[h1,Nat.lt_succ_of_lt h1]
   ·simp[h1,show ¬i<k+1 by omega]
theorem Nk (N:Nat):Xp (N%2^256)=Xp N:=by
 apply Array.ext_getElem?;intro i;by_cases hi:i<256
 ·rw[Wh _ i hi,Wh N i hi,Nat.testBit_mod_two_pow];simp[hi]
 ·rw[Array.getElem?_eq_none (by rw[Yp];omega),Array.getElem?_eq_none (by rw[Yp];omega)]
theorem Nl (N k:Nat):(lm N (k/64)).testBit (k%64)=N.testBit k:=by
 unfold lm;rw[Nat.testBit_mod_two_pow,Nat.testBit_div_two_pow];have:k%64<64:=Nat.mod_lt _ (by decide);simp only[this,decide_true,Bool.true_and]
 congr 1
 omega
theorem KG (L j:Nat)(h:L<18446744073709551616):(bits .and .u64 ((L:Int)/2^j) 1==1)=L.testBit j:=by
 have h1:((L:Int)/2^j)=((L/2^j:Nat):Int):=by simp
 have h2:L/2^j<18446744073709551616:=Nat.lt_of_le_of_lt (Nat.div_le_self _ _) h;rw[h1,show(1:Int)=((1:Nat):Int)from rfl,u64_and_nat _ _ h2 (by decide),Nat.and_one_is_mod,Nat.testBit_eq_decide_div_mod_eq];by_cases e:L/2^j%2=1
 ·rw[e];rfl
 ·have:L/2^j%2=0:=by omega
  rw[this];rfl
theorem ZW (N i j:Nat):(lm N i).testBit j=(decide (j<64)&&N.testBit (64*i+j)):=by
 unfold lm;rw[Nat.testBit_mod_two_pow,Nat.testBit_div_two_pow,Nat.add_comm]
theorem Vg (N M j v:Nat)(hj:j<4)(hv:lm M j=v)(h: ∀i,i<4->i≠j->lm M i=lm N i):(Zc N).setIfInBounds j (.int .u64 v)=Zc M:=by
 apply Array.ext_getElem?;intro i;by_cases hi:i<4
 ·rw[Array.getElem?_setIfInBounds,Yi M i hi];by_cases e:j=i
  ·subst e;simp[Zt,hj,hv]
  ·rw[if_neg e,Yi N i hi,h i hi (fun x=>e x.symm)]
 ·rw[Array.getElem?_eq_none (by simp[Zt];omega),Array.getElem?_eq_none (by rw[Zt];omega)]
theorem wrap_u64 (x:Nat)(h:x<18446744073709551616):IntKind.u64.wrap (x:Int)=(x:Int):=by
 rw[IntKind.wrap_u64];omega
theorem RM (N k:Nat)(h:N.testBit k=false):N%2^(k+1)=N%2^k:=by
 apply Nat.eq_of_testBit_eq;intro i;rw[Nat.testBit_mod_two_pow,Nat.testBit_mod_two_pow];by_cases e:i=k
 ·subst e;simp[h]
 ·by_cases h1:i<k
  ·simp[h1,Nat.lt_succ_of_lt h1]
  ·simp[h1,show ¬i<k+1 by omega]
theorem VA (N i:Nat)(hi:i<4):lm (N%2^256) i=lm N i:=by
 apply Nat.eq_of_testBit_eq;intro j;rw[ZW,ZW,Nat.testBit_mod_two_pow];by_cases hj:j<64
 ·simp[hj,show 64*i+j<256 by omega]
 ·simp[hj]
theorem Yu (N:Nat):Zc (N%2^256)=Zc N:=by
 unfold Zc;rw[VA N 0 (by omega),VA N 1 (by omega),VA N 2 (by omega),VA N 3 (by omega)]
theorem KH {N M:Nat}(h:Zc N=Zc M):N%2^256=M%2^256:=by
 have hl: ∀i,i<4->lm N i=lm M i:=fun i hi=>by
  have h1:=Yi N i hi;rw[h,Yi M i hi]at h1;simp only[Option.some.injEq,Value.int.injEq,true_and]at h1;omega
 apply Nat.eq_of_testBit_eq;intro k;rw[Nat.testBit_mod_two_pow,Nat.testBit_mod_two_pow];by_cases hk:k<256
 ·rw[<-Nl N k,<-Nl M k,hl _ (by omega)]
 ·simp[hk]
def Nm (A B k:Nat):Bool:=decide (2^k<=A%2^k+B%2^k)
theorem Oa (A B:Nat):Nm A B 0=false:=by simp[Nm,Nat.mod_one]
theorem Nn (A k:Nat):(A.testBit k=false/\A/2^k%2=0/\A%2^(k+1)=A%2^k)∨(A.testBit k=true/\A/2^k%2=1/\A%2^(k+1)=A%2^k+2^k):=by
 rw[Nat.testBit_eq_decide_div_mod_eq,Nat.mod_pow_succ];have h:A/2^k%2=0∨A/2^k%2=1:=by omega
 rcases h with h|h<;>rw[h]<;>simp
theorem No (A B P:Nat)(hP:0<P):(A+B)/P=A/P+B/P+if P<=A%P+B%P then 1 else 0:=by
 have h1:A+B=P*(A/P+B/P)+(A%P+B%P):=by
  have:=Nat.div_add_mod A P;have:=Nat.div_add_mod B P;rw[Nat.mul_add];omega
 have ha:=Nat.mod_lt A hP;have hb:=Nat.mod_lt B hP;rw[h1,Nat.mul_add_div hP]
 split
 ·rw[show(A%P+B%P)/P=1 from Nat.div_eq_of_lt_le (by omega) (by omega)]
 ·rw[show(A%P+B%P)/P=0 from Nat.div_eq_of_lt (by omega)]
theorem wrap_i64 (x:Nat)(h:x<9223372036854775808):IntKind.i64.wrap (x:Int)=(x:Int):=by
 rw[IntKind.wrap_i64];omega
theorem Oc (a b:Nat)(ha:a<9223372036854775808)(hb:b<9223372036854775808):bits .or .i64 (a:Int) (b:Int)=((a|||b:Nat):Int):=by
 have hx:a|||b<2^63:=Nat.or_lt_two_pow (by omega) (by omega);show IntKind.i64.wrap ((BitVec.ofInt 64 (a:Int)|||BitVec.ofInt 64 (b:Int)).toNat:Int)=_
 rw[BitVec.toNat_or,ofInt_u64 a (by omega),ofInt_u64 b (by omega)];exact wrap_i64 _ hx
theorem KI (L j:Nat)(hL:L<9223372036854775808)(hj:j<63):bits .or .i64 (L:Int) (IntKind.i64.wrap (2^j))=((L|||2^j:Nat):Int):=by
 have h2:2^j<9223372036854775808:=Nat.pow_lt_pow_of_lt (a:=2) (n:=j) (m:=63) (by decide) hj;rw[show((2:Int)^j)=((2^j:Nat):Int) by simp,wrap_i64 _ h2,Oc _ _ hL h2]
theorem RN (N k:Nat)(h:N.testBit k=true):N%2^k|||2^k=N%2^(k+1):=by
 apply Nat.eq_of_testBit_eq;intro i;rw[Nat.testBit_or,Nat.testBit_two_pow,Nat.testBit_mod_two_pow,Nat.testBit_mod_two_pow];by_cases e:k=i
 ·subst e;simp[h]
 ·by_cases h1:i<k
  ·simp[h1,Nat.lt_succ_of_lt h1,e]
  ·simp[h1,show ¬i<k+1 by omega,e]
theorem Ss:(prog.info? 180).map (fun i=>(i.zero,i.size))=some (some (.agg (Array.replicate 256 (.bool false))),256):=by kernel_rfl
theorem V7 (w:World):(zeroValue 180).run prog w= .ok (.agg (Xp 0)) w:=by rw[Sr];exact(zero_of_info Ss).1 w
theorem X8:(prog.info? 180).map (·.size)=some 256:=(zero_of_info Ss).2
theorem Od:prog.built 180 []=some (Xp 0):=by rw[Sr];kernel_rfl
theorem QS:(prog.info? 39).map (fun i=>(i.zero,i.size))=some (some (.agg (Zc 0)),4):=by kernel_rfl
theorem Zv (w:World):(zeroValue 39).run prog w= .ok (.agg (Zc 0)) w:=(zero_of_info QS).1 w
theorem Ze:(prog.info? 39).map (·.size)=some 4:=(zero_of_info QS).2
theorem ZO:prog.built 39 []=some (Zc 0):=by kernel_rfl
theorem ZV {w:World}{b N:Nat}(h:Row w b (Zc N) 39)(i:Nat)(hi:i<4):w.cell? ⟨b,i,none⟩=some (.int .u64 (lm N i)):=by rw[h.cell];exact Yi _ _ hi
theorem Su {w:World}{b N:Nat}(h:Row w b (Xp N) 180)(i:Nat)(hi:i<256):w.cell? ⟨b,i,none⟩=some (.bool (N.testBit i)):=by rw[h.cell];exact Wh _ _ hi
set_option maxRecDepth 100000 in
set_option maxHeartbeats 400000 in
theorem Np (N:Nat)(w:World):
  Calls prog 111 #[.agg (Zc N)] w fun e w'=>e= .returned (.agg (Xp N))/\Below w.heap.size w w':=by
 go_enter func111,ntmps111
 go_wp2_with (first
  |refine Zr rfl 39 _ rfl _ rfl ?_
  |refine Zj rfl 180 rfl _ V7 ?_
  |refine ZL rfl 180 rfl _ Od ?_
  |(refine wpList_store_row rfl 180 _ _ rfl _ (Xp 0) rfl rfl 180 (Xp 0) (heap_alloc_new _ _) (by rw[Yp];exact X8) rfl (VV _) ?_))
 have s0:Row ((((w.alloc (.cells (Zc N) 39)).alloc (.cells (Xp 0) 180)).alloc (.cells (Xp 0) 180)).setRow (w.heap.size+1+1) (Xp 0)) w.heap.size (Zc N) 39:=
  (((Row.new w _ _).alloc _).alloc _).setRow_far _ _ (by omega)
 have s1:Row ((((w.alloc (.cells (Zc N) 39)).alloc (.cells (Xp 0) 180)).alloc (.cells (Xp 0) 180)).setRow (w.heap.size+1+1) (Xp 0)) (w.heap.size+1) (Xp 0) 180:=
  by have:=(Row.new (w.alloc (.cells (Zc N) 39)) (Xp 0) 180).alloc (.cells (Xp 0) 180);rw[YF]at this;exact this.setRow_far _ _ (by omega)
 have s2:Row ((((w.alloc (.cells (Zc N) 39)).alloc (.cells (Xp 0) 180)).alloc (.cells (Xp 0) 180)).setRow (w.heap.size+1+1) (Xp 0)) (w.heap.size+1+1) (Xp 0) 180:=
  by have:=Row.new ((w.alloc (.cells (Zc N) 39)).alloc (.cells (Xp 0) 180)) (Xp 0) 180;rw[YF,YF]at this;exact this.setRow _
 have s3:Below w.heap.size w ((((w.alloc (.cells (Zc N) 39)).alloc (.cells (Xp 0) 180)).alloc (.cells (Xp 0) 180)).setRow (w.heap.size+1+1) (Xp 0)):=
  Zy ((((Below.refl _ _).alloc (Nat.le_refl _) _).alloc (by simp) _).alloc (by simp;omega) _) (by omega) _
 go_loopg [4] 256 (fun g s4 wr=> ∃k:Nat,k+g=256/\s4= .int .i64 k/\Row wr w.heap.size (Zc N) 39/\Row wr (w.heap.size+1) (Xp 0) 180/\Row wr (w.heap.size+1+1) (Xp (N%2^k)) 180/\Below w.heap.size w wr)
 case atStart=>exact⟨0,by omega,rfl,s0,s1,by simpa[Nat.mod_one]using s2,s3⟩
 case round=>
  obtain⟨k,hk,rfl,r0,r1,r2,hb⟩:=hrel
  cases gk with
  |zero=>
   obtain rfl:k=256:=by omega
   rw[Nk]at r2;clear s0 s1 s2 s3 hk;have hx: ¬((256:Int)<256):=by omega
   go_wp2_with (first
    |refine wpList_load_row rfl 180 _ rfl _ rfl 180 _ (0,0) _ r2 underlying180 rfl (by rw[Yp];exact X8) ?_
    |refine wpList_store_row rfl 180 _ _ rfl _ (Xp N) rfl rfl 180 (Xp 0) r1 (by rw[Yp];exact X8) (by rw[Yp,Yp]) (VV _) ?_)
   refine ZX rfl _ rfl (r1.setRow _) 256 _ underlying180 (by rw[Yp];exact X8) rfl ⟨rfl,Zy hb (by omega) _⟩
  |succ g=>
   have hlt:(k:Int)<256:=by omega
   have hc0:wr.cell? ⟨w.heap.size,k/64,none⟩=some (.int .u64 (lm N (k/64))):=by rw[r0.cell];exact Yi _ _ (by omega)
   have hc2:wr.cell? ⟨w.heap.size+1+1,k,none⟩=some (.bool ((N%2^k).testBit k)):=by rw[r2.cell];exact Wh _ _ (by omega)
   have hf2:=r2.frozen k;have hlm:=Xz N (k/64);have R:Aside (Row wr w.heap.size (Zc N) 39/\Row wr (w.heap.size+1) (Xp 0) 180/\Row wr (w.heap.size+1+1) (Xp (N%2^k)) 180/\Below w.heap.size w wr):=⟨r0,r1,r2,hb⟩;clear s0 s1 s2 s3 r0 r1 r2 hb;go_wp2;obtain⟨r0,r1,r2,hb⟩:=R.out
   go_roundg g
   case measure=>omega
   case rel=>
    refine⟨k+1,by omega,by go_num,r0.setCell_far _ _ _ (by omega),r1.setCell_far _ _ _ (by omega),?_,Z3 hb (by omega) _ _⟩;have:=r2.setCell k (.bool (bits BinOp.and IntKind.u64 (↑(lm N (k/64))/2^(k%64)) 1==1));rw[Nj N k _ (by rw[KG _ _ hlm,Nl])]at this;exact this
section
variable {P:Program}
theorem Sv (p q:Nat->Bool)(i:Nat)(hi:q i=true)(hn:p i=false): ∀(l:List Nat),i∈l->(∀x,p x=true->q x=true)->l.countP p<l.countP q
 |[],h,_=>by cases h
 |x::r,h,hpq=>by
  have hm:r.countP p<=r.countP q:=List.countP_mono_left fun y _=>hpq y
  rw[List.countP_cons,List.countP_cons];by_cases e:x=i
  ·subst e;rw[hi,hn];simp;omega
  ·have h':i∈r:=by
    cases h with
    |head=>exact absurd rfl e
    |tail _ h=>exact h
   have:=Sv p q i hi hn r h' hpq;by_cases hp:p x=true
   ·rw[hp,hpq x hp];simp;omega
   ·simp[hp];split<;>omega
def left (n:Nat)(d:Nat->Bool):Nat:=(List.range n).countP fun j=> !d j
theorem Nq {ops:Array Oper}{Q:Exit->Act->World->Prop}{md:Region.Mode}(Inv:(Nat->Bool)->Act->World->Prop)
  (hlex: ∀(i:Nat) (o:Oper),ops[i]?=some o-> ∀e∈o.after,Region.binds md e=true->e.on<i)
  (hstep: ∀(i:Nat) (o:Oper),ops[i]?=some o-> ∀d a w,Inv d a w->d i=false->(∀e∈o.after,Region.binds md e=true->d e.on=true)->
   if Region.wanted o (yielded ops a.tmps)=true then o.wp P a w (Inv fun j=>j==i||d j) Q else Inv (fun j=>j==i||d j) (a.put o.dst undef) w)
  (hend: ∀d a w,Inv d a w->(∀j,j<ops.size->d j=true)->Q .normal a w):
  ∀(fuel:Nat) (L:Array Bool) (a:Act) (w:World),L.size=ops.size->left ops.size (fun j=>L.getD j false)<=fuel->Inv (fun j=>L.getD j false) a w->wpAny P md ops Q fuel L a w:=by
 have hnone: ∀(L:Array Bool),L.size=ops.size->Region.ready md ops L=[]-> ∀j,j<ops.size->L.getD j false=true:=by
  intro L hL hr j
  induction j using Nat.strongRecOn with
  |_ j ih=>
   intro hj
   cases hd:L.getD j false with
   |true=>rfl
   |false=>
    have hm:j∈Region.ready md ops L:=mem_ready.2 ⟨by
      have h1:L[j]?=some (L[j]'(by omega)):=Array.getElem?_eq_getElem (by omega);simp[h1]at hd ⊢
      exact hd,ops[j],Array.getElem?_eq_getElem hj,fun e he hbd=>ih e.on (hlex j _ (Array.getElem?_eq_getElem hj) e he hbd) (Nat.lt_trans (hlex j _ (Array.getElem?_eq_getElem hj) e he hbd) hj)⟩
    rw[hr]at hm;cases hm
 intro fuel
 induction fuel with
 |zero=>
  intro L a w hL hc hI
  have hr:Region.ready md ops L=[]:=by
   cases hq:Region.ready md ops L with
   |nil=>rfl
   |cons i r=>
    have hi:i∈Region.ready md ops L:=by rw[hq];exact List.mem_cons_self
    obtain⟨hun,o,ho,_⟩:=mem_ready.1 hi;have hlt:i<ops.size:=(Array.getElem?_eq_some_iff.1 ho).1
    have hpos:0<left ops.size (fun j=>L.getD j false):=by
     unfold left;refine List.countP_pos_iff.2 ⟨i,List.mem_range.2 hlt,?_⟩;have h1:L[i]?=some (L[i]'(by omega)):=Array.getElem?_eq_getElem (by omega);simp[h1]at hun ⊢;exact hun
    omega
  exact⟨hr,hend _ a w hI (hnone L hL hr)⟩
 |succ fuel ih=>
  intro L a w hL hc hI;refine⟨fun hr=>hend _ a w hI (hnone L hL hr),fun i hi=>?_⟩;obtain⟨hun,o,ho,hpre⟩:=mem_ready.1 hi;have hlt:i<ops.size:=(Array.getElem?_eq_some_iff.1 ho).1
  have hd:L.getD i false=false:=by
   have h1:L[i]?=some (L[i]'(by omega)):=Array.getElem?_eq_getElem (by omega);simp[h1]at hun ⊢;exact hun
  have hset:(fun j=>(L.setIfInBounds i true).getD j false)=fun j=>j==i||L.getD j false:=by
   funext j
   by_cases e:j=i
   ·subst e;simp[show j<L.size by omega]
   ·have:(j==i)=false:=by simp[e]
    simp[Array.getElem?_setIfInBounds_ne (Ne.symm e),this]
  have hnext: ∀a' w',Inv (fun j=>j==i||L.getD j false) a' w'->wpAny P md ops Q fuel (L.setIfInBounds i true) a' w':=by
   intro a' w' h';refine ih _ a' w' (by simp[hL]) ?_ (by rw[hset];exact h');rw[hset]
   have:=Sv (fun j=> !(j==i||L.getD j false)) (fun j=> !L.getD j false) i (by rw[hd];rfl) (by simp) (List.range ops.size) (List.mem_range.2 hlt) (fun x hx=>by
    rw[Bool.not_eq_true']at hx ⊢;rw[Bool.or_eq_false_iff]at hx
    exact hx.2)
   exact Nat.le_of_lt_succ (Nat.lt_of_lt_of_le this hc)
  have h:=hstep i o ho _ a w hI hd hpre;unfold wpOp;simp only[ho]
  split
  ·rename_i hw
   rw[if_pos hw]at h;exact .inl (Oper.wp_mono hnext h)
  ·rename_i hw
   rw[if_neg hw]at h;exact hnext _ _ h
theorem Wi {id:Nat}{l:List Oper}{a:Act}{w:World}{Q:Exit->Act->World->Prop}(hm:P.follows .mixedOrders=true)(Inv:(Nat->Bool)->Act->World->Prop)
  (hlex:(l.zipIdx.all fun x=>x.1.after.all fun e=> !Region.binds .any e||decide (e.on<x.2))=true)
  (h0:Inv (fun _=>false) a w.drew)
  (hstep: ∀(i:Nat) (o:Oper),l[i]?=some o-> ∀d a w,Inv d a w->d i=false->(∀e∈o.after,Region.binds .any e=true->d e.on=true)->
   if Region.wanted o (yielded l.toArray a.tmps)=true then o.wp P a w (Inv fun j=>j==i||d j) Q else Inv (fun j=>j==i||d j) (a.put o.dst undef) w)
  (hend: ∀d a w,Inv d a w->(∀j,j<l.length->d j=true)->Q .normal a w):(Code.region id l.toArray true).wp P Q a w:=by
 refine wp_region_any hm ?_;refine Nq Inv (fun i o ho e he hbd=>?_) (fun i o ho=>hstep i o (by simpa using ho)) (fun d a w hI hd=>hend d a w hI (by simpa using hd)) _ _ _ _ (by simp) ?_ ?_
 ·have h1:(o,i)∈l.zipIdx:=by
   rw[List.mem_zipIdx_iff_getElem?]
   simpa using ho
  have h2:=List.all_eq_true.1 hlex _ h1;have h3:=Array.all_eq_true_iff_forall_mem.1 h2 e he;rw[hbd]at h3
  simpa using h3
 ·unfold left;exact Nat.le_trans List.countP_le_length (by simp)
 ·have:(fun j=>(Array.replicate l.toArray.size false).getD j false)=fun _=>false:=by
   funext j
   by_cases hj:j<l.length
   ·simp[hj]
   ·simp[hj]
  rw[this];exact h0
theorem H9 {ops:Array Oper}{o:Oper}{a:Act}{w:World}{K:Act->World->Prop}{Q:Exit->Act->World->Prop}{E:Prop}(hg:o.guard=none)(h:o.wp P a w K Q):
  if Region.wanted o (yielded ops a.tmps)=true then o.wp P a w K Q else E:=by
 rw[if_pos (by simp[Region.wanted,hg])];exact h
structure OpW (P:Program)(o:Oper)(a:Act)(w:World)(K:Act->World->Prop)(Q:Exit->Act->World->Prop):Prop where
 out:o.wp P a w K Q
theorem UU {id:Nat}{l:List Oper}{a:Act}{w:World}{Q:Exit->Act->World->Prop}(hm:P.follows .mixedOrders=true)(Inv:(Nat->Bool)->Act->World->Prop)
  (hlex:(l.zipIdx.all fun x=>x.1.guard.isNone&&x.1.after.all fun e=> !Region.binds .any e||decide (e.on<x.2))=true)
  (h0:Inv (fun _=>false) a w.drew)
  (hstep: ∀(i:Nat) (o:Oper),l[i]?=some o-> ∀d a w,Inv d a w->d i=false->(∀e∈o.after,Region.binds .any e=true->d e.on=true)->OpW P o a w (Inv fun j=>j==i||d j) Q)
  (hend: ∀d a w,Inv d a w->(∀j,j<l.length->d j=true)->Q .normal a w):(Code.region id l.toArray true).wp P Q a w:=by
 refine Wi hm Inv ?_ h0 (fun i o ho d a w hI hd hpre=>?_) hend
 ·rw[List.all_eq_true]at hlex ⊢;intro x hx;have:=hlex x hx;rw[Bool.and_eq_true]at this;exact this.2
 ·have h1:(o,i)∈l.zipIdx:=by
   rw[List.mem_zipIdx_iff_getElem?]
   simpa using ho
  have h2:=List.all_eq_true.1 hlex _ h1;rw[Bool.and_eq_true]at h2;exact H9 (by simpa using h2.1) (hstep i o ho d a w hI hd hpre).out
theorem ZM {f:FuncId}{fn:Func}(hf:P.funcs[f]?=some fn)(hb:(fn.name== "runtime.NumGoroutine" ||fn.body.isNone)=false)(args:Array Value)(w:World):
  (callFunc f args).run P w= .ok (.enter f args) w:=by
 rw[Bool.or_eq_false_iff]at hb;have h1:fn.name≠ "runtime.NumGoroutine" :=by simpa using hb.1
 have h2:fn.body≠none:=fun e=>by rw[e]at hb;exact absurd hb.2 (by decide)
 simp[callFunc,hf,h1,h2]
theorem Sw {o:Oper}{a:Act}{w:World}{K:Act->World->Prop}{Q:Exit->Act->World->Prop}{fn:Func}(f:FuncId)(args:Array Operand)(ts:Array TypeId)
  (ho:o.op= .call {callee:=.value (.func f),args:=args,argTypes:=ts})(hf:P.funcs[f]?=some fn)(hb:(fn.name== "runtime.NumGoroutine" ||fn.body.isNone)=false)
  (vs:Array Value)(hv':args.toList.map a.eval=vs.toList)
  (h:Calls P f vs w fun e w'=> ∃v,e= .returned v/\K (a.put o.dst v) w'):o.wp P a w K Q:=by
 have hv:args.map a.eval=vs:=by apply Array.toList_inj.1;rw[Array.toList_map];exact hv'
 unfold Oper.wp execOp;have hr:=ZM (P:=P) hf hb vs w;simp only[ho,resolve,hv,Act.eval]
 have hd:(do let d<-Deferred.ofValue (Value.func (Fn.func f) #[] #[]) vs;invoke d.target d.args:Sem Next).run P w= .ok (.enter f vs) w:=by
  simp[Deferred.ofValue,invoke,hr]
 rw[hd,Oper.upon_enter]
 exact h.mono fun e w' ⟨v,he,hk⟩=>by subst he;exact hk
theorem QT {o:Oper}{a:Act}{w:World}{K:Act->World->Prop}{Q:Exit->Act->World->Prop}{fn:Func}(f:FuncId)(args:Array Operand)(ts:Array TypeId)
  (ho:o.op= .call {callee:=.value (.func f),args:=args,argTypes:=ts})(hf:P.funcs[f]?=some fn)(hb:(fn.name== "runtime.NumGoroutine" ||fn.body.isNone)=false)
  (vs:Array Value)(hv':args.toList.map a.eval=vs.toList)
  (h:Calls P f vs w fun e w'=> ∃v,e= .returned v/\K (a.put o.dst v) w'):OpW P o a w K Q:=⟨Sw f args ts ho hf hb vs hv' h⟩
def U0:Array Value->Sem Value:=
 match Extern.MathBitsCarry.rows with
 |[_,row]=>row.2
 |_=>fun _=>pure undef
def C7 (x y b:Nat):Nat:=(x+18446744073709551616-y-b)%18446744073709551616
def Aj (x y b:Nat):Nat:=if x<y+b then 1 else 0
def U1 (x y c:Nat):Nat:=(x+y+c)%18446744073709551616
def RI (x y c:Nat):Nat:=(x+y+c)/18446744073709551616
theorem Nr (x y b:Nat)(hb:b<=1)(w:World):
  (U0 #[.int .u64 x,.int .u64 y,.int .u64 b]).run P w= .ok (.tuple #[.int .u64 (C7 x y b:Nat),.int .u64 (Aj x y b:Nat)]) w:=by
 have:b=0∨b=1:=by omega
 rcases this with rfl|rfl<;>rfl
theorem YH (x y c:Nat)(hc:c<=1)(w:World):
  (add64Entry #[.int .u64 x,.int .u64 y,.int .u64 c]).run P w= .ok (.tuple #[.int .u64 (U1 x y c:Nat),.int .u64 (RI x y c:Nat)]) w:=by
 have:c=0∨c=1:=by omega
 rcases this with rfl|rfl<;>rfl
theorem W1 {ops:Array Oper}{o:Oper}{a:Act}{w:World}{K:Act->World->Prop}{Q:Exit->Act->World->Prop}{E:Prop}{fn:Func}{en:Array Value->Sem Value}(hg:o.guard=none)
  (f:FuncId)(args:Array Operand)(ts:Array TypeId)(ho:o.op= .call {callee:=.value (.func f),args:=args,argTypes:=ts})
  (hf:P.funcs[f]?=some fn)(hname:(fn.name== "runtime.NumGoroutine")=false)(hb:fn.body.isNone=true)(hn:Extern.findNext fn=none)(he:Extern.find fn=some en)
  (vs:Array Value)(hv':args.toList.map a.eval=vs.toList)(v:Value)(hr:(en vs).run P w= .ok v w)(hK:K (a.put o.dst v) w):
  if Region.wanted o (yielded ops a.tmps)=true then Oper.wp P o a w K Q else E:=by
 rw[if_pos (by simp[Region.wanted,hg])]
 have hv:args.map a.eval=vs:=by apply Array.toList_inj.1;rw[Array.toList_map];exact hv'
 unfold Oper.wp execOp;have hc:=run_callFunc_extern (P:=P) hf hname hb hn he vs w;rw[hr]at hc;simp only[ho,resolve,hv,Act.eval]
 have hd:(do let d<-Deferred.ofValue (Value.func (Fn.func f) #[] #[]) vs;invoke d.target d.args:Sem Next).run P w= .ok (.value v) w:=by
  simp[Deferred.ofValue,invoke,hc]
 rw[hd];exact hK
end
theorem Sx (N k i:Nat):lm (N%2^(64*k)) i=if i<k then lm N i else 0:=by
 apply Nat.eq_of_testBit_eq;intro j;rw[ZW,Nat.testBit_mod_two_pow]
 split
 ·rw[ZW];by_cases hj:j<64
  ·simp[hj,show 64*i+j<64*k by omega]
  ·simp[hj]
 ·rw[Nat.zero_testBit];by_cases hj:j<64
  ·simp[show ¬64*i+j<64*k by omega]
  ·simp[hj]
theorem Xr (N k v:Nat)(hk:k<4)(hv:v=lm N k):(Zc (N%2^(64*k))).setIfInBounds k (.int .u64 v)=Zc (N%2^(64*(k+1))):=by
 subst hv;refine Vg _ _ _ _ hk ?_ ?_
 ·rw[Sx,if_pos (by omega)]
 ·intro i _ hne;rw[Sx,Sx];by_cases h:i<k
  ·rw[if_pos (by omega),if_pos h]
  ·rw[if_neg (by omega),if_neg h]
def cN (A B k:Nat):Nat:=if Nm A B k=true then 1 else 0
theorem Ga (A B k:Nat):cN A B k<=1:=by unfold cN;split<;>omega
theorem Ns (A B k:Nat):cN A B k=if 2^k<=A%2^k+B%2^k then 1 else 0:=by unfold cN Nm;simp
theorem Y5 (k:Nat):2^(64*(k+1))=2^(64*k)*18446744073709551616:=by
 rw[show 64*(k+1)=64*k+64 by omega,Nat.pow_add]
theorem KJ (A B k:Nat):lm (A+B) k=(lm A k+lm B k+cN A B (64*k))%18446744073709551616:=by
 have hP:=Nat.two_pow_pos (64*k);rw[Ns];show(A+B)/2^(64*k)%18446744073709551616=(A/2^(64*k)%18446744073709551616+B/2^(64*k)%18446744073709551616+_)%18446744073709551616
 rw[No A B _ hP];omega
theorem XT (A k:Nat):A%2^(64*(k+1))=A%2^(64*k)+2^(64*k)*lm A k:=by
 rw[Y5,Nat.mod_mul];rfl
theorem Nt (A B k:Nat):cN A B (64*(k+1))=(lm A k+lm B k+cN A B (64*k))/18446744073709551616:=by
 have hP:=Nat.two_pow_pos (64*k);have ha:=Nat.mod_lt A hP;have hb:=Nat.mod_lt B hP;have la:=Xz A k;have lb:=Xz B k;rw[Ns,Ns,XT,XT,Y5];generalize lm A k=x at*;generalize lm B k=y at*;generalize 2^(64*k)=P at*;generalize A%P=a at*;generalize B%P=b at*;have key: ∀u v:Nat,u<=v->P*u<=P*v:=fun u v h=>Nat.mul_le_mul_left P h
 have e1:P*(x+y)=P*x+P*y:=Nat.mul_add P x y;by_cases hc:P<=a+b
 ·rw[if_pos hc];by_cases hm:18446744073709551616<=x+y+1
  ·have:=key 18446744073709551616 (x+y+1) hm;rw[Nat.mul_add,Nat.mul_one]at this;rw[if_pos (by omega)];omega
  ·have:=key (x+y+2) 18446744073709551616 (by omega);rw[Nat.mul_add]at this;rw[if_neg (by omega)];omega
 ·rw[if_neg hc];by_cases hm:18446744073709551616<=x+y
  ·have:=key 18446744073709551616 (x+y) hm;rw[if_pos (by omega)];omega
  ·have:=key (x+y+1) 18446744073709551616 (by omega);rw[Nat.mul_add,Nat.mul_one]at this;rw[if_neg (by omega)];omega
def bN (A B k:Nat):Nat:=if A%2^k<B%2^k then 1 else 0
theorem Gb (A B k:Nat):bN A B k<=1:=by unfold bN;split<;>omega
theorem Oe (A B k:Nat):bN A B (64*(k+1))=if lm A k<lm B k+bN A B (64*k)then 1 else 0:=by
 have hP:=Nat.two_pow_pos (64*k);have ha:=Nat.mod_lt A hP;have hb:=Nat.mod_lt B hP;unfold bN;rw[XT,XT];generalize lm A k=x at*;generalize lm B k=y at*;generalize 2^(64*k)=P at*;generalize A%P=a at*;generalize B%P=b at*;have key: ∀u v:Nat,u<=v->P*u<=P*v:=fun u v h=>Nat.mul_le_mul_left P h
 obtain⟨c,hc,e⟩: ∃c,(if a<b then 1 else 0)=c/\((a<b/\c=1)∨(¬a<b/\c=0)):=⟨_,rfl,by
  by_cases hc:a<b
  ·exact .inl ⟨hc,if_pos hc⟩
  ·exact .inr ⟨hc,if_neg hc⟩⟩
 rw[hc];rcases Nat.lt_trichotomy x y with h|h|h
 ·have:=key (x+1) y h;rw[Nat.mul_add,Nat.mul_one]at this;rw[if_pos (by omega),if_pos (by omega)]
 ·subst h;rcases e with ⟨e1,e2⟩|⟨e1,e2⟩
  ·rw[if_pos (by omega),if_pos (by omega)]
  ·rw[if_neg (by omega),if_neg (by omega)]
 ·have:=key (y+1) x h;rw[Nat.mul_add,Nat.mul_one]at this;rw[if_neg (by omega),if_neg (by omega)]
def WU (A B:Nat):Nat:=A+(2^256-B)
theorem KK (A B Q P:Nat)(hP:0<P)(hB:B<P*Q):(A+(P*Q-B))/P=A/P+Q-B/P-if A%P<B%P then 1 else 0:=by
 have ha:=Nat.div_add_mod A P;have hb:=Nat.div_add_mod B P;have ma:=Nat.mod_lt A hP;have mb:=Nat.mod_lt B hP;have hbQ:B/P<Q:=Nat.div_lt_of_lt_mul hB;generalize A/P=x at*;generalize B/P=y at*;generalize A%P=a at*;generalize B%P=b at*;obtain⟨z,rfl⟩: ∃z,Q=y+1+z:=⟨Q-(y+1),by omega⟩
 have e:P*(y+1+z)=P*y+P+P*z:=by rw[Nat.mul_add,Nat.mul_add,Nat.mul_one]
 split
 ·have:A+(P*(y+1+z)-B)=P*(x+z)+(P+a-b):=by have e2:P*(x+z)=P*x+P*z:=Nat.mul_add _ _ _;omega
  rw[this,Nat.mul_add_div hP,Nat.div_eq_of_lt (by omega)];omega
 ·have e2:P*(x+z+1)=P*x+P*z+P:=by rw[Nat.mul_add,Nat.mul_add,Nat.mul_one]
  have:A+(P*(y+1+z)-B)=P*(x+z+1)+(a-b):=by omega
  rw[this,Nat.mul_add_div hP,Nat.div_eq_of_lt (by omega)];omega
theorem KL (A B k:Nat)(hk:k<4)(hB:B<2^256):lm (WU A B) k=(lm A k+18446744073709551616-lm B k-bN A B (64*k))%18446744073709551616:=by
 have hP:=Nat.two_pow_pos (64*k)
 have hQ:2^256=2^(64*k)*(2^(64*(3-k))*18446744073709551616):=by
  rw[<-Nat.mul_assoc,<-Nat.pow_add,show 18446744073709551616=2^64 from rfl,<-Nat.pow_add]
  congr 1;omega
 unfold WU bN lm;rw[hQ]at hB ⊢;rw[KK A B _ _ hP hB];have hbQ:B/2^(64*k)<2^(64*(3-k))*18446744073709551616:=Nat.div_lt_of_lt_mul hB;generalize A/2^(64*k)=x at*;generalize B/2^(64*k)=y at*;generalize 2^(64*(3-k))=z at*
 split<;>omega
end Go.Proofs.YtcdahmommonnfaaGreatDoor
