import Derived.Test.YtcdahmommonnfaaGreatDoorGA
namespace Go.Proofs.YtcdahmommonnfaaGreatDoor
set_option linter.all false
open Go.RowKit
section
variable {P:Program}
structure QW (P:Program)(ops:Array Oper)(W:World)(Q:Act->Prop)(l:List Oper)(a:Act):Prop where
 out:wpQuiet P ops (Below W.heap.size W) Q l a
theorem ZF {id:Nat}{Q:Exit->Act->World->Prop}{a:Act}{W:World}{l:List Oper}(hm:P.follows .mixedOrders=true)(hB:Region.lexB .any l.toArray=true)
  (h:QW P l.toArray W (fun a'=> ∀w',Below W.heap.size W w'->Q .normal a' w') l a):(Code.region id l.toArray true).wp P Q a W:=
 wp_region_quiet (C:=Below W.heap.size W) hm hB ((Below.refl _ _).drew) (by simpa using h.out)
variable {ops:Array Oper}{W:World}{Q:Act->Prop}{rest:List Oper}{o:Oper}{a:Act}
theorem Z2 (h:Q a):QW P ops W Q [] a:=⟨h⟩
theorem WN (hw:Region.wanted o (yielded ops a.tmps)=true)(v:Value)(hr: ∀w,(execOp a.eval o).run P w= .ok (.value v) w)(h:QW P ops W Q rest (a.put o.dst v)):QW P ops W Q (o::rest) a:=by
 refine⟨?_⟩;unfold wpQuiet;rw[if_pos hw];exact⟨v,fun w _=>by unfold Oper.quietAt;rw[hr];exact⟨rfl,rfl⟩,h.out⟩
theorem ZI (hw:Region.wanted o (yielded ops a.tmps)=false)(h:QW P ops W Q rest (a.put o.dst undef)):QW P ops W Q (o::rest) a:=by
 refine⟨?_⟩;unfold wpQuiet;rw[if_neg (by rw[hw];decide)];exact h.out
theorem Xc (hw:Region.wanted o (yielded ops a.tmps)=true)(ty:TypeId)(x:Operand)(ho:o.op= .load ty x)
  (g:Nat)(hx:a.eval x= .pointer (some ⟨g,0,none⟩)){t:TypeId}{cs:Array Value}(hg:Row W g cs t)(n:Nat)(e:TypeId)
  (hu:P.underlying ty=some (.array n e))(hi:(P.info? ty).map (·.size)=some cs.size)
  (h:QW P ops W Q rest (a.put o.dst (.agg cs))):QW P ops W Q (o::rest) a:=by
 refine⟨?_⟩;unfold wpQuiet;rw[if_pos hw];refine⟨.agg cs,fun w hC=>?_,h.out⟩
 have hr:(execOp a.eval o).run P w= .ok (.value (.agg cs)) w:=by
  unfold execOp;simp only[ho,hx,Instr.loadAt,Instr.sureAddr,Sem.run_bind,Sem.run_pure,Result.andThen_ok,run_loadVar_row w g t ty cs (0,0) _ (hg.belowAll hC) hu rfl hi]
 unfold Oper.quietAt;rw[hr];exact⟨rfl,rfl⟩
theorem Gc {fn:Func}(hw:Region.wanted o (yielded ops a.tmps)=true)(f:FuncId)(args:Array Operand)(ts:Array TypeId)
  (ho:o.op= .call {callee:=.value (.func f),args:=args,argTypes:=ts})(hf:P.funcs[f]?=some fn)(hb:(fn.name== "runtime.NumGoroutine" ||fn.body.isNone)=false)
  (vs:Array Value)(hv':args.toList.map a.eval=vs.toList)(v:Value)
  (hc: ∀w,Calls P f vs w (Rt v w))
  (h:QW P ops W Q rest (a.put o.dst v)):QW P ops W Q (o::rest) a:=by
 refine⟨?_⟩;unfold wpQuiet;rw[if_pos hw];refine⟨v,fun w hC=>?_,h.out⟩
 have hv:args.map a.eval=vs:=by apply Array.toList_inj.1;rw[Array.toList_map];exact hv'
 have hr:=ZM (P:=P) hf hb vs w
 have hd:(execOp a.eval o).run P w= .ok (.enter f vs) w:=by
  unfold execOp;simp only[ho,resolve,hv,Act.eval];simp[Deferred.ofValue,invoke,hr]
 unfold Oper.quietAt;rw[hd];exact⟨rfl,(hc w).mono fun e w' ⟨he,hb'⟩=>⟨he,Zk hC (Nat.le_refl _) hb'⟩⟩
theorem q_c {fn:Func}(f:FuncId)(hf:P.funcs[f]?=some fn)(vs:Array Value){v:Value}(hc: ∀w,Calls P f vs w (Rt v w))(h:QW P ops W Q rest (a.put o.dst v)){args:Array Operand}{ts:Array TypeId}(hw:Region.wanted o (yielded ops a.tmps)=true:=by rfl)(ho:o.op= .call {callee:=.value (.func f),args:=args,argTypes:=ts}:=by exact rfl)(hb:(fn.name== "runtime.NumGoroutine" ||fn.body.isNone)=false:=by kernel_rfl)(hv':args.toList.map a.eval=vs.toList:=by exact rfl):QW P ops W Q (o::rest) a:=Gc hw f args ts ho hf hb vs hv' v hc h
end
section
variable {P:Program}
abbrev Sp:=((Nat->Nat)->Value)×List Nat×Option (TypeId×Array Value)×List (Nat×Array Value)
def spV (p:Nat->Nat)(s:Sp):Value:=s.1 p
def Loc (n:Nat)(s:Sp):Prop:=(∃v,s.1=fun _=>v)∨(∃f:Nat->Value,s.1=fun q=>f (q n))∨(∃(j:Nat) (f:Nat->Value),j<n/\(2*j+1)∈s.2.1/\s.1=fun q=>f (q j))
theorem Loc.same {n:Nat}{s:Sp}(h:Loc n s){q q':Nat->Nat}(h1:q n=q' n)(h2: ∀j,j<n->(2*j+1)∈s.2.1->q j=q' j):s.1 q=s.1 q':=by
 rcases h with ⟨v,e⟩|⟨f,e⟩|⟨j,f,hj,hm,e⟩<;>rw[e]
 ·show f (q n)=f (q' n)
  rw[h1]
 ·show f (q j)=f (q' j)
  rw[h2 j hj hm]
def upd (p:Nat->Nat)(n g:Nat):Nat->Nat:=fun j=>if j=n then g else p j
theorem YY (p:Nat->Nat)(n g:Nat):upd p n g n=g:=if_pos rfl
theorem Sy (p:Nat->Nat){n j:Nat}(g:Nat)(h:j≠n):upd p n g j=p j:=if_neg h
abbrev Ct:=Nat->Option (TypeId×Array Value)
def XC (ct:Ct)(k:Nat)(x:TypeId×Array Value):Ct:=fun j=>if j=k then some x else ct j
def VB (l:List (Nat×Array Value))(k:Nat):Option (Array Value):=(l.find? fun x=>x.1==k).map (·.2)
def spC (i:Nat)(s:Sp)(ct:Ct):Ct:=fun k=>
 match s.2.2.1,decide (k=2*i+1)with
 |some m,true=>some m
 |_,_=>match VB s.2.2.2 k with
  |some c=>(ct k).map fun y=>(y.1,c)
  |none=>ct k
def Ng (i:Nat)(s:Sp):List Nat:=(match s.2.2.1 with|none=>[]|some _=>[2*i+1])++s.2.2.2.map (·.1)
def Wy (s:Sp):List Nat:=s.2.1++s.2.2.2.map (·.1)
def VC (p:Nat->Nat)(d:Nat->Bool):Nat->List (Oper×Sp)->Act->Act
 |_,[],a=>a
 |n,x::l,a=>VC p d (n+1) l (if d n=true then a.put x.1.dst (spV p x.2)else a)
def ctD (d:Nat->Bool):Nat->List (Oper×Sp)->Ct->Ct
 |_,[],ct=>ct
 |n,x::l,ct=>ctD d (n+1) l (if d n=true then spC n x.2 ct else ct)
theorem Of {l:List (Nat×Array Value)}{k:Nat}(h:k∉l.map (·.1)):VB l k=none:=by
 unfold VB;rw[List.find?_eq_none.2 fun x hx e=>h (List.mem_map.2 ⟨x,hx,by simpa using e⟩)];rfl
theorem Og {l:List (Nat×Array Value)}{k:Nat}(h:k∈l.map (·.1)): ∃c,VB l k=some c/\(k,c)∈l:=by
 unfold VB
 cases hf:l.find? fun x=>x.1==k with
 |none=>
  obtain⟨x,hx,e⟩:=List.mem_map.1 h;have:=List.find?_eq_none.1 hf x hx;simp[e]at this
 |some x=>
  have h1:=List.find?_some hf;have h2:=List.mem_of_find?_eq_some hf;have h3:x.1=k:=by simpa using h1
  exact⟨x.2,rfl,by rw[<-h3];exact h2⟩
theorem XM {i k:Nat}{s:Sp}(ct:Ct)(h:k∉Ng i s):spC i s ct k=ct k:=by
 unfold Ng at h;rw[List.mem_append]at h;have h2:=Of fun hm=>h (.inr hm)
 unfold spC;rw[h2]
 cases hm:s.2.2.1 with
 |none=>rfl
 |some m=>
  have:k≠2*i+1:=fun e=>h (.inl (by rw[hm,e];exact List.mem_singleton.2 rfl))
  simp[this]
theorem QU {i k:Nat}(s:Sp){ct ct':Ct}(h:ct k=ct' k):spC i s ct k=spC i s ct' k:=by
 unfold spC;rw[h]
theorem Tr {i:Nat}{s:Sp}{m:TypeId×Array Value}(hm:s.2.2.1=some m)(ct:Ct):spC i s ct (2*i+1)=some m:=by
 unfold spC;rw[hm,decide_eq_true rfl]
theorem QV {i k:Nat}{s:Sp}(hk:k∈s.2.2.2.map (·.1))(hne:s.2.2.1=none∨k≠2*i+1)(ct:Ct): ∃c,(k,c)∈s.2.2.2/\spC i s ct k=(ct k).map fun y=>(y.1,c):=by
 obtain⟨c,hf,hm⟩:=Og hk;refine⟨c,hm,?_⟩;unfold spC;rw[hf];rcases hne with h|h
 ·rw[h]
 ·cases s.2.2.1 with
  |none=>rfl
  |some m=>simp[h]
theorem Vh {d d':Nat->Bool}{k:Nat}: ∀(l:List (Oper×Sp)) (n:Nat) (ct ct':Ct),(∀j x,l[j]?=some x->k∈Ng (n+j) x.2->d (n+j)=d' (n+j))->ct k=ct' k->ctD d n l ct k=ctD d' n l ct' k
 |[],_,_,_,_,h=>h
 |x::l,n,ct,ct',hd,h=>by
  unfold ctD;refine Vh l (n+1) _ _ (fun j y hj hh=>?_) ?_
  ·have:=hd (j+1) y (by simpa using hj);rw[show n+(j+1)=n+1+j by omega]at this;exact this hh
  ·by_cases e:k∈Ng n x.2
   ·have h0:=hd 0 x rfl e;rw[Nat.add_zero]at h0;rw[h0]
    split
    ·exact QU x.2 h
    ·exact h
   ·have h1:(if d n=true then spC n x.2 ct else ct) k=ct k:=by split;exact XM ct e;rfl
    have h2:(if d' n=true then spC n x.2 ct' else ct') k=ct' k:=by split;exact XM ct' e;rfl
    rw[h1,h2,h]
theorem VD {p p':Nat->Nat}{d d':Nat->Bool}: ∀(l:List (Oper×Sp)) (n:Nat) (a:Act),(∀j,n<=j->d j=d' j)->(∀j x,l[j]?=some x->d (n+j)=true->spV p x.2=spV p' x.2)->VC p d n l a=VC p' d' n l a
 |[],_,_,_,_=>rfl
 |x::l,n,a,hd,hp=>by
  unfold VC;rw[VD l (n+1) _ (fun j hj=>hd j (by omega)) (fun j y hj hdj=>hp (j+1) y (by simpa using hj) (by rw[show n+(j+1)=n+1+j by omega];exact hdj)),<-hd n (Nat.le_refl _)];by_cases e:d n=true
  ·rw[if_pos e,if_pos e,hp 0 x rfl (by rw[Nat.add_zero];exact e)]
  ·rw[if_neg e,if_neg e]
theorem V8 {p:Nat->Nat}{d:Nat->Bool}: ∀(l:List (Oper×Sp)) (n:Nat) (a:Act),(∀j,n<=j->d j=false)->VC p d n l a=a
 |[],_,_,_=>rfl
 |x::l,n,a,hd=>by
  unfold VC;rw[if_neg (by rw[hd n (Nat.le_refl _)];decide)];exact V8 l (n+1) a fun j hj=>hd j (by omega)
theorem Vi {d:Nat->Bool}: ∀(l:List (Oper×Sp)) (n:Nat) (ct:Ct),(∀j,n<=j->d j=false)->ctD d n l ct=ct
 |[],_,_,_=>rfl
 |x::l,n,ct,hd=>by
  unfold ctD;rw[if_neg (by rw[hd n (Nat.le_refl _)];decide)];exact Vi l (n+1) ct fun j hj=>hd j (by omega)
theorem QX {p:Nat->Nat}{d:Nat->Bool}{dst:Option Tmp}{v:Value}: ∀(l:List (Oper×Sp)) (n:Nat) (a:Act),(∀x∈l,∀s,dst=some s->x.1.dst≠some s)->VC p d n l (a.put dst v)=(VC p d n l a).put dst v
 |[],_,_,_=>rfl
 |x::l,n,a,h=>by
  unfold VC;rw[<-QX l (n+1) _ fun y hy=>h y (List.mem_cons_of_mem _ hy)]
  congr 1
  by_cases e:d n=true
  ·rw[if_pos e,if_pos e];exact Act.put_comm a v _ fun s hs=>h x (List.mem_cons_self ..) s hs
  ·rw[if_neg e,if_neg e]
theorem QY {p:Nat->Nat}{d:Nat->Bool}: ∀(l:List (Oper×Sp)) (n i:Nat) (a:Act) (x:Oper×Sp),l[i]?=some x->d (n+i)=false->
  (∀j y,l[j]?=some y->j≠i-> ∀s,x.1.dst=some s->y.1.dst≠some s)->VC p (fun j=>j==n+i||d j) n l a=(VC p d n l a).put x.1.dst (spV p x.2)
 |[],_,_,_,_,h,_,_=>by simp at h
 |y::l,n,0,a,x,h,hd,hs=>by
  obtain rfl:y=x:=by simpa using h
  unfold VC;rw[if_pos (by simp),if_neg (by rw[Nat.add_zero]at hd;rw[hd];decide)];rw[VD (p':=p) (d':=d) l (n+1) _ (fun j hj=>by rw[show(j==n+0)=false by simp;omega];rfl) (fun _ _ _ _=>rfl)];refine QX l (n+1) a fun z hz s hd'=>?_
  obtain⟨j,hj⟩:=List.mem_iff_getElem?.1 hz;exact hs (j+1) z (by simpa using hj) (by omega) s hd'
 |y::l,n,i+1,a,x,h,hd,hs=>by
  unfold VC;rw[show(n==n+(i+1)||d n)=d n by rw[show(n==n+(i+1))=false by simp];rfl]
  have:=QY (p:=p) (d:=d) l (n+1) i (if d n=true then a.put y.1.dst (spV p y.2)else a) x (by simpa using h) (by rw[show n+1+i=n+(i+1) by omega];exact hd)
   (fun j z hj hne=>hs (j+1) z (by simpa using hj) (by omega))
  rw[show n+1+i=n+(i+1) by omega]at this;exact this
theorem WO (a:Act)(dst:Option Tmp)(v:Value):(a.put dst v).tmps.size=a.tmps.size:=by cases dst<;>simp[Act.put]
theorem XU (a:Act)(s:Tmp)(v:Value)(t:Tmp):(a.put (some s) v).eval (.tmp t)=if s=t/\t<a.tmps.size then v else a.eval (.tmp t):=by
 by_cases e:s=t
 ·subst e
  by_cases h:s<a.tmps.size<;>simp[Act.put,Act.eval,h]
 ·rw[if_neg (fun h=>e h.1)];exact Act.eval_put fun d hd hx=>e (by injection hd with hd;injection hx with hx;rw[hd,hx])
theorem Sz {p:Nat->Nat}{d d':Nat->Bool}{s:Tmp}: ∀(l:List (Oper×Sp)) (n:Nat) (a a':Act),(∀j x,l[j]?=some x->x.1.dst=some s->d (n+j)=d' (n+j))->a.tmps.size=a'.tmps.size->a.eval (.tmp s)=a'.eval (.tmp s)->
  (VC p d n l a).eval (.tmp s)=(VC p d' n l a').eval (.tmp s)
 |[],_,_,_,_,_,h=>h
 |x::l,n,a,a',hd,hz,h=>by
  unfold VC;refine Sz l (n+1) _ _ (fun j y hj hh=>?_) ?_ ?_
  ·have:=hd (j+1) y (by simpa using hj);rw[show n+(j+1)=n+1+j by omega]at this;exact this hh
  ·by_cases e:d n=true<;>by_cases e':d' n=true<;>simp only[e,e',if_true,if_false,WO,Bool.false_eq_true,hz]
  ·cases hx:x.1.dst with
   |none=>
    have e1:(if d n=true then a.put none (spV p x.2)else a)=a:=by split<;>rfl
    have e2:(if d' n=true then a'.put none (spV p x.2)else a')=a':=by split<;>rfl
    rw[e1,e2,h]
   |some r=>
    by_cases e:r=s
    ·subst e;have h0:=hd 0 x rfl hx;rw[Nat.add_zero]at h0;rw[h0]
     split
     ·rw[XU,XU,hz,h]
     ·exact h
    ·have e1:(if d n=true then a.put (some r) (spV p x.2)else a).eval (.tmp s)=a.eval (.tmp s):=by
      split
      ·rw[XU,if_neg (fun k=>e k.1)]
      ·rfl
     have e2:(if d' n=true then a'.put (some r) (spV p x.2)else a').eval (.tmp s)=a'.eval (.tmp s):=by
      split
      ·rw[XU,if_neg (fun k=>e k.1)]
      ·rfl
     rw[e1,e2,h]
def XA (l:List (Oper×Sp)):Nat->Nat->Nat->Bool
 |0,_,_=>false
 |f+1,i,j=>match l[i]? with
  |none=>false
  |some x=>x.1.after.any fun e=>Region.binds .any e&&(e.on==j||XA l f e.on j)
theorem Xd {l:List (Oper×Sp)}{d:Nat->Bool}(hc: ∀i x,l[i]?=some x->d i=true-> ∀e∈x.1.after,Region.binds .any e=true->d e.on=true): ∀(f i j:Nat) (x:Oper×Sp),l[i]?=some x->
  (∀e∈x.1.after,Region.binds .any e=true->d e.on=true)->XA l f i j=true->d j=true
 |0,_,_,_,_,_,h=>by simp[XA]at h
 |f+1,i,j,x,hx,hpre,h=>by
  unfold XA at h;rw[hx]at h;obtain⟨e,he,h1⟩:=Array.any_eq_true'.1 h;rw[Bool.and_eq_true,Bool.or_eq_true]at h1;have hd:=hpre e he h1.1;rcases h1.2 with h2|h2
  ·rw[<-(by simpa using h2:e.on=j)];exact hd
  ·cases hy:l[e.on]? with
   |none=>cases f<;>simp[XA,hy]at h2
   |some y=>exact Xd hc f e.on j y hy (hc e.on y hy hd) h2
def RO (l:List (Oper×Sp))(x:Oper×Sp)(i:Nat)(y:Oper×Sp)(j:Nat):Bool:=
 j==i||((match y.1.dst with
  |none=>true
  |some s=>x.1.dst !=some s&&(!(x.1.looksAt #[]).contains s||((decide (j<i)&&XA l l.length i j)||(decide (i<j)&&XA l l.length j i))))&&
 (Ng j y.2).all fun k=> !(Wy x.2).contains k||(if j<i then XA l l.length i j else XA l l.length j i))
def chk (l:List (Oper×Sp)):Bool:=
 l.zipIdx.all fun z=>(match z.1.1.op with| .select _ _=>false|_=>true)&&z.1.1.guard.isNone&&(z.1.1.after.all fun e=> !Region.binds .any e||decide (e.on<z.2))&&((Wy z.1.2).all fun k=>k%2==0||decide (k/2<z.2))&&
  l.zipIdx.all fun u=>RO l z.1 z.2 u.1 u.2
structure Kept (S:List Nat)(w w':World):Prop where
 os:w'.os=w.os
 tape:w'.tape=w.tape
 output:w'.output=w.output
 size:w.heap.size<=w'.heap.size
 block: ∀k,k<w.heap.size->k∉S->w'.heap[k]?=w.heap[k]?
theorem Kept.row {S:List Nat}{w w':World}(h:Kept S w w'){b:Nat}{c:Array Value}{t:TypeId}(r:Row w b c t)(hb:b∉S):Row w' b c t:=(h.block b r.lt hb).trans r
theorem Kept.on {S:List Nat}{w w' w2:World}(h:Kept S w w')(k:Below w'.heap.size w' w2):Kept S w w2:=
 ⟨k.os.trans h.os,k.tape.trans h.tape,k.output.trans h.output,Nat.le_trans h.size k.size,fun b hb hs=>(k.block b (Nat.lt_of_lt_of_le hb h.size)).trans (h.block b hb hs)⟩
theorem Kept.below {S:List Nat}{w w':World}(h:Kept S w w')(B:Nat)(hB:B<=w.heap.size)(hS: ∀g∈S,B<=g):Below B w w':=
 ⟨h.os,h.tape,h.output,h.size,fun k hk=>h.block k (by omega) fun hm=>by have:=hS k hm;omega⟩
abbrev Wz:=List (Nat×TypeId×Array Value)
def ZY (olds:Wz)(p:Nat->Nat)(k:Nat):Nat:=if k%2=1 then p (k/2)else((olds[k/2]?).map (·.1)).getD 0
def ct0 (olds:Wz):Ct:=fun k=>if k%2=1 then none else(olds[k/2]?).map (·.2)
theorem Kept.ro {S:List Nat}{w w':World}(h:Kept S w w'){b:Nat}{c:Array Value}{t:TypeId}(r:Row w b c t)(hb:b∉S:=by simp<;>omega):Row w' b c t:=h.row r hb
theorem kk {S:List Nat}{w w1 w2:World}(h:Below w.heap.size w w1)(k:Kept S w1 w2)(hS: ∀g∈S,w.heap.size<=g:=by simp<;>omega):Below w.heap.size w w2:=h.trans (k.below w.heap.size h.size hS)
theorem k_b {S:List Nat}{w w':World}(k:Kept S w w')(hS: ∀g∈S,w.heap.size<=g:=by simp):Below w.heap.size w w':=k.below w.heap.size (Nat.le_refl _) hS
theorem b_o {w w1 w2:World}(h:Below w.heap.size w w1)(k:Below w1.heap.size w1 w2):Below w.heap.size w w2:=Zk h (Nat.le_refl _) k
theorem l_l {a b c:Nat}(h:a<b)(k:b<=c):a<c:=Nat.lt_of_lt_of_le h k
def WX (w:World):Wz->Prop
 |[]=>True
 |x::l=>Row w x.1 x.2.2 x.2.1/\WX w l
structure Eff (olds:Wz)(p:Nat->Nat)(n:Nat)(ct:Ct)(s:Sp)(w:World)(v:Value)(w2:World):Prop where
 os:w2.os=w.os
 tape:w2.tape=w.tape
 output:w2.output=w.output
 size:w.heap.size<=w2.heap.size
 block: ∀b,b<w.heap.size->(∀x∈s.2.2.2,b≠ZY olds p x.1)->w2.heap[b]?=w.heap[b]?
 filled: ∀x∈s.2.2.2,∀y,ct x.1=some y->Row w2 (ZY olds p x.1) x.2 y.1
 made:(s.2.2.1=none/\v=s.1 p)∨ ∃m g,s.2.2.1=some m/\v=s.1 (upd p n g)/\w.heap.size<=g/\Row w2 g m.2 m.1
def YB (P:Program)(E:Value->World->Prop)(w:World):Result Next->Prop
 | .ok (.value u) w'=>E u w'
 | .ok .skip w'=>E undef w'
 | .ok (.enter f args) w'=>w'=w/\Calls P f args w fun e w''=> ∃v,e= .returned v/\E v w''
 |_=>False
theorem Ts {o:Oper}{a:Act}{w:World}{E:Value->World->Prop}{K:Act->World->Prop}{Q:Exit->Act->World->Prop}(h:YB P E w ((execOp a.eval o).run P w))(hK: ∀v w2,E v w2->K (a.put o.dst v) w2):o.wp P a w K Q:=by
 unfold Oper.wp;generalize (execOp a.eval o).run P w=r at*
 cases r with
 |ok n w'=>
  cases n<;>simp only[YB]at h<;>simp only[Oper.upon]
  case value u=>exact hK _ _ h
  case skip=>exact hK _ _ h
  case enter f args=>
   obtain⟨e1,hc⟩:=h;rw[e1]
   exact hc.mono fun e w'' ⟨v,he,hE⟩=>by subst he;exact hK _ _ hE
 |halt x w'=>simp only[YB]at h
def Ob (P:Program)(olds:Wz)(p:Nat->Nat)(W:World)(n:Nat)(ct:Ct)(o:Oper)(a:Act)(s:Sp):Prop:=
 Loc n s/\(∀x∈s.2.2.2,∃y,ct x.1=some y)/\ ∀w,Kept (olds.map (·.1)) W w->(∀k∈Wy s,∀y,ct k=some y->Row w (ZY olds p k) y.2 y.1)->YB P (Eff olds p n ct s w) w ((execOp a.eval o).run P w)
def Obs (P:Program)(olds:Wz)(p:Nat->Nat)(W:World)(F:Act->Ct->Prop):Nat->List Oper->List Sp->Act->Ct->Prop
 |_,[],[],a,ct=>F a ct
 |n,o::l,s::pl,a,ct=>Ob P olds p W n ct o a s/\Obs P olds p W F (n+1) l pl (a.put o.dst (spV p s)) (spC n s ct)
 |_,_,_,_,_=>False
theorem Nu {olds:Wz}{p:Nat->Nat}{W:World}{F:Act->Ct->Prop}: ∀(l:List Oper) (pl:List Sp) (n:Nat) (a:Act) (ct:Ct),Obs P olds p W F n l pl a ct->l.length=pl.length
 |[],[],_,_,_,_=>rfl
 |_::l,_::pl,_,_,_,h=>by simp[Nu l pl _ _ _ h.2]
 |[],_::_,_,_,_,h=>h.elim
 |_::_,[],_,_,_,h=>h.elim
theorem I5 {olds:Wz}{p:Nat->Nat}{W:World}{F:Act->Ct->Prop}: ∀(l:List Oper) (pl:List Sp) (n i:Nat) (a:Act) (ct:Ct) (x:Oper×Sp),Obs P olds p W F n l pl a ct->(l.zip pl)[i]?=some x->
  Ob P olds p W (n+i) (ctD (fun j=>decide (j<n+i)) n (l.zip pl) ct) x.1 (VC p (fun j=>decide (j<n+i)) n (l.zip pl) a) x.2
 |[],[],_,_,_,_,_,_,h=>by simp at h
 |o::l,s::pl,n,0,a,ct,x,h,hx=>by
  obtain rfl:(o,s)=x:=by simpa using hx
  rw[V8 _ _ _ (fun j hj=>by simp;omega),Vi _ _ _ (fun j hj=>by simp;omega)];exact h.1
 |o::l,s::pl,n,i+1,a,ct,x,h,hx=>by
  have:=I5 l pl (n+1) i _ _ x h.2 (by simpa using hx);rw[show n+1+i=n+(i+1) by omega]at this;rw[List.zip_cons_cons];unfold ctD VC;rw[if_pos (by simp),if_pos (by simp)];exact this
 |[],_::_,_,_,_,_,_,h,_=>h.elim
 |_::_,[],_,_,_,_,_,h,_=>h.elim
theorem Nv {olds:Wz}{p:Nat->Nat}{W:World}{F:Act->Ct->Prop}{d:Nat->Bool}: ∀(l:List Oper) (pl:List Sp) (n:Nat) (a:Act) (ct:Ct),Obs P olds p W F n l pl a ct->(∀j,n<=j->j<n+l.length->d j=true)->
  F (VC p d n (l.zip pl) a) (ctD d n (l.zip pl) ct)
 |[],[],_,_,_,h,_=>h
 |o::l,s::pl,n,a,ct,h,hd=>by
  rw[List.zip_cons_cons];unfold ctD VC;have h0:=hd n (Nat.le_refl _) (by simp);rw[if_pos h0,if_pos h0];exact Nv l pl (n+1) _ _ h.2 fun j h1 h2=>hd j (by omega) (by simp;omega)
 |[],_::_,_,_,_,h,_=>h.elim
 |_::_,[],_,_,_,h,_=>h.elim
theorem QZ: ∀(l:List (Oper×Sp)) (n i:Nat) (ct:Ct) (x:Oper×Sp),l[i]?=some x->ctD (fun j=>decide (j<n+i+1)) n l ct=spC (n+i) x.2 (ctD (fun j=>decide (j<n+i)) n l ct)
 |[],_,_,_,_,h=>by simp at h
 |y::l,n,0,ct,x,h=>by
  obtain rfl:y=x:=by simpa using h
  unfold ctD;rw[if_pos (by simp),if_neg (by simp),Vi _ _ _ (fun j hj=>by simp;omega),Vi _ _ _ (fun j hj=>by simp;omega)];rfl
 |y::l,n,i+1,ct,x,h=>by
  have:=QZ l (n+1) i (spC n y.2 ct) x (by simpa using h);rw[show n+1+i=n+(i+1) by omega]at this;unfold ctD;rw[if_pos (by simp;omega),if_pos (by simp)];exact this
theorem VE {w:World}: ∀(olds:Wz) (n:Nat) (x:Nat×TypeId×Array Value),WX w olds->olds[n]?=some x->Row w x.1 x.2.2 x.2.1
 |[],_,_,_,h=>by simp at h
 |y::l,0,x,h,hx=>by
  obtain rfl:y=x:=by simpa using hx
  exact h.1
 |y::l,n+1,x,h,hx=>VE l n x h.2 (by simpa using hx)
structure MX (P:Program)(olds:Wz)(p:Nat->Nat)(W:World)(F:Act->Ct->Prop)(n:Nat)(l:List Oper)(pl:List Sp)(a:Act)(ct:Ct):Prop where
 out:Obs P olds p W F n l pl a ct
def EO (olds:Wz)(p:Nat->Nat)(W:World)(Q:Exit->Act->World->Prop):Act->Ct->Prop:=fun a ct=>
 ∀w,Kept (olds.map (·.1)) W w->(∀k y,ct k=some y->Row w (ZY olds p k) y.2 y.1)->(∀i,(ct (2*i+1)).isSome=true->W.heap.size<=p i)->
  (∀i j,i≠j->(ct (2*i+1)).isSome=true->(ct (2*j+1)).isSome=true->p i≠p j)->Q .normal a w
theorem Q0 (olds:Wz)(p:Nat->Nat)(i:Nat):ZY olds p (2*i+1)=p i:=by
 unfold ZY;rw[if_pos (by omega),show(2*i+1)/2=i by omega]
structure St (olds:Wz)(p:Nat->Nat)(W w:World)(ct:Ct):Prop where
 kept:Kept (olds.map (·.1)) W w
 row: ∀k y,ct k=some y->Row w (ZY olds p k) y.2 y.1
 even: ∀k y,ct k=some y->k%2=0-> ∃q,olds[k/2]?=some q
 new: ∀i,(ct (2*i+1)).isSome=true->W.heap.size<=p i
 apart: ∀i j,i≠j->(ct (2*i+1)).isSome=true->(ct (2*j+1)).isSome=true->p i≠p j
theorem Oh {olds:Wz}{p p':Nat->Nat}{k:Nat}(h:k%2=1->p (k/2)=p' (k/2)):ZY olds p k=ZY olds p' k:=by
 unfold ZY;by_cases e:k%2=1
 ·rw[if_pos e,if_pos e,h e]
 ·rw[if_neg e,if_neg e]
theorem St.place {olds:Wz}{p:Nat->Nat}{W w:World}{ct:Ct}(h:St olds p W w ct)(hr:WX W olds){k:Nat}{y:TypeId×Array Value}(hk:ct k=some y):
  (k%2=1/\ZY olds p k=p (k/2)/\W.heap.size<=p (k/2))∨(k%2=0/\ ∃q,olds[k/2]?=some q/\ZY olds p k=q.1/\q.1<W.heap.size):=by
 have hc:k%2=0∨k%2=1:=by omega
 rcases hc with hc|hc
 ·obtain⟨q,hq⟩:=h.even k y hk hc;refine .inr ⟨hc,q,hq,?_,(VE olds _ q hr hq).lt⟩;unfold ZY;rw[if_neg (by omega),hq];rfl
 ·refine .inl ⟨hc,by unfold ZY;rw[if_pos hc],h.new (k/2) ?_⟩;rw[show 2*(k/2)+1=k by omega,hk];rfl
theorem St.far {olds:Wz}{p:Nat->Nat}{W w:World}{ct:Ct}(h:St olds p W w ct)(hr:WX W olds)(hn:(olds.map (·.1)).Nodup){k m:Nat}{y u:TypeId×Array Value}(hk:ct k=some y)(hm:ct m=some u)(hne:k≠m):
  ZY olds p k≠ZY olds p m:=by
 rcases h.place hr hk with ⟨h1,e1,l1⟩|⟨h1,q,hq,e1,l1⟩<;>rcases h.place hr hm with ⟨h2,e2,l2⟩|⟨h2,q',hq',e2,l2⟩
 ·rw[e1,e2];refine h.apart (k/2) (m/2) (by omega) ?_ ?_
  ·rw[show 2*(k/2)+1=k by omega,hk];rfl
  ·rw[show 2*(m/2)+1=m by omega,hm];rfl
 ·rw[e1,e2];omega
 ·rw[e1,e2];omega
 ·rw[e1,e2];intro e
  have hi1:(olds.map (·.1))[k/2]?=some q.1:=by rw[List.getElem?_map,hq];rfl
  have hi2:(olds.map (·.1))[m/2]?=some q.1:=by rw[List.getElem?_map,hq',e];rfl
  have:=(List.getElem?_inj (List.getElem?_eq_some_iff.1 hi1).1 hn).1 (hi1.trans hi2.symm);omega
theorem Q3 {olds:Wz}{p:Nat->Nat}{W w:World}(hr:WX W olds)(hk:Kept (olds.map (·.1)) W w)(hh:w.heap=W.heap):St olds p W w (ct0 olds):=by
 refine⟨hk,fun k y hy=>?_,fun k y hy he=>?_,fun i hi=>?_,fun i j _ hi=>?_⟩
 ·unfold ct0 at hy;unfold ZY
  split at hy
  ·cases hy
  ·rename_i hk'
   rw[if_neg hk']
   cases hq:olds[k/2]? with
   |none=>rw[hq]at hy;cases hy
   |some q=>
    rw[hq]at hy;obtain rfl:q.2=y:=by simpa using hy
    have r:=VE olds _ q hr hq;unfold Row at r ⊢;rw[hh];exact r
 ·unfold ct0 at hy;rw[if_neg (by omega)]at hy
  cases hq:olds[k/2]? with
  |none=>rw[hq]at hy;cases hy
  |some q=>exact⟨q,rfl⟩
 ·unfold ct0 at hi;rw[if_pos (by omega)]at hi;cases hi
 ·unfold ct0 at hi;rw[if_pos (by omega)]at hi;cases hi
theorem Wj {i k:Nat}{s:Sp}{ct:Ct}{y:TypeId×Array Value}(h:spC i s ct k=some y):(s.2.2.1=some y/\k=2*i+1)∨(∃u,ct k=some u):=by
 unfold spC at h
 cases hm:s.2.2.1 with
 |none=>
  rw[hm]at h
  cases hf:VB s.2.2.2 k with
  |none=>rw[hf]at h;exact .inr ⟨y,h⟩
  |some c=>
   rw[hf]at h
   cases hc:ct k with
   |none=>rw[hc]at h;cases h
   |some u=>exact .inr ⟨u,rfl⟩
 |some m=>
  by_cases e:k=2*i+1
  ·rw[hm,decide_eq_true e]at h;exact .inl ⟨h,e⟩
  ·rw[hm,decide_eq_false e]at h
   cases hf:VB s.2.2.2 k with
   |none=>rw[hf]at h;exact .inr ⟨y,h⟩
   |some c=>
    rw[hf]at h
    cases hc:ct k with
    |none=>rw[hc]at h;cases h
    |some u=>exact .inr ⟨u,rfl⟩
theorem Nw {olds:Wz}{p:Nat->Nat}{W w w2:World}{ct ctO:Ct}{i:Nat}{s:Sp}{v:Value}(hs:St olds p W w ct)(hr:WX W olds)(hn:(olds.map (·.1)).Nodup)(h2:ct (2*i+1)=none)(hag: ∀k∈Wy s,ct k=ctO k)
  (hfil: ∀x∈s.2.2.2,∃y,ctO x.1=some y)(E:Eff olds p i ctO s w v w2): ∃p',(∀j,j≠i->p' j=p j)/\(s.2.2.1=none->p'=p)/\v=spV p' s/\St olds p' W w2 (spC i s ct):=by
 obtain⟨g,p',hp',hpn,hv,hm⟩: ∃(g:Nat) (p':Nat->Nat),(∀j,j≠i->p' j=p j)/\(s.2.2.1=none->p'=p)/\v=s.1 p'/\ ∀m,s.2.2.1=some m->p' i=g/\w.heap.size<=g/\Row w2 g m.2 m.1:=by
  rcases E.made with ⟨h1,h3⟩|⟨m,g,h1,h3,h4,h5⟩
  ·exact⟨0,p,fun _ _=>rfl,fun _=>rfl,h3,fun m hm=>by rw[h1]at hm;cases hm⟩
  ·exact⟨g,upd p i g,fun j hj=>Sy p g hj,fun hn'=>(by rw[h1]at hn';cases hn'),h3,fun m' hm=>by rw[h1]at hm;cases hm;exact⟨YY p i g,h4,h5⟩⟩
 have hfk: ∀x∈s.2.2.2,x.1∈Wy s:=fun x hx=>List.mem_append_right _ (List.mem_map.2 ⟨x,hx,rfl⟩)
 have hfc: ∀x∈s.2.2.2,∃y,ct x.1=some y/\ctO x.1=some y:=fun x hx=>by
  obtain⟨y,hy⟩:=hfil x hx;exact⟨y,(hag _ (hfk x hx)).trans hy,hy⟩
 have hadd: ∀k y,ct k=some y->ZY olds p' k=ZY olds p k:=fun k y hy=>Oh fun ho=>
  hp' _ fun e=>by rw[show k=2*i+1 by omega,h2]at hy;cases hy
 refine⟨p',hp',hpn,hv,⟨⟨E.os.trans hs.kept.os,E.tape.trans hs.kept.tape,E.output.trans hs.kept.output,Nat.le_trans hs.kept.size E.size,fun b hb hS=>?_⟩,fun k y hy=>?_,fun k y hy he=>?_,fun j hj=>?_,fun j j' hne hj hj'=>?_⟩⟩
 ·refine(E.block b (Nat.lt_of_lt_of_le hb hs.kept.size) fun x hx e=>?_).trans (hs.kept.block b hb hS);obtain⟨y,hy,_⟩:=hfc x hx;rcases hs.place hr hy with ⟨_,e1,l1⟩|⟨_,q,hq,e1,_⟩
  ·omega
  ·exact hS (by rw[e,e1];exact List.mem_map.2 ⟨q,List.mem_of_getElem? hq,rfl⟩)
 ·rcases Wj hy with ⟨h1,e⟩|⟨u,hu⟩
  ·subst e;rw[Q0,(hm y h1).1];exact(hm y h1).2.2
  ·rw[hadd k u hu]
   have hk:k≠2*i+1:=fun e=>by rw[e,h2]at hu;cases hu
   by_cases hf:k∈s.2.2.2.map (·.1)
   ·obtain⟨c,hc,e⟩:=QV hf (.inr hk) ct;rw[e,hu]at hy;obtain rfl:(u.1,c)=y:=Option.some.inj hy;obtain⟨u',hu',hO⟩:=hfc _ hc;obtain rfl:u'=u:=Option.some.inj (hu'.symm.trans hu);exact E.filled (k,c) hc u' hO
   ·rw[XM ct (fun hh=>by
     rcases List.mem_append.1 hh with h3|h3
     ·cases hmm:s.2.2.1 with
      |none=>rw[hmm]at h3;cases h3
      |some m=>rw[hmm]at h3;exact hk (List.mem_singleton.1 h3)
     ·exact hf h3)]at hy
    have r:=hs.row k y hy;refine(E.block _ r.lt fun x hx=>?_).trans r;obtain⟨y',hy',_⟩:=hfc x hx;exact hs.far hr hn hy hy' fun e=>hf (List.mem_map.2 ⟨x,hx,e.symm⟩)
 ·rcases Wj hy with ⟨_,e⟩|⟨u,hu⟩
  ·omega
  ·exact hs.even k u hu he
 ·obtain⟨y,hy⟩:=Option.isSome_iff_exists.1 hj;rcases Wj hy with ⟨h1,e⟩|⟨u,hu⟩
  ·rw[show j=i by omega,(hm y h1).1];exact Nat.le_trans hs.kept.size (hm y h1).2.1
  ·rw[hp' j fun e=>by rw[e,h2]at hu;cases hu];exact hs.new j (by rw[hu];rfl)
 ·have hlt: ∀m,m≠i->(spC i s ct (2*m+1)).isSome=true->(ct (2*m+1)).isSome=true/\p m<w.heap.size:=fun m hmi hsm=>by
   obtain⟨y,hy⟩:=Option.isSome_iff_exists.1 hsm;rcases Wj hy with ⟨_,e⟩|⟨u,hu⟩
   ·omega
   ·have:=(hs.row _ u hu).lt;rw[Q0]at this;exact⟨by rw[hu];rfl,this⟩
  have hg: ∀m,m=i->(spC i s ct (2*m+1)).isSome=true->w.heap.size<=p' m:=fun m hmi hsm=>by
   subst hmi;obtain⟨y,hy⟩:=Option.isSome_iff_exists.1 hsm;rcases Wj hy with ⟨h1,_⟩|⟨u,hu⟩
   ·rw[(hm y h1).1];exact(hm y h1).2.1
   ·rw[h2]at hu;cases hu
  by_cases e:j=i
  ·rw[hp' j' (by omega)];have:=hg j e hj;have:=(hlt j' (by omega) hj').2;omega
  ·rw[hp' j e];by_cases e':j'=i
   ·have:=hg j' e' hj';have:=(hlt j e hj).2;omega
   ·rw[hp' j' e'];exact hs.apart j j' hne (hlt j e hj).1 (hlt j' e' hj').1
theorem U2 {d:Nat->Bool}{i:Nat}(hd:d i=false): ∀(l:List (Oper×Sp)) (n:Nat) (ct:Ct),ct (2*i+1)=none->ctD d n l ct (2*i+1)=none
 |[],_,_,h=>h
 |x::l,n,ct,h=>by
  unfold ctD;refine U2 hd l (n+1) _ ?_;by_cases e:d n=true
  ·rw[if_pos e]
   cases hc:spC n x.2 ct (2*i+1)with
   |none=>rfl
   |some y=>
    rcases Wj hc with ⟨_,e'⟩|⟨u,hu⟩
    ·rw[show n=i by omega,hd]at e;cases e
    ·rw[h]at hu;cases hu
  ·rw[if_neg e];exact h
theorem Zo {id:Nat}{l:List Oper}{a:Act}{W:World}{Q:Exit->Act->World->Prop}(hm:P.follows .mixedOrders=true)(olds:Wz)(plan:List Sp)(hr:WX W olds)(hn:(olds.map (·.1)).Nodup)
  (h: ∀p,MX P olds p W (EO olds p W Q) 0 l plan a (ct0 olds))(hchk:chk (l.zip plan)=true):(Code.region id l.toArray true).wp P Q a W:=by
 have hlen:l.length=plan.length:=Nu l plan _ _ _ (h fun _=>0).out
 have hobs: ∀p i x,(l.zip plan)[i]?=some x->Ob P olds p W i (ctD (fun j=>decide (j<i)) 0 (l.zip plan) (ct0 olds)) x.1 (VC p (fun j=>decide (j<i)) 0 (l.zip plan) a) x.2:=fun p i x hx=>by
  have:=I5 l plan 0 i a (ct0 olds) x (h p).out hx;rw[Nat.zero_add]at this;exact this
 have hend: ∀p (d:Nat->Bool),(∀j,j<l.length->d j=true)->EO olds p W Q (VC p d 0 (l.zip plan) a) (ctD d 0 (l.zip plan) (ct0 olds)):=fun p d hd=>
  Nv l plan 0 a (ct0 olds) (h p).out fun j _ hj=>hd j (by omega)
 have hzip: ∀i o,l[i]?=some o-> ∃s,(l.zip plan)[i]?=some (o,s):=fun i o ho=>by
  have hi:i<l.length:=(List.getElem?_eq_some_iff.1 ho).1;refine⟨plan[i]'(by omega),?_⟩;rw[List.getElem?_zip_eq_some];exact⟨ho,by simp⟩
 generalize l.zip plan=z at*;clear h
 have hC: ∀i x,z[i]?=some x->(∀cs b,x.1.op≠ .select cs b)/\x.1.guard.isNone=true/\(∀e∈x.1.after,Region.binds .any e=true->e.on<i)/\(∀k∈Wy x.2,k%2=0∨k/2<i)/\ ∀j y,z[j]?=some y->RO z x i y j=true:=by
  intro i x hx
  have h1:(x,i)∈z.zipIdx:=by rw[List.mem_zipIdx_iff_getElem?];exact hx
  have h2:=List.all_eq_true.1 hchk _ h1;simp only[Bool.and_eq_true]at h2;obtain⟨⟨⟨⟨a1,a2⟩,a3⟩,a4⟩,a5⟩:=h2;refine⟨fun cs b e=>(by rw[e]at a1;cases a1),a2,fun e he hb=>?_,fun k hk=>?_,fun j y hy=>?_⟩
  ·have:=Array.all_eq_true_iff_forall_mem.1 a3 e he;rw[hb]at this
   simpa using this
  ·have:=List.all_eq_true.1 a4 k hk
   simpa using this
  ·have h3:(y,j)∈z.zipIdx:=by rw[List.mem_zipIdx_iff_getElem?];exact hy
   exact List.all_eq_true.1 a5 _ h3
 have hP: ∀i x,z[i]?=some x-> ∀j y,z[j]?=some y->j≠i->
   (∀s,y.1.dst=some s->x.1.dst≠some s/\(s∈x.1.looksAt #[]->(j<i/\XA z z.length i j=true)∨(i<j/\XA z z.length j i=true)))/\
   (∀k,k∈Ng j y.2->k∈Wy x.2->(j<i->XA z z.length i j=true)/\(i<j->XA z z.length j i=true)):=by
  intro i x hx j y hy hne;have h1:=(hC i x hx).2.2.2.2 j y hy;unfold RO at h1;rw[show(j==i)=false by simpa using hne,Bool.false_or,Bool.and_eq_true]at h1;refine⟨fun s hs=>?_,fun k hk hmem=>?_⟩
  ·have h2:=h1.1;rw[hs]at h2;simp only[Bool.and_eq_true,Bool.or_eq_true,bne_iff_ne,ne_eq,Bool.not_eq_true',decide_eq_true_eq]at h2;refine⟨h2.1,fun hl=>?_⟩;rcases h2.2 with h3|h3
   ·rw[List.contains_iff_mem.2 hl]at h3;cases h3
   ·exact h3
  ·have h2:=List.all_eq_true.1 h1.2 k hk;simp only[Bool.or_eq_true,Bool.not_eq_true']at h2;rcases h2 with h3|h3
   ·rw[List.contains_iff_mem.2 hmem]at h3;cases h3
   ·refine⟨fun hj=>?_,fun hj=>?_⟩
    ·rw[if_pos hj]at h3;exact h3
    ·rw[if_neg (by omega)]at h3;exact h3
 refine UU hm (fun d a' w'=> ∃p,a'=VC p d 0 z a/\St olds p W w' (ctD d 0 z (ct0 olds))/\
  (∀i x,z[i]?=some x->d i=true-> ∀e∈x.1.after,Region.binds .any e=true->d e.on=true)) ?lex ?start ?step ?fin
 case lex=>
  rw[List.all_eq_true];intro x hx;obtain⟨s,hs⟩:=hzip x.2 x.1 (List.mem_zipIdx_iff_getElem?.1 hx);obtain⟨_,h2,h3,_⟩:=hC _ _ hs;rw[Bool.and_eq_true];refine⟨h2,?_⟩;rw[Array.all_eq_true_iff_forall_mem];intro e he;cases hb:Region.binds .any e
  ·rfl
  ·simpa using h3 e he hb
 case start=>
  refine⟨fun _=>0,(V8 _ _ _ fun _ _=>rfl).symm,?_,fun i x _ hd=>by cases hd⟩;rw[Vi _ _ _ (fun _ _=>rfl)];exact Q3 hr ⟨rfl,rfl,rfl,Nat.le_refl _,fun _ _ _=>rfl⟩ rfl
 case fin=>
  rintro d a' w' ⟨p,rfl,hs,_⟩ hd;exact hend p d hd w' hs.kept hs.row hs.new hs.apart
 case step=>
  rintro i o ho d a' w' ⟨p,rfl,hst,hcl⟩ hd hpre;obtain⟨s,hx⟩:=hzip i o ho;obtain⟨hsel,_,_,hkeys,_⟩:=hC i _ hx;have hwait: ∀j,XA z z.length i j=true->d j=true:=fun j hj=>Xd hcl _ i j _ hx hpre hj
  have hlater: ∀j y,z[j]?=some y->XA z z.length j i=true->d j=false:=fun j y hy hj=>by
   cases hdj:d j
   ·rfl
   ·rw[Xd hcl _ j i y hy (hcl j y hy hdj) hj]at hd;cases hd
  have E:execOp (VC p d 0 z a).eval o=execOp (VC p (fun j=>decide (j<i)) 0 z a).eval o:=by
   refine execOp_congr o hsel fun y hy=>?_
   cases y with
   |tmp t=>
    refine Sz z 0 a a (fun j x' hj hdst=>?_) rfl rfl;rw[Nat.zero_add];by_cases hji:j=i
    ·subst hji;rw[hd];simp
    ·have hl:t∈o.looksAt #[]:=List.mem_append_left _ (List.mem_filterMap.2 ⟨.tmp t,by simpa using hy,rfl⟩);rcases((hP i _ hx j x' hj hji).1 t hdst).2 hl with ⟨h1,h2⟩|⟨h1,h2⟩
     ·rw[hwait j h2];simp[h1]
     ·rw[hlater j x' hj h2];simp;omega
   |_=>rfl
  have CT: ∀k∈Wy s,ctD d 0 z (ct0 olds) k=ctD (fun j=>decide (j<i)) 0 z (ct0 olds) k:=fun k hk'=>by
   refine Vh z 0 _ _ (fun j y hj hh=>?_) rfl;rw[Nat.zero_add]at hh ⊢;by_cases hji:j=i
   ·subst hji;rw[hd];simp
   ·obtain⟨h1,h2⟩:=(hP i _ hx j y hj hji).2 k hh hk';rcases Nat.lt_or_ge j i with hlt|hge
    ·rw[hwait j (h1 hlt)];simp[hlt]
    ·rw[hlater j y hj (h2 (by omega))];simp;omega
  have h2i:ctD d 0 z (ct0 olds) (2*i+1)=none:=U2 hd z 0 _ (by unfold ct0;rw[if_pos (by omega)])
  have CC:ctD (fun j=>j==i||d j) 0 z (ct0 olds)=spC i s (ctD d 0 z (ct0 olds)):=by
   funext k
   by_cases hk:k∈Ng i s
   ·have hu:=QZ z 0 i (ct0 olds) _ hx;rw[Nat.zero_add]at hu
    have h1:ctD (fun j=>j==i||d j) 0 z (ct0 olds) k=spC i s (ctD (fun j=>decide (j<i)) 0 z (ct0 olds)) k:=by
     rw[<-hu];refine Vh z 0 _ _ (fun j y hj hh=>?_) rfl;rw[Nat.zero_add]at hh ⊢;by_cases hji:j=i
     ·subst hji;simp
     ·rw[show(j==i)=false by simpa using hji,Bool.false_or]
      have hmain:(j<i->XA z z.length i j=true)/\(i<j->XA z z.length j i=true):=by
       rcases List.mem_append.1 hk with h3|h3
       ·have hk2:k=2*i+1:=by
         cases hmm:s.2.2.1 with
         |none=>rw[hmm]at h3;cases h3
         |some m=>rw[hmm]at h3;exact List.mem_singleton.1 h3
        rcases List.mem_append.1 hh with h4|h4
        ·exfalso
         cases hmm:y.2.2.2.1 with
         |none=>rw[hmm]at h4;cases h4
         |some m=>
          rw[hmm]at h4;have:=List.mem_singleton.1 h4;omega
        ·have hkk:k∈Wy y.2:=List.mem_append_right _ h4;have h5:=(hP j y hj i _ hx (fun e=>hji e.symm)).2 k hk hkk;have h6:=(hC j y hj).2.2.2.1 _ hkk;exact⟨fun hlt=>by omega,fun hlt=>h5.1 hlt⟩
       ·exact(hP i _ hx j y hj hji).2 k hh (List.mem_append_right _ h3)
      rcases Nat.lt_or_ge j i with hlt|hge
      ·rw[hwait j (hmain.1 hlt)];simp;omega
      ·rw[hlater j y hj (hmain.2 (by omega))];simp;omega
    rw[h1];rcases List.mem_append.1 hk with h3|h3
    ·cases hmm:s.2.2.1 with
     |none=>rw[hmm]at h3;cases h3
     |some m=>
      rw[hmm]at h3;rw[List.mem_singleton.1 h3,Tr hmm,Tr hmm]
    ·exact QU s (CT k (List.mem_append_right _ h3)).symm
   ·rw[XM _ hk];refine Vh z 0 _ _ (fun j y hj hh=>?_) rfl;rw[Nat.zero_add]at hh ⊢;by_cases hji:j=i
    ·subst hji;rw[hx]at hj;obtain rfl:(o,s)=y:=by simpa using hj
     exact absurd hh hk
    ·rw[show(j==i)=false by simpa using hji];rfl
  have hcl': ∀i' x',z[i']?=some x'->(i'==i||d i')=true-> ∀e∈x'.1.after,Region.binds .any e=true->(e.on==i||d e.on)=true:=fun i' x' hx' hd' e he hb=>by
   by_cases hii:i'=i
   ·subst hii;rw[hx]at hx';obtain rfl:(o,s)=x':=by simpa using hx'
    rw[hpre e he hb,Bool.or_true]
   ·rw[show(i'==i)=false by simpa using hii,Bool.false_or]at hd';rw[hcl i' x' hx' hd' e he hb,Bool.or_true]
  have hadd: ∀p':Nat->Nat,(∀j,j≠i->p' j=p j)->(s.2.2.1=none->p'=p)->(VC p d 0 z a).put o.dst (spV p' s)=VC p' (fun j=>j==i||d j) 0 z a:=fun p' hp' hpn=>by
   have:=QY (p:=p') (d:=d) z 0 i a _ hx (by rw[Nat.zero_add];exact hd) (fun j y hj hji t ht=>by
    intro e
    exact((hP i _ hx j y hj hji).1 t e).1 ht)
   rw[Nat.zero_add]at this;rw[this,VD (p':=p') (d':=d) z 0 a (fun _ _=>rfl) (fun j y hj hdj=>?_)];rw[Nat.zero_add]at hdj
   cases hmm:s.2.2.1 with
   |none=>rw[hpn hmm]
   |some m=>
    have hji:j≠i:=fun e=>by rw[e,hd]at hdj;cases hdj
    refine(hobs p j _ hj).1.same (hp' j hji).symm fun m' hm' hr'=>(hp' m' fun e=>?_).symm
    subst e;have hk:2*m'+1∈Ng m' s:=List.mem_append_left _ (by rw[hmm];exact List.mem_singleton.2 rfl);have h5:=((hP j y hj m' _ hx (fun e=>hji e.symm)).2 _ hk (List.mem_append_left _ hr')).1 hm';rw[Xd hcl _ j m' y hj (hcl j y hj hdj) h5]at hd;cases hd
  obtain⟨_,hfil,hob⟩:=hobs p i _ hx;have hq:=hob w' hst.kept fun k hkk y hy=>hst.row k y (by rw[CT k hkk];exact hy)
  rw[<-E]at hq;refine⟨Ts hq fun v w2 hE=>?_⟩;obtain⟨p',hp',hpn,hv,hs'⟩:=Nw hst hr hn h2i (fun k hk=>CT k hk) hfil hE;refine⟨p',?_,by rw[CC];exact hs',hcl'⟩;rw[hv];exact hadd p' hp' hpn
theorem SA {ops:Array Oper}{W:World}{Q:Exit->Act->World->Prop}{olds:Wz}(hr:WX W olds)(hn:(olds.map (·.1)).Nodup): ∀(l:List Oper) (pl:List Sp) (n:Nat) (a:Act) (ct:Ct) (w:World) (p:Nat->Nat),
  (∀p',(∀j,j<n->p' j=p j)->Obs P olds p' W (EO olds p' W Q) n l pl a ct)->St olds p W w ct->(∀i,(ct (2*i+1)).isSome=true->i<n)->(l.all fun o=>o.guard.isNone)=true->wpList P ops Q l a w
 |[],[],n,a,ct,w,p,h,hs,_,_=>(h p fun _ _=>rfl) w hs.kept hs.row hs.new hs.apart
 |o::l,s::pl,n,a,ct,w,p,h,hs,hi,hg=>by
  rw[List.all_cons,Bool.and_eq_true]at hg;have hgd:o.guard=none:=by simpa using hg.1
  refine wpList_plain hgd fun K hK=>?_
  obtain⟨hloc,hfil,hob⟩:=(h p fun _ _=>rfl).1
  have h2:ct (2*n+1)=none:=by
   cases hc:ct (2*n+1)with
   |none=>rfl
   |some y=>have:=hi n (by rw[hc];rfl);omega
  refine Ts (hob w hs.kept fun k _ y hy=>hs.row k y hy) fun v w2 hE=>hK _ _ ?_
  obtain⟨p',hp',_,hv,hs'⟩:=Nw hs hr hn h2 (fun _ _=>rfl) hfil hE;rw[hv];refine SA hr hn l pl (n+1) _ _ w2 p' (fun q hq=>?_) hs' (fun i hsm=>?_) hg.2
  ·have h3:=(h q fun j hj=>(hq j (by omega)).trans (hp' j (by omega))).2;have h4:spV q s=spV p' s:=hloc.same (hq n (by omega)) fun j hj _=>hq j (by omega)
   rw[h4]at h3;exact h3
  ·obtain⟨y,hy⟩:=Option.isSome_iff_exists.1 hsm;rcases Wj hy with ⟨_,e⟩|⟨u,hu⟩
   ·omega
   ·have:=hi i (by rw[hu];rfl);omega
 |[],_::_,_,_,_,_,p,h,_,_,_=>(h p fun _ _=>rfl).elim
 |_::_,[],_,_,_,_,p,h,_,_,_=>(h p fun _ _=>rfl).elim
theorem Zd {id:Nat}{l:List Oper}{a:Act}{W:World}{Q:Exit->Act->World->Prop}(olds:Wz)(plan:List Sp)(hr:WX W olds)(hn:(olds.map (·.1)).Nodup)
  (h: ∀p,MX P olds p W (EO olds p W Q) 0 l plan a (ct0 olds))(hg:(l.all fun o=>o.guard.isNone)=true):(Code.region id l.toArray false).wp P Q a W:=by
 refine wp_region_lit (SA hr hn l plan 0 a (ct0 olds) W (fun _=>0) (fun p' _=>(h p').out) (Q3 hr ⟨rfl,rfl,rfl,Nat.le_refl _,fun _ _ _=>rfl⟩ rfl) (fun i hi=>?_) hg);unfold ct0 at hi;rw[if_pos (by omega)]at hi;cases hi
end
section
variable {P:Program}{olds:Wz}{p:Nat->Nat}{W:World}{F:Act->Ct->Prop}{n:Nat}{l:List Oper}{pl:List Sp}{a:Act}{ct:Ct}{o:Oper}
theorem YC (w:World)(g i:Nat)(ty:TypeId)(v:Value)(ha: ∀w,(isAgg ty).run P w= .ok false w)(hc:w.cell? ⟨g,i,none⟩=some v):(loadVar ty ⟨g,i,none⟩).run P w= .ok v w:=by
 unfold loadVar;simp[Sem.run_bind,ha,hc,go_sem]
theorem UV (w:World)(g i:Nat)(ty:TypeId)(k:IntKind)(m:Int)(old:Value)(hz: ∀w,(sizeOf ty).run P w= .ok 1 w)(hc:w.cell? ⟨g,i,none⟩=some old)(hf:w.frozen? ⟨g,i,none⟩=false):
  (storeVar ty ⟨g,i,none⟩ (.int k m)).run P w= .ok () (w.setCell ⟨g,i,none⟩ (.int k m)):=by
 unfold storeVar;simp[Sem.run_bind,hz,hc,hf,go_sem,Value.cells,storeCells]
theorem Zi (h:F a ct):MX P olds p W F n [] [] a ct:=⟨h⟩
theorem RP (n:Nat)(f:(Nat->Nat)->Value)(r:List Nat)(ct:Ct):spC n (f,r,none,[]) ct=ct:=by
 funext k
 rfl
theorem Gd (n:Nat)(f:(Nat->Nat)->Value)(r:List Nat)(m:TypeId×Array Value)(ct:Ct):spC n (f,r,some m,[]) ct=XC ct (2*n+1) m:=by
 funext k
 unfold XC;by_cases e:k=2*n+1
 ·subst e;rw[if_pos rfl];exact Tr (s:=(f,r,some m,[])) rfl ct
 ·rw[if_neg e];exact XM (s:=(f,r,some m,[])) ct (by simp[Ng,e])
theorem Nx (n:Nat)(f:(Nat->Nat)->Value)(r:List Nat)(k:Nat)(c:Array Value)(ct:Ct){t:TypeId}{old:Array Value}(hct:ct k=some (t,old)):spC n (f,r,none,[(k,c)]) ct=XC ct k (t,c):=by
 funext j
 unfold XC;by_cases e:j=k
 ·subst e;rw[if_pos rfl];obtain⟨c',hc',h⟩:=QV (s:=(f,r,none,[(j,c)])) (i:=n) (k:=j) (by simp) (.inl rfl) ct;rw[h,hct];have:c'=c:=by simpa using hc'
  rw[this];rfl
 ·rw[if_neg e];exact XM (s:=(f,r,none,[(k,c)])) ct (by simp[Ng,e])
theorem V9 {s:Sp}(hs:s.2.2.1=none)(hf:s.2.2.2=[]){w w2:World}(hb:Below w.heap.size w w2)(v:Value)(hv:v=s.1 p):Eff olds p n ct s w v w2:=
 ⟨hb.os,hb.tape,hb.output,hb.size,fun b hlt _=>hb.block b hlt,fun x hx=>(by rw[hf]at hx;cases hx),.inl ⟨hs,hv⟩⟩
theorem XD (v:Value)(ks:List Nat)(hr: ∀w,Kept (olds.map (·.1)) W w->(∀k∈ks,∀y,ct k=some y->Row w (ZY olds p k) y.2 y.1)->(execOp a.eval o).run P w= .ok (.value v) w)
  (h:MX P olds p W F (n+1) l pl (a.put o.dst v) ct):MX P olds p W F n (o::l) ((fun _=>v,ks,none,[])::pl) a ct:=by
 refine⟨⟨⟨.inl ⟨v,rfl⟩,fun x hx=>(by cases hx),fun w hk hrw=>?_⟩,?_⟩⟩
 ·rw[hr w hk fun k hkk=>hrw k (List.mem_append_left _ hkk)];exact V9 rfl rfl (Below.refl _ _) v rfl
 ·rw[RP];exact h.out
theorem Tt (f:FuncId)(vs:Array Value)(v:Value)(ks:List Nat)(hr: ∀w,(execOp a.eval o).run P w= .ok (.enter f vs) w)
  (hc: ∀w,Kept (olds.map (·.1)) W w->(∀k∈ks,∀y,ct k=some y->Row w (ZY olds p k) y.2 y.1)->Calls P f vs w (Rt v w))
  (h:MX P olds p W F (n+1) l pl (a.put o.dst v) ct):MX P olds p W F n (o::l) ((fun _=>v,ks,none,[])::pl) a ct:=by
 refine⟨⟨⟨.inl ⟨v,rfl⟩,fun x hx=>(by cases hx),fun w hk hrw=>?_⟩,?_⟩⟩
 ·rw[hr w];exact⟨rfl,(hc w hk fun k hkk=>hrw k (List.mem_append_left _ hkk)).mono fun e w' ⟨he,hb⟩=>⟨v,he,V9 rfl rfl hb v rfl⟩⟩
 ·rw[RP];exact h.out
theorem Ua (f:Nat->Value)(t:TypeId)(c:Array Value)(hr: ∀w,(execOp a.eval o).run P w= .ok (.value (f w.heap.size)) (w.alloc (.cells c t)))
  (h:MX P olds p W F (n+1) l pl (a.put o.dst (f (p n))) (XC ct (2*n+1) (t,c))):MX P olds p W F n (o::l) ((fun q=>f (q n),[],some (t,c),[])::pl) a ct:=by
 refine⟨⟨⟨.inr (.inl ⟨f,rfl⟩),fun x hx=>(by cases hx),fun w hk hrw=>?_⟩,?_⟩⟩
 ·rw[hr w];have hb:=Z5 (w:=w) (.cells c t);exact⟨hb.os,hb.tape,hb.output,hb.size,fun b hlt _=>hb.block b hlt,fun x hx=>(by cases hx),.inr ⟨_,w.heap.size,rfl,by show f _=f (upd p n _ n);rw[YY],Nat.le_refl _,Row.new _ _ _⟩⟩
 ·rw[Gd];exact h.out
structure Only (g:Nat)(w w':World):Prop where
 os:w'.os=w.os
 tape:w'.tape=w.tape
 output:w'.output=w.output
 size:w'.heap.size=w.heap.size
 block: ∀k,k≠g->w'.heap[k]?=w.heap[k]?
theorem RQ (k:Nat)(c:Array Value){t:TypeId}{old:Array Value}(hct:ct k=some (t,old))(hst: ∀w,Row w (ZY olds p k) old t-> ∃w2,(execOp a.eval o).run P w= .ok .skip w2/\Row w2 (ZY olds p k) c t/\Only (ZY olds p k) w w2)
  (h:MX P olds p W F (n+1) l pl (a.put o.dst undef) (XC ct k (t,c))):MX P olds p W F n (o::l) ((fun _=>undef,[],none,[(k,c)])::pl) a ct:=by
 refine⟨⟨⟨.inl ⟨undef,rfl⟩,fun x hx=>?_,fun w hk hrw=>?_⟩,?_⟩⟩
 ·obtain rfl:x=(k,c):=List.mem_singleton.1 hx;exact⟨_,hct⟩
 ·obtain⟨w2,hr,r2,ho⟩:=hst w (hrw k (List.mem_append_right _ (List.mem_singleton.2 rfl)) _ hct);rw[hr];refine⟨ho.os,ho.tape,ho.output,by rw[ho.size];exact Nat.le_refl _,fun b _ hne=>ho.block b (hne (k,c) (List.mem_singleton.2 rfl)),fun x hx y hy=>?_,.inl ⟨rfl,rfl⟩⟩;obtain rfl:x=(k,c):=List.mem_singleton.1 hx;obtain rfl:(t,old)=y:=Option.some.inj (hct.symm.trans hy);exact r2
 ·rw[Nx n _ _ k c ct hct];exact h.out
theorem Zg (v:Value)(hr: ∀w,(execOp a.eval o).run P w= .ok (.value v) w)(h:MX P olds p W F (n+1) l pl (a.put o.dst v) ct):MX P olds p W F n (o::l) ((fun _=>v,[],none,[])::pl) a ct:=
 XD v [] (fun w _ _=>hr w) h
theorem WA {t:Tmp}{v:Value}(h:a.tmps.toList[t]?=some v):a.eval (.tmp t)=v:=by
 have h':a.tmps[t]?=some v:=by rw[<-Array.getElem?_toList];exact h
 simp[Act.eval,h']
theorem Ge {t:Tmp}{v:Value}(ho:o.op= .move (.tmp t))(hx:a.tmps.toList[t]?=some v)(h:MX P olds p W F (n+1) l pl (a.put o.dst v) ct):MX P olds p W F n (o::l) ((fun _=>v,[],none,[])::pl) a ct:=
 Zg v (fun w=>by unfold execOp;rw[ho];simp only[WA hx];rfl) h
theorem EP {t:Tmp}{v:Value}(ho:o.op= .assign (.tmp t))(hx:a.tmps.toList[t]?=some v)(h:MX P olds p W F (n+1) l pl (a.put o.dst v) ct):MX P olds p W F n (o::l) ((fun _=>v,[],none,[])::pl) a ct:=
 Zg v (fun w=>by unfold execOp;rw[ho];simp only[WA hx];rfl) h
theorem Tu (j:Nat)(vf:Nat->Value){t:Tmp}(ho:o.op= .assign (.tmp t)∨o.op= .move (.tmp t))(hj:j<n)(hx:a.tmps.toList[t]?=some (vf (p j)))(h:MX P olds p W F (n+1) l pl (a.put o.dst (vf (p j))) ct):
  MX P olds p W F n (o::l) ((fun q=>vf (q j),[2*j+1],none,[])::pl) a ct:=by
 refine⟨⟨⟨.inr (.inr ⟨j,vf,hj,List.mem_singleton.2 rfl,rfl⟩),fun x hx=>(by cases hx),fun w hk hrw=>?_⟩,?_⟩⟩
 ·have hr:(execOp a.eval o).run P w= .ok (.value (vf (p j))) w:=by
   unfold execOp
   rcases ho with ho|ho<;>rw[ho]<;>simp only[WA hx]<;>rfl
  rw[hr];exact V9 rfl rfl (Below.refl _ _) _ rfl
 ·rw[RP];exact h.out
theorem EQ {t:Tmp}{i:Nat}{vs:Array Value}{v:Value}(ho:o.op= .extract (.tmp t) i)(hx:a.tmps.toList[t]?=some (.tuple vs))(hv:vs.toList[i]?=some v)(h:MX P olds p W F (n+1) l pl (a.put o.dst v) ct):MX P olds p W F n (o::l) ((fun _=>v,[],none,[])::pl) a ct:=by
 have hv':vs[i]?=some v:=by rw[<-Array.getElem?_toList];exact hv
 refine Zg v (fun w=>?_) h;unfold execOp;rw[ho];simp only[WA hx,Instr.extract];simp[hv']
theorem Gf {fn:Func}(f:FuncId)(args:Array Operand)(ts:Array TypeId)
  (ho:o.op= .call {callee:=.value (.func f),args:=args,argTypes:=ts})(hf:P.funcs[f]?=some fn)(hb:(fn.name== "runtime.NumGoroutine" ||fn.body.isNone)=false)
  (vs:Array Value)(hv':args.toList.map a.eval=vs.toList)(v:Value)
  (hc: ∀w,Calls P f vs w (Rt v w))
  (h:MX P olds p W F (n+1) l pl (a.put o.dst v) ct):MX P olds p W F n (o::l) ((fun _=>v,[],none,[])::pl) a ct:=by
 refine Tt f vs v [] (fun w=>?_) (fun w _ _=>hc w) h
 have hv:args.map a.eval=vs:=by apply Array.toList_inj.1;rw[Array.toList_map];exact hv'
 have hr:=ZM (P:=P) hf hb vs w;unfold execOp;simp only[ho,resolve,hv,Act.eval];simp[Deferred.ofValue,invoke,hr]
theorem m_c {fn:Func}(f:FuncId)(hf:P.funcs[f]?=some fn)(vs:Array Value){v:Value}(hc: ∀w,Calls P f vs w (Rt v w))(h:MX P olds p W F (n+1) l pl (a.put o.dst v) ct){args:Array Operand}{ts:Array TypeId}(ho:o.op= .call {callee:=.value (.func f),args:=args,argTypes:=ts}:=by exact rfl)(hb:(fn.name== "runtime.NumGoroutine" ||fn.body.isNone)=false:=by kernel_rfl)(hv':args.toList.map a.eval=vs.toList:=by exact rfl):MX P olds p W F n (o::l) ((fun _=>v,[],none,[])::pl) a ct:=Gf f args ts ho hf hb vs hv' v hc h
theorem RS (ty:TypeId)(x:Operand)(ho:o.op= .load ty x)(g:Nat)(hx:a.eval x= .pointer (some ⟨g,0,none⟩)){t:TypeId}{cs:Array Value}(hg:Row W g cs t)(hS:g∉olds.map (·.1))(m:Nat)(e:TypeId)
  (hu:P.underlying ty=some (.array m e))(hi:(P.info? ty).map (·.size)=some cs.size)
  (h:MX P olds p W F (n+1) l pl (a.put o.dst (.agg cs)) ct):MX P olds p W F n (o::l) ((fun _=>.agg cs,[],none,[])::pl) a ct:=by
 refine XD (.agg cs) [] (fun w hk _=>?_) h;unfold execOp;simp only[ho,hx,Instr.loadAt,Instr.sureAddr,Sem.run_bind,Sem.run_pure,Result.andThen_ok,run_loadVar_row w g t ty cs (0,0) _ (hk.row hg hS) hu rfl hi]
theorem XE (k:Nat)(ty:TypeId)(x:Operand)(ho:o.op= .load ty x){t:TypeId}{cs:Array Value}(hct:ct k=some (t,cs))(hx:a.eval x= .pointer (some ⟨ZY olds p k,0,none⟩))(m:Nat)(e:TypeId)
  (hu:P.underlying ty=some (.array m e))(hi:(P.info? ty).map (·.size)=some cs.size)
  (h:MX P olds p W F (n+1) l pl (a.put o.dst (.agg cs)) ct):MX P olds p W F n (o::l) ((fun _=>.agg cs,[k],none,[])::pl) a ct:=by
 refine XD (.agg cs) [k] (fun w _ hrw=>?_) h;have hg:=hrw k (List.mem_singleton.2 rfl) _ hct;unfold execOp;simp only[ho,hx,Instr.loadAt,Instr.sureAddr,Sem.run_bind,Sem.run_pure,Result.andThen_ok,run_loadVar_row w _ t ty cs (0,0) _ hg hu rfl hi]
theorem ZB (ty:TypeId)(x:Operand)(ho:o.op= .load ty x)(g i:Nat)(hx:a.eval x= .pointer (some ⟨g,i,none⟩)){t:TypeId}{cs:Array Value}(hg:Row W g cs t)(hS:g∉olds.map (·.1))(v:Value)(hc:cs[i]?=some v)
  (ha: ∀w,(isAgg ty).run P w= .ok false w)
  (h:MX P olds p W F (n+1) l pl (a.put o.dst v) ct):MX P olds p W F n (o::l) ((fun _=>v,[],none,[])::pl) a ct:=by
 refine XD v [] (fun w hk _=>?_) h;unfold execOp;simp only[ho,hx,Instr.loadAt,Instr.sureAddr,Sem.run_bind,Sem.run_pure,Result.andThen_ok,YC w g i ty v ha ((hk.row hg hS).cell i |>.trans hc)]
theorem Vj (k:Nat)(ty:TypeId)(x:Operand)(ho:o.op= .load ty x)(i:Nat){t:TypeId}{cs:Array Value}(hct:ct k=some (t,cs))(hx:a.eval x= .pointer (some ⟨ZY olds p k,i,none⟩))(v:Value)(hc:cs[i]?=some v)
  (ha: ∀w,(isAgg ty).run P w= .ok false w)
  (h:MX P olds p W F (n+1) l pl (a.put o.dst v) ct):MX P olds p W F n (o::l) ((fun _=>v,[k],none,[])::pl) a ct:=by
 refine XD v [k] (fun w _ hrw=>?_) h;have hg:=hrw k (List.mem_singleton.2 rfl) _ hct;unfold execOp;simp only[ho,hx,Instr.loadAt,Instr.sureAddr,Sem.run_bind,Sem.run_pure,Result.andThen_ok,YC w _ i ty v ha (hg.cell i |>.trans hc)]
theorem U3 (t:TypeId)(ho:o.op= .alloc t)(c:Array Value)(hz: ∀w,(zeroValue t).run P w= .ok (.agg c) w)
  (h:MX P olds p W F (n+1) l pl (a.put o.dst (.pointer (some ⟨p n,0,none⟩))) (XC ct (2*n+1) (t,c))):MX P olds p W F n (o::l) ((fun q=>.pointer (some ⟨q n,0,none⟩),[],some (t,c),[])::pl) a ct:=
 Ua (fun g=>.pointer (some ⟨g,0,none⟩)) t c (fun w=>by unfold execOp;simp only[ho,Instr.alloc,Sem.run_bind,hz,Result.andThen_ok,newVar,newRow];rfl) h
theorem YD (t:TypeId)(x:Operand)(ho:o.op= .box t x)(c:Array Value)(hx:a.eval x= .agg c)
  (h:MX P olds p W F (n+1) l pl (a.put o.dst (.pointer (some ⟨p n,0,none⟩))) (XC ct (2*n+1) (t,c))):MX P olds p W F n (o::l) ((fun q=>.pointer (some ⟨q n,0,none⟩),[],some (t,c),[])::pl) a ct:=
 Ua (fun g=>.pointer (some ⟨g,0,none⟩)) t c (fun w=>by unfold execOp;simp only[ho,hx,Instr.box,Sem.run_bind,newVar,newRow];rfl) h
theorem W2 (w:World)(g:Nat)(c:Array Value):Only g w (w.setRow g c):=⟨rfl,rfl,rfl,by simp,fun k hk=>setRow_other w g k c hk⟩
theorem XV (w:World)(g i:Nat)(v:Value):Only g w (w.setCell ⟨g,i,none⟩ v):=⟨rfl,rfl,rfl,Wx _ _ _,fun k hk=>heap_setCell_other w ⟨g,i,none⟩ k v hk⟩
theorem WY (k:Nat)(ty:TypeId)(x y:Operand)(ho:o.op= .store ty x y){t:TypeId}{old:Array Value}(hct:ct k=some (t,old))(hx:a.eval x= .pointer (some ⟨ZY olds p k,0,none⟩))(c:Array Value)(hy:a.eval y= .agg c)
  (hi:(P.info? ty).map (·.size)=some c.size)(hold:old.size=c.size)(h1:c.all (·.oneCell')=true)
  (h:MX P olds p W F (n+1) l pl (a.put o.dst undef) (XC ct k (t,c))):MX P olds p W F n (o::l) ((fun _=>undef,[],none,[(k,c)])::pl) a ct:=by
 refine RQ k c hct (fun w hr=>⟨w.setRow (ZY olds p k) c,?_,hr.setRow _,W2 _ _ _⟩) h;unfold execOp;simp only[ho,hx,hy,Instr.storeAt,Instr.sureAddr,Sem.run_bind,Sem.run_pure,Result.andThen_ok,run_storeVar_row w _ t ty old c hr hi hold h1]
theorem W3 (k:Nat)(ty:TypeId)(x y:Operand)(ho:o.op= .store ty x y)(i:Nat){t:TypeId}{old:Array Value}(hct:ct k=some (t,old))(hx:a.eval x= .pointer (some ⟨ZY olds p k,i,none⟩))(kd:IntKind)(m:Int)(hy:a.eval y= .int kd m)
  (hz: ∀w,(sizeOf ty).run P w= .ok 1 w)(hi:i<old.size)(c:Array Value)(hc:old.setIfInBounds i (.int kd m)=c)
  (h:MX P olds p W F (n+1) l pl (a.put o.dst undef) (XC ct k (t,c))):MX P olds p W F n (o::l) ((fun _=>undef,[],none,[(k,c)])::pl) a ct:=by
 subst hc;refine RQ k _ hct (fun w hr=>⟨w.setCell ⟨ZY olds p k,i,none⟩ (.int kd m),?_,hr.setCell _ _,XV _ _ _ _⟩) h;have hcell:w.cell? ⟨ZY olds p k,i,none⟩=some old[i]:=(hr.cell i).trans (by simp[hi]);unfold execOp;simp only[ho,hx,hy,Instr.storeAt,Instr.sureAddr,Sem.run_bind,Sem.run_pure,Result.andThen_ok,UV w _ i ty kd m _ hz hcell (hr.frozen i)]
theorem SB {fn:Func}{R:Ending->World->Prop}{a:Act}{w:World}{p p':Tmp}{ty:TypeId}(hf:fn.results=#[.cell p ty,.cell p' ty])(g:Nat)(hp:a.tmps.getD p undef= .pointer (some ⟨g,0,none⟩))
  {t:TypeId}{cs:Array Value}(hr:Row w g cs t)(g':Nat)(hp':a.tmps.getD p' undef= .pointer (some ⟨g',0,none⟩)){t':TypeId}{cs':Array Value}(hr':Row w g' cs' t')(n:Nat)(e:TypeId)(hu:P.underlying ty=some (.array n e))(hi:(P.info? ty).map (·.size)=some cs.size)(hi':(P.info? ty).map (·.size)=some cs'.size)(hd:a.defers=[])
  (h:R (.returned (.tuple #[.agg cs,.agg cs'])) w):bodyPost P fn R .ret a w:=by
 refine bodyPost_ret (v:=.tuple #[.agg cs,.agg cs']) ?_ hd h;have h1:=run_loadVar_row w g t ty cs (0,0) _ hr hu rfl hi;have h2:=run_loadVar_row w g' t' ty cs' (0,0) _ hr' hu rfl hi';rw[Array.getD_eq_getD_getElem?]at hp hp';simp[results,hf,hp,hp',Sem.run_bind,asAddr,h1,h2]
theorem RU {fn:Func}{R:Ending->World->Prop}{a:Act}{w:World}{u p:Tmp}{ty:TypeId}(hf:fn.results=#[.tmp u,.cell p ty])(v:Value)(hv:a.tmps.getD u undef=v)(g:Nat)(hp:a.tmps.getD p undef= .pointer (some ⟨g,0,none⟩))
  {t:TypeId}{cs:Array Value}(hr:Row w g cs t)(n:Nat)(e:TypeId)(hu:P.underlying ty=some (.array n e))(hi:(P.info? ty).map (·.size)=some cs.size)(hd:a.defers=[])
  (h:R (.returned (.tuple #[v,.agg cs])) w):bodyPost P fn R .ret a w:=by
 refine bodyPost_ret (v:=.tuple #[v,.agg cs]) ?_ hd h;have h1:=run_loadVar_row w g t ty cs (0,0) _ hr hu rfl hi;rw[Array.getD_eq_getD_getElem?]at hp hv;simp[results,hf,hp,hv,asAddr,h1]
theorem Vk {fn:Func}{R:Ending->World->Prop}{a:Act}{w:World}{p p' u:Tmp}{ty:TypeId}(hf:fn.results=#[.cell p ty,.cell p' ty,.tmp u])(g:Nat)(hp:a.tmps.getD p undef= .pointer (some ⟨g,0,none⟩))
  {t:TypeId}{cs:Array Value}(hr:Row w g cs t)(g':Nat)(hp':a.tmps.getD p' undef= .pointer (some ⟨g',0,none⟩)){t':TypeId}{cs':Array Value}(hr':Row w g' cs' t')(v:Value)(hv:a.tmps.getD u undef=v)(n:Nat)(e:TypeId)(hu:P.underlying ty=some (.array n e))(hi:(P.info? ty).map (·.size)=some cs.size)(hi':(P.info? ty).map (·.size)=some cs'.size)(hd:a.defers=[])
  (h:R (.returned (.tuple #[.agg cs,.agg cs',v])) w):bodyPost P fn R .ret a w:=by
 refine bodyPost_ret (v:=.tuple #[.agg cs,.agg cs',v]) ?_ hd h;have h1:=run_loadVar_row w g t ty cs (0,0) _ hr hu rfl hi;have h2:=run_loadVar_row w g' t' ty cs' (0,0) _ hr' hu rfl hi';rw[Array.getD_eq_getD_getElem?]at hp hp' hv;simp[results,hf,hp,hp',hv,Sem.run_bind,asAddr,h1,h2]
theorem Ya {ρ:Operand->Value}(t:TypeId)(x y:Operand)(ho:o.op= .indexAddr t x y)(g:Nat)(hx:ρ x= .pointer (some ⟨g,0,none⟩))(i len:Nat)(hy:ρ y= .int .i64 i)(hi:i<len)(e:TypeId)(hu:P.underlying t=some (.array len e))
  (hz: ∀w,(sizeOf e).run P w= .ok 1 w)(w:World):(execOp ρ o).run P w= .ok (.value (.pointer (some ⟨g,i,none⟩))) w:=by
 unfold execOp;simp[ho,hx,hy,Instr.indexAt,Instr.sureAddr,Sem.run_bind,run_underlying hu,hz,go_sem,asIntOf,Addr.add,hi];intro h0;rw[h0]
end
section
variable {P:Program}{olds:Wz}{p:Nat->Nat}{W:World}{F:Act->Ct->Prop}{n:Nat}{l:List Oper}{pl:List Sp}{a:Act}{ct:Ct}{o:Oper}
theorem m_m {t:Tmp}{v:Value}(h:MX P olds p W F (n+1) l pl (a.put o.dst v) ct)(ho:o.op= .move (.tmp t):=by exact rfl)(hx:a.tmps.toList[t]?=some v:=by exact rfl):MX P olds p W F n (o::l) ((fun _=>v,[],none,[])::pl) a ct:=Ge ho hx h
theorem m_a {t:Tmp}{v:Value}(h:MX P olds p W F (n+1) l pl (a.put o.dst v) ct)(ho:o.op= .assign (.tmp t):=by exact rfl)(hx:a.tmps.toList[t]?=some v:=by exact rfl):MX P olds p W F n (o::l) ((fun _=>v,[],none,[])::pl) a ct:=EP ho hx h
theorem m_e {t:Tmp}{i:Nat}{vs:Array Value}{v:Value}(h:MX P olds p W F (n+1) l pl (a.put o.dst v) ct)(ho:o.op= .extract (.tmp t) i:=by exact rfl)(hx:a.tmps.toList[t]?=some (.tuple vs):=by exact rfl)(hv:vs.toList[i]?=some v:=by exact rfl):MX P olds p W F n (o::l) ((fun _=>v,[],none,[])::pl) a ct:=EQ ho hx hv h
theorem m_l {x:Operand}{g A:Nat}{t:TypeId}(hg:Row W g (Zc A) t)(h:MX Tryz.prog olds p W F (n+1) l pl (a.put o.dst (.agg (Zc A))) ct)(ho:o.op= .load 39 x:=by exact rfl)(hx:a.eval x= .pointer (some ⟨g,0,none⟩):=by exact rfl)(hS:g∉olds.map (·.1):=by simp<;>omega):MX Tryz.prog olds p W F n (o::l) ((fun _=>.agg (Zc A),[],none,[])::pl) a ct:=RS 39 x ho g hx hg hS 4 _ Tryz.underlying39 Ze h
theorem m_p (k A:Nat){x y:Operand}{t:TypeId}{old:Array Value}(h:MX Tryz.prog olds p W F (n+1) l pl (a.put o.dst undef) (XC ct k (t,Zc A)))(ho:o.op= .store 39 x y:=by exact rfl)(hct:ct k=some (t,old):=by exact rfl)(hx:a.eval x= .pointer (some ⟨ZY olds p k,0,none⟩):=by exact rfl)(hy:a.eval y= .agg (Zc A):=by exact rfl)(hold:old.size=(Zc A).size:=by simp only[Zt]):MX Tryz.prog olds p W F n (o::l) ((fun _=>undef,[],none,[(k,Zc A)])::pl) a ct:=WY k 39 x y ho hct hx (Zc A) hy (by exact Ze) hold (ZA _) h
theorem m_n (h:MX Tryz.prog olds p W F (n+1) l pl (a.put o.dst (.pointer (some ⟨p n,0,none⟩))) (XC ct (2*n+1) (39,Zc 0)))(ho:o.op= .alloc 39:=by exact rfl):MX Tryz.prog olds p W F n (o::l) ((fun q=>.pointer (some ⟨q n,0,none⟩),[],some (39,Zc 0),[])::pl) a ct:=U3 39 ho _ Zv h
end
section
variable {P:Program}{ops:Array Oper}{W:World}{Q:Act->Prop}{rest:List Oper}{o:Oper}{a:Act}
theorem Gg {t:Tmp}{v:Value}(hw:Region.wanted o (yielded ops a.tmps)=true)(ho:o.op= .move (.tmp t))(hx:a.tmps.toList[t]?=some v)(h:QW P ops W Q rest (a.put o.dst v)):QW P ops W Q (o::rest) a:=by
 have h':a.tmps[t]?=some v:=by rw[<-Array.getElem?_toList];exact hx
 exact WN hw v (fun w=>by unfold execOp;rw[ho];simp[Act.eval,h']) h
theorem ER {t:Tmp}{v:Value}(hw:Region.wanted o (yielded ops a.tmps)=true)(ho:o.op= .assign (.tmp t))(hx:a.tmps.toList[t]?=some v)(h:QW P ops W Q rest (a.put o.dst v)):QW P ops W Q (o::rest) a:=by
 have h':a.tmps[t]?=some v:=by rw[<-Array.getElem?_toList];exact hx
 exact WN hw v (fun w=>by unfold execOp;rw[ho];simp[Act.eval,h']) h
theorem Vl {t:Tmp}{i:Nat}{vs:Array Value}{v:Value}(hw:Region.wanted o (yielded ops a.tmps)=true)(ho:o.op= .extract (.tmp t) i)(hx:a.tmps.toList[t]?=some (.tuple vs))(hv:vs.toList[i]?=some v)(h:QW P ops W Q rest (a.put o.dst v)):QW P ops W Q (o::rest) a:=by
 have h':a.tmps[t]?=some (.tuple vs):=by rw[<-Array.getElem?_toList];exact hx
 have hv':vs[i]?=some v:=by rw[<-Array.getElem?_toList];exact hv
 exact WN hw v (fun w=>by unfold execOp;rw[ho];simp[Act.eval,h',Instr.extract,hv']) h
theorem Tv (b:Bool){c:Tmp}{x y:Operand}{v:Value}(hw:Region.wanted o (yielded ops a.tmps)=true)(ho:o.op= .pick (.tmp c) x y)(hc:a.tmps.toList[c]?=some (.bool b))(hv:a.eval (if b=true then x else y)=v)(h:QW P ops W Q rest (a.put o.dst v)):QW P ops W Q (o::rest) a:=by
 have h':a.tmps[c]?=some (.bool b):=by rw[<-Array.getElem?_toList];exact hc
 refine WN hw v (fun w=>?_) h;subst hv;unfold execOp;rw[ho];have h2:a.eval (.tmp c)= .bool b:=by simp[Act.eval,h']
 simp only[h2]
 cases b<;>rfl
theorem q_p (b:Bool)(v:Value){c:Tmp}{x y:Operand}(h:QW P ops W Q rest (a.put o.dst v))(hw:Region.wanted o (yielded ops a.tmps)=true:=by rfl)(ho:o.op= .pick (.tmp c) x y:=by exact rfl)(hc:a.tmps.toList[c]?=some (.bool b):=by exact rfl)(hv:a.eval (if b=true then x else y)=v:=by exact rfl):QW P ops W Q (o::rest) a:=Tv b hw ho hc hv h
theorem Ub {o:Oper}{a:Act}{w:World}{v:Value}{C:World->Prop}{K:Act->World->Prop}{Q':Exit->Act->World->Prop}(hC:C w)(h:o.quietAt P a C w v)(hK: ∀w2,C w2->K (a.put o.dst v) w2):o.wp P a w K Q':=by
 unfold Oper.quietAt at h;unfold Oper.wp;generalize (execOp a.eval o).run P w=r at*
 cases r with
 |ok n w'=>
  cases n<;>simp only[Oper.quietUpon]at h<;>simp only[Oper.upon]
  case value u=>
   obtain⟨e1,e2⟩:=h;rw[e1,e2];exact hK _ hC
  case skip=>
   obtain⟨e1,e2⟩:=h;rw[e1,<-e2];exact hK _ hC
  case enter f args=>
   obtain⟨e1,hc⟩:=h;rw[e1]
   exact hc.mono fun e w'' ⟨he,hw''⟩=>by subst he;exact hK _ hw''
 |halt x w'=>simp only[Oper.quietUpon]at h
theorem W4 {C:World->Prop}{Q':Exit->Act->World->Prop}: ∀(l:List Oper) (a:Act) (w:World),C w->wpQuiet P ops C (fun a'=> ∀w',C w'->Q' .normal a' w') l a->wpList P ops Q' l a w
 |[],a,w,hC,h=>h w hC
 |o::l,a,w,hC,h=>by
  unfold wpQuiet at h;refine wpList_step fun K hK=>?_
  by_cases hw:Region.wanted o (yielded ops a.tmps)=true
  ·rw[if_pos hw]at h ⊢;obtain⟨v,hq,hr⟩:=h;exact Ub hC (hq w hC) fun w2 hC2=>hK _ _ (W4 l _ w2 hC2 hr)
  ·rw[if_neg hw]at h ⊢;exact hK _ _ (W4 l _ w hC h)
theorem ZQ {id:Nat}{Q':Exit->Act->World->Prop}{l:List Oper}
  (h:QW P l.toArray W (fun a'=> ∀w',Below W.heap.size W w'->Q' .normal a' w') l a):(Code.region id l.toArray false).wp P Q' a W:=
 wp_region_lit (W4 l a W (Below.refl _ _) h.out)
theorem Yc {id:Nat}{l:List Oper}{Q':Exit->Act->World->Prop}(olds:Wz)(plan:List Sp)(hr:WX W olds)(hn:(olds.map (·.1)).Nodup)(hg:(l.all fun o=>o.guard.isNone)=true)
  (h: ∀p,MX P olds p W (EO olds p W Q') 0 l plan a (ct0 olds)):(Code.region id l.toArray false).wp P Q' a W:=Zd olds plan hr hn h hg
end
section
variable {P:Program}{ops:Array Oper}{W:World}{Q:Act->Prop}{rest:List Oper}{o:Oper}{a:Act}
theorem q_m {t:Tmp}{v:Value}(h:QW P ops W Q rest (a.put o.dst v))(hw:Region.wanted o (yielded ops a.tmps)=true:=by rfl)(ho:o.op= .move (.tmp t):=by exact rfl)(hx:a.tmps.toList[t]?=some v:=by exact rfl):QW P ops W Q (o::rest) a:=Gg hw ho hx h
theorem q_a {t:Tmp}{v:Value}(h:QW P ops W Q rest (a.put o.dst v))(hw:Region.wanted o (yielded ops a.tmps)=true:=by rfl)(ho:o.op= .assign (.tmp t):=by exact rfl)(hx:a.tmps.toList[t]?=some v:=by exact rfl):QW P ops W Q (o::rest) a:=ER hw ho hx h
theorem q_v (v:Value)(hr: ∀w,(execOp a.eval o).run P w= .ok (.value v) w)(h:QW P ops W Q rest (a.put o.dst v))(hw:Region.wanted o (yielded ops a.tmps)=true:=by rfl):QW P ops W Q (o::rest) a:=WN hw v hr h
end
end Go.Proofs.YtcdahmommonnfaaGreatDoor
