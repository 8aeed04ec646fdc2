import Derived.Test.YtnagnkhbamhfmaaGreatDoorGA
namespace Go.Proofs.YtnagnkhbamhfmaaGreatDoor
set_option linter.all false
open Go.RowKit
section
variable {P:Program}
structure QW (P:Program)(ops:Array Oper)(W:World)(Q:Act->Prop)(l:List Oper)(a:Act):Prop where
 out:wpQuiet P ops (Below W.heap.size W) Q l a
theorem ZD {id:Nat}{Q:Exit->Act->World->Prop}{a:Act}{W:World}{l:List Oper}(hm:P.follows .mixedOrders=true)(hB:Region.lexB .any l.toArray=true)
  (h:QW P l.toArray W (fun a'=> ∀w',Below W.heap.size W w'->Q .normal a' w') l a):(Code.region id l.toArray true).wp P Q a W:=
 wp_region_quiet (C:=Below W.heap.size W) hm hB ((H_ _ _).drew) (by simpa using h.out)
variable {ops:Array Oper}{W:World}{Q:Act->Prop}{rest:List Oper}{o:Oper}{a:Act}
theorem ZR (h:Q a):QW P ops W Q [] a:=⟨h⟩
theorem V7 (hw:Region.wanted o (yielded ops a.tmps)=true)(v:Value)(hr: ∀w,(execOp a.eval o).run P w= .ok (.value v) w)(h:QW P ops W Q rest (a.put o.dst v)):QW P ops W Q (o::rest) a:=by
 refine⟨?_⟩;unfold wpQuiet;rw[j_ hw];exact⟨v,fun w _=>by unfold Oper.quietAt;rw[hr];exact⟨rfl,rfl⟩,h.out⟩
theorem ZI (hw:Region.wanted o (yielded ops a.tmps)=false)(h:QW P ops W Q rest (a.put o.dst undef)):QW P ops W Q (o::rest) a:=by
 refine⟨?_⟩;unfold wpQuiet;rw[i_ (by rw[hw];decide)];exact h.out
theorem YX (hw:Region.wanted o (yielded ops a.tmps)=true)(ty:TypeId)(x:Operand)(ho:o.op= .load ty x)
  (g:Nat)(hx:a.eval x= .pointer (some ⟨g,0,none⟩)){t:TypeId}{cs:Array Value}(hg:Row W g cs t)(n:Nat)(e:TypeId)
  (hu:P.underlying ty=some (.array n e))(hi:(P.info? ty).map (·.size)=some cs.size)
  (h:QW P ops W Q rest (a.put o.dst (.agg cs))):QW P ops W Q (o::rest) a:=by
 refine⟨?_⟩;unfold wpQuiet;rw[j_ hw];refine⟨.agg cs,fun w hC=>?_,h.out⟩
 have hr:(execOp a.eval o).run P w= .ok (.value (.agg cs)) w:=by
  unfold execOp;simp only[ho,hx,Instr.loadAt,Instr.sureAddr,p_,Y_,k_,cB0 w g t ty cs (0,0) _ (hg.belowAll hC) hu rfl hi]
 unfold Oper.quietAt;rw[hr];exact⟨rfl,rfl⟩
theorem Dw {fn:Func}(hw:Region.wanted o (yielded ops a.tmps)=true)(f:FuncId)(args:Array Operand)(ts:Array TypeId)
  (ho:o.op= .call {callee:=.value (.func f),args:=args,argTypes:=ts})(hf:P.funcs[f]?=some fn)(hb:(fn.name== "runtime.NumGoroutine" ||fn.body.isNone)=false)
  (vs:Array Value)(hv':args.toList.map a.eval=vs.toList)(v:Value)
  (hc: ∀w,Calls P f vs w (Rt v w))
  (h:QW P ops W Q rest (a.put o.dst v)):QW P ops W Q (o::rest) a:=by
 refine⟨?_⟩;unfold wpQuiet;rw[j_ hw];refine⟨v,fun w hC=>?_,h.out⟩
 have hv:args.map a.eval=vs:=by apply bO0.1;rw[aR0];exact hv'
 have hr:=Z4 (P:=P) hf hb vs w
 have hd:(execOp a.eval o).run P w= .ok (.enter f vs) w:=by
  unfold execOp;simp only[ho,resolve,hv,Act.eval];simp[Deferred.ofValue,invoke,hr]
 unfold Oper.quietAt;rw[hd];exact⟨rfl,(hc w).mono fun e w' ⟨he,hb'⟩=>⟨he,Zk hC (c_ _) hb'⟩⟩
theorem q_c {fn:Func}(f:FuncId)(hf:P.funcs[f]?=some fn)(vs:Array Value){v:Value}(hc: ∀w,Calls P f vs w (Rt v w))(h:QW P ops W Q rest (a.put o.dst v)){args:Array Operand}{ts:Array TypeId}(hw:Region.wanted o (yielded ops a.tmps)=true:=by rfl)(ho:o.op= .call {callee:=.value (.func f),args:=args,argTypes:=ts}:=by exact rfl)(hb:(fn.name== "runtime.NumGoroutine" ||fn.body.isNone)=false:=by kernel_rfl)(hv':args.toList.map a.eval=vs.toList:=by exact rfl):QW P ops W Q (o::rest) a:=Dw hw f args ts ho hf hb vs hv' v hc h
end
section
variable {P:Program}
abbrev Sp:=((Nat->Nat)->Value)×List Nat×Option (TypeId×Array Value)×List (Nat×Array Value)
def spV (p:Nat->Nat)(s:Sp):Value:=s.1 p
def Loc (n:Nat)(s:Sp):Prop:=(∃v,s.1=fun _=>v)∨(∃f:Nat->Value,s.1=fun q=>f (q n))∨(∃(j:Nat) (f:Nat->Value),j<n/\(2*j+1)∈s.2.1/\s.1=fun q=>f (q j))
theorem Loc.same {n:Nat}{s:Sp}(h:Loc n s){q q':Nat->Nat}(h1:q n=q' n)(h2: ∀j,j<n->(2*j+1)∈s.2.1->q j=q' j):s.1 q=s.1 q':=by
 rcases h with ⟨v,e⟩|⟨f,e⟩|⟨j,f,hj,hm,e⟩<;>rw[e]
 ·show f (q n)=f (q' n)
  rw[h1]
 ·show f (q j)=f (q' j)
  rw[h2 j hj hm]
def upd (p:Nat->Nat)(n g:Nat):Nat->Nat:=fun j=>if j=n then g else p j
theorem Y5 (p:Nat->Nat)(n g:Nat):upd p n g n=g:=j_ rfl
theorem Qj (p:Nat->Nat){n j:Nat}(g:Nat)(h:j≠n):upd p n g j=p j:=i_ h
abbrev Ct:=Nat->Option (TypeId×Array Value)
def XU (ct:Ct)(k:Nat)(x:TypeId×Array Value):Ct:=fun j=>if j=k then some x else ct j
def Uz (l:List (Nat×Array Value))(k:Nat):Option (Array Value):=(l.find? fun x=>x.1==k).map (·.2)
def spC (i:Nat)(s:Sp)(ct:Ct):Ct:=fun k=>
 match s.2.2.1,decide (k=2*i+1)with
 |some m,true=>some m
 |_,_=>match Uz s.2.2.2 k with
  |some c=>(ct k).map fun y=>(y.1,c)
  |none=>ct k
def Lz (i:Nat)(s:Sp):List Nat:=(match s.2.2.1 with|none=>[]|some _=>[2*i+1])++s.2.2.2.map (·.1)
def W2 (s:Sp):List Nat:=s.2.1++s.2.2.2.map (·.1)
def UA (p:Nat->Nat)(d:Nat->Bool):Nat->List (Oper×Sp)->Act->Act
 |_,[],a=>a
 |n,x::l,a=>UA p d (n+1) l (if d n=true then a.put x.1.dst (spV p x.2)else a)
def ctD (d:Nat->Bool):Nat->List (Oper×Sp)->Ct->Ct
 |_,[],ct=>ct
 |n,x::l,ct=>ctD d (n+1) l (if d n=true then spC n x.2 ct else ct)
theorem Mj {l:List (Nat×Array Value)}{k:Nat}(h:k∉l.map (·.1)):Uz l k=none:=by
 unfold Uz;rw[hO0.2 fun x hx e=>h (eZ0.2 ⟨x,hx,by simpa using e⟩)];rfl
theorem Mk {l:List (Nat×Array Value)}{k:Nat}(h:k∈l.map (·.1)): ∃c,Uz l k=some c/\(k,c)∈l:=by
 unfold Uz
 cases hf:l.find? fun x=>x.1==k with
 |none=>
  obtain⟨x,hx,e⟩:=eZ0.1 h;have:=hO0.1 hf x hx;simp[e]at this
 |some x=>
  have h1:=List.find?_some hf;have h2:=List.mem_of_find?_eq_some hf;have h3:x.1=k:=by simpa using h1
  exact⟨x.2,rfl,by rw[<-h3];exact h2⟩
theorem X7 {i k:Nat}{s:Sp}(ct:Ct)(h:k∉Lz i s):spC i s ct k=ct k:=by
 unfold Lz at h;rw[fT0]at h;have h2:=Mj fun hm=>h (.inr hm)
 unfold spC;rw[h2]
 cases hm:s.2.2.1 with
 |none=>rfl
 |some m=>
  have:k≠2*i+1:=fun e=>h (.inl (by rw[hm,e];exact D_.2 rfl))
  simp[this]
theorem OZ {i k:Nat}(s:Sp){ct ct':Ct}(h:ct k=ct' k):spC i s ct k=spC i s ct' k:=by
 unfold spC;rw[h]
theorem Re {i:Nat}{s:Sp}{m:TypeId×Array Value}(hm:s.2.2.1=some m)(ct:Ct):spC i s ct (2*i+1)=some m:=by
 unfold spC;rw[hm,d_ rfl]
theorem O0 {i k:Nat}{s:Sp}(hk:k∈s.2.2.2.map (·.1))(hne:s.2.2.1=none∨k≠2*i+1)(ct:Ct): ∃c,(k,c)∈s.2.2.2/\spC i s ct k=(ct k).map fun y=>(y.1,c):=by
 obtain⟨c,hf,hm⟩:=Mk hk;refine⟨c,hm,?_⟩;unfold spC;rw[hf];rcases hne with h|h
 ·rw[h]
 ·cases s.2.2.1 with
  |none=>rfl
  |some m=>simp[h]
theorem V8 {d d':Nat->Bool}{k:Nat}: ∀(l:List (Oper×Sp)) (n:Nat) (ct ct':Ct),(∀j x,l[j]?=some x->k∈Lz (n+j) x.2->d (n+j)=d' (n+j))->ct k=ct' k->ctD d n l ct k=ctD d' n l ct' k
 |[],_,_,_,_,h=>h
 |x::l,n,ct,ct',hd,h=>by
  unfold ctD;refine V8 l (n+1) _ _ (fun j y hj hh=>?_) ?_
  ·have:=hd (j+1) y (by simpa using hj);rw[show n+(j+1)=n+1+j by omega]at this;exact this hh
  ·by_cases e:k∈Lz n x.2
   ·have h0:=hd 0 x rfl e;rw[cC0]at h0;rw[h0]
    split
    ·exact OZ x.2 h
    ·exact h
   ·have h1:(if d n=true then spC n x.2 ct else ct) k=ct k:=by split;exact X7 ct e;rfl
    have h2:(if d' n=true then spC n x.2 ct' else ct') k=ct' k:=by split;exact X7 ct' e;rfl
    rw[h1,h2,h]
theorem UB {p p':Nat->Nat}{d d':Nat->Bool}: ∀(l:List (Oper×Sp)) (n:Nat) (a:Act),(∀j,n<=j->d j=d' j)->(∀j x,l[j]?=some x->d (n+j)=true->spV p x.2=spV p' x.2)->UA p d n l a=UA p' d' n l a
 |[],_,_,_,_=>rfl
 |x::l,n,a,hd,hp=>by
  unfold UA;rw[UB l (n+1) _ (fun j hj=>hd j (by omega)) (fun j y hj hdj=>hp (j+1) y (by simpa using hj) (by rw[show n+(j+1)=n+1+j by omega];exact hdj)),<-hd n (c_ _)];by_cases e:d n=true
  ·rw[j_ e,j_ e,hp 0 x rfl (by rw[cC0];exact e)]
  ·rw[i_ e,i_ e]
theorem Tp {p:Nat->Nat}{d:Nat->Bool}: ∀(l:List (Oper×Sp)) (n:Nat) (a:Act),(∀j,n<=j->d j=false)->UA p d n l a=a
 |[],_,_,_=>rfl
 |x::l,n,a,hd=>by
  unfold UA;rw[i_ (by rw[hd n (c_ _)];decide)];exact Tp l (n+1) a fun j hj=>hd j (by omega)
theorem V9 {d:Nat->Bool}: ∀(l:List (Oper×Sp)) (n:Nat) (ct:Ct),(∀j,n<=j->d j=false)->ctD d n l ct=ct
 |[],_,_,_=>rfl
 |x::l,n,ct,hd=>by
  unfold ctD;rw[i_ (by rw[hd n (c_ _)];decide)];exact V9 l (n+1) ct fun j hj=>hd j (by omega)
theorem O1 {p:Nat->Nat}{d:Nat->Bool}{dst:Option Tmp}{v:Value}: ∀(l:List (Oper×Sp)) (n:Nat) (a:Act),(∀x∈l,∀s,dst=some s->x.1.dst≠some s)->UA p d n l (a.put dst v)=(UA p d n l a).put dst v
 |[],_,_,_=>rfl
 |x::l,n,a,h=>by
  unfold UA;rw[<-O1 l (n+1) _ fun y hy=>h y (K_ _ hy)]
  congr 1
  by_cases e:d n=true
  ·rw[j_ e,j_ e];exact Act.put_comm a v _ fun s hs=>h x (bA0 ..) s hs
  ·rw[i_ e,i_ e]
theorem O2 {p:Nat->Nat}{d:Nat->Bool}: ∀(l:List (Oper×Sp)) (n i:Nat) (a:Act) (x:Oper×Sp),l[i]?=some x->d (n+i)=false->
  (∀j y,l[j]?=some y->j≠i-> ∀s,x.1.dst=some s->y.1.dst≠some s)->UA p (fun j=>j==n+i||d j) n l a=(UA p d n l a).put x.1.dst (spV p x.2)
 |[],_,_,_,_,h,_,_=>by simp at h
 |y::l,n,0,a,x,h,hd,hs=>by
  obtain rfl:y=x:=by simpa using h
  unfold UA;rw[j_ (by simp),i_ (by rw[cC0]at hd;rw[hd];decide)];rw[UB (p':=p) (d':=d) l (n+1) _ (fun j hj=>by rw[show(j==n+0)=false by simp;omega];rfl) (fun _ _ _ _=>rfl)];refine O1 l (n+1) a fun z hz s hd'=>?_
  obtain⟨j,hj⟩:=List.mem_iff_getElem?.1 hz;exact hs (j+1) z (by simpa using hj) (by omega) s hd'
 |y::l,n,i+1,a,x,h,hd,hs=>by
  unfold UA;rw[show(n==n+(i+1)||d n)=d n by rw[show(n==n+(i+1))=false by simp];rfl]
  have:=O2 (p:=p) (d:=d) l (n+1) i (if d n=true then a.put y.1.dst (spV p y.2)else a) x (by simpa using h) (by rw[show n+1+i=n+(i+1) by omega];exact hd)
   (fun j z hj hne=>hs (j+1) z (by simpa using hj) (by omega))
  rw[show n+1+i=n+(i+1) by omega]at this;exact this
theorem Vo (a:Act)(dst:Option Tmp)(v:Value):(a.put dst v).tmps.size=a.tmps.size:=by cases dst<;>simp[Act.put]
theorem Wi (a:Act)(s:Tmp)(v:Value)(t:Tmp):(a.put (some s) v).eval (.tmp t)=if s=t/\t<a.tmps.size then v else a.eval (.tmp t):=by
 by_cases e:s=t
 ·subst e
  by_cases h:s<a.tmps.size<;>simp[Act.put,Act.eval,h]
 ·rw[i_ (fun h=>e h.1)];exact Act.eval_put fun d hd hx=>e (by injection hd with hd;injection hx with hx;rw[hd,hx])
theorem Qk {p:Nat->Nat}{d d':Nat->Bool}{s:Tmp}: ∀(l:List (Oper×Sp)) (n:Nat) (a a':Act),(∀j x,l[j]?=some x->x.1.dst=some s->d (n+j)=d' (n+j))->a.tmps.size=a'.tmps.size->a.eval (.tmp s)=a'.eval (.tmp s)->
  (UA p d n l a).eval (.tmp s)=(UA p d' n l a').eval (.tmp s)
 |[],_,_,_,_,_,h=>h
 |x::l,n,a,a',hd,hz,h=>by
  unfold UA;refine Qk l (n+1) _ _ (fun j y hj hh=>?_) ?_ ?_
  ·have:=hd (j+1) y (by simpa using hj);rw[show n+(j+1)=n+1+j by omega]at this;exact this hh
  ·by_cases e:d n=true<;>by_cases e':d' n=true<;>simp only[e,e',if_true,if_false,Vo,Bool.false_eq_true,hz]
  ·cases hx:x.1.dst with
   |none=>
    have e1:(if d n=true then a.put none (spV p x.2)else a)=a:=by split<;>rfl
    have e2:(if d' n=true then a'.put none (spV p x.2)else a')=a':=by split<;>rfl
    rw[e1,e2,h]
   |some r=>
    by_cases e:r=s
    ·subst e;have h0:=hd 0 x rfl hx;rw[cC0]at h0;rw[h0]
     split
     ·rw[Wi,Wi,hz,h]
     ·exact h
    ·have e1:(if d n=true then a.put (some r) (spV p x.2)else a).eval (.tmp s)=a.eval (.tmp s):=by
      split
      ·rw[Wi,i_ (fun k=>e k.1)]
      ·rfl
     have e2:(if d' n=true then a'.put (some r) (spV p x.2)else a').eval (.tmp s)=a'.eval (.tmp s):=by
      split
      ·rw[Wi,i_ (fun k=>e k.1)]
      ·rfl
     rw[e1,e2,h]
def XS (l:List (Oper×Sp)):Nat->Nat->Nat->Bool
 |0,_,_=>false
 |f+1,i,j=>match l[i]? with
  |none=>false
  |some x=>x.1.after.any fun e=>Region.binds .any e&&(e.on==j||XS l f e.on j)
theorem X8 {l:List (Oper×Sp)}{d:Nat->Bool}(hc: ∀i x,l[i]?=some x->d i=true-> ∀e∈x.1.after,Region.binds .any e=true->d e.on=true): ∀(f i j:Nat) (x:Oper×Sp),l[i]?=some x->
  (∀e∈x.1.after,Region.binds .any e=true->d e.on=true)->XS l f i j=true->d j=true
 |0,_,_,_,_,_,h=>by simp[XS]at h
 |f+1,i,j,x,hx,hpre,h=>by
  unfold XS at h;rw[hx]at h;obtain⟨e,he,h1⟩:=Array.any_eq_true'.1 h;rw[s_,bQ0]at h1;have hd:=hpre e he h1.1;rcases h1.2 with h2|h2
  ·rw[<-(by simpa using h2:e.on=j)];exact hd
  ·cases hy:l[e.on]? with
   |none=>cases f<;>simp[XS,hy]at h2
   |some y=>exact X8 hc f e.on j y hy (hc e.on y hy hd) h2
def PG (l:List (Oper×Sp))(x:Oper×Sp)(i:Nat)(y:Oper×Sp)(j:Nat):Bool:=
 j==i||((match y.1.dst with
  |none=>true
  |some s=>x.1.dst !=some s&&(!(x.1.looksAt #[]).contains s||((decide (j<i)&&XS l l.length i j)||(decide (i<j)&&XS l l.length j i))))&&
 (Lz j y.2).all fun k=> !(W2 x.2).contains k||(if j<i then XS l l.length i j else XS l l.length j i))
def chk (l:List (Oper×Sp)):Bool:=
 l.zipIdx.all fun z=>(match z.1.1.op with| .select _ _=>false|_=>true)&&z.1.1.guard.isNone&&(z.1.1.after.all fun e=> !Region.binds .any e||decide (e.on<z.2))&&((W2 z.1.2).all fun k=>k%2==0||decide (k/2<z.2))&&
  l.zipIdx.all fun u=>PG l z.1 z.2 u.1 u.2
structure Kept (S:List Nat)(w w':World):Prop where
 os:w'.os=w.os
 tape:w'.tape=w.tape
 output:w'.output=w.output
 size:w.heap.size<=w'.heap.size
 block: ∀k,k<w.heap.size->k∉S->w'.heap[k]?=w.heap[k]?
theorem Kept.row {S:List Nat}{w w':World}(h:Kept S w w'){b:Nat}{c:Array Value}{t:TypeId}(r:Row w b c t)(hb:b∉S):Row w' b c t:=(h.block b r.lt hb).trans r
theorem Kept.on {S:List Nat}{w w' w2:World}(h:Kept S w w')(k:Below w'.heap.size w' w2):Kept S w w2:=
 ⟨k.os.trans h.os,k.tape.trans h.tape,k.output.trans h.output,f_ h.size k.size,fun b hb hs=>(k.block b (l_ hb h.size)).trans (h.block b hb hs)⟩
theorem Kept.below {S:List Nat}{w w':World}(h:Kept S w w')(B:Nat)(hB:B<=w.heap.size)(hS: ∀g∈S,B<=g):Below B w w':=
 ⟨h.os,h.tape,h.output,h.size,fun k hk=>h.block k (by omega) fun hm=>by have:=hS k hm;omega⟩
abbrev W3:=List (Nat×TypeId×Array Value)
def Z8 (olds:W3)(p:Nat->Nat)(k:Nat):Nat:=if k%2=1 then p (k/2)else((olds[k/2]?).map (·.1)).getD 0
def ct0 (olds:W3):Ct:=fun k=>if k%2=1 then none else(olds[k/2]?).map (·.2)
theorem Kept.ro {S:List Nat}{w w':World}(h:Kept S w w'){b:Nat}{c:Array Value}{t:TypeId}(r:Row w b c t)(hb:b∉S:=by simp<;>omega):Row w' b c t:=h.row r hb
theorem kk {S:List Nat}{w w1 w2:World}(h:Below w.heap.size w w1)(k:Kept S w1 w2)(hS: ∀g∈S,w.heap.size<=g:=by simp<;>omega):Below w.heap.size w w2:=h.trans (k.below w.heap.size h.size hS)
theorem k_b {S:List Nat}{w w':World}(k:Kept S w w')(hS: ∀g∈S,w.heap.size<=g:=by simp):Below w.heap.size w w':=k.below w.heap.size (c_ _) hS
theorem b_o {w w1 w2:World}(h:Below w.heap.size w w1)(k:Below w1.heap.size w1 w2):Below w.heap.size w w2:=Zk h (c_ _) k
theorem l_l {a b c:Nat}(h:a<b)(k:b<=c):a<c:=l_ h k
def VD (w:World):W3->Prop
 |[]=>True
 |x::l=>Row w x.1 x.2.2 x.2.1/\VD w l
structure Eff (olds:W3)(p:Nat->Nat)(n:Nat)(ct:Ct)(s:Sp)(w:World)(v:Value)(w2:World):Prop where
 os:w2.os=w.os
 tape:w2.tape=w.tape
 output:w2.output=w.output
 size:w.heap.size<=w2.heap.size
 block: ∀b,b<w.heap.size->(∀x∈s.2.2.2,b≠Z8 olds p x.1)->w2.heap[b]?=w.heap[b]?
 filled: ∀x∈s.2.2.2,∀y,ct x.1=some y->Row w2 (Z8 olds p x.1) x.2 y.1
 made:(s.2.2.1=none/\v=s.1 p)∨ ∃m g,s.2.2.1=some m/\v=s.1 (upd p n g)/\w.heap.size<=g/\Row w2 g m.2 m.1
def Yu (P:Program)(E:Value->World->Prop)(w:World):Result Next->Prop
 | .ok (.value u) w'=>E u w'
 | .ok .skip w'=>E undef w'
 | .ok (.enter f args) w'=>w'=w/\Calls P f args w fun e w''=> ∃v,e= .returned v/\E v w''
 |_=>False
theorem PH {o:Oper}{a:Act}{w:World}{E:Value->World->Prop}{K:Act->World->Prop}{Q:Exit->Act->World->Prop}(h:Yu P E w ((execOp a.eval o).run P w))(hK: ∀v w2,E v w2->K (a.put o.dst v) w2):o.wp P a w K Q:=by
 unfold Oper.wp;generalize (execOp a.eval o).run P w=r at*
 cases r with
 |ok n w'=>
  cases n<;>simp only[Yu]at h<;>simp only[Oper.upon]
  case value u=>exact hK _ _ h
  case skip=>exact hK _ _ h
  case enter f args=>
   obtain⟨e1,hc⟩:=h;rw[e1]
   exact hc.mono fun e w'' ⟨v,he,hE⟩=>by subst he;exact hK _ _ hE
 |halt x w'=>simp only[Yu]at h
def Ob (P:Program)(olds:W3)(p:Nat->Nat)(W:World)(n:Nat)(ct:Ct)(o:Oper)(a:Act)(s:Sp):Prop:=
 Loc n s/\(∀x∈s.2.2.2,∃y,ct x.1=some y)/\ ∀w,Kept (olds.map (·.1)) W w->(∀k∈W2 s,∀y,ct k=some y->Row w (Z8 olds p k) y.2 y.1)->Yu P (Eff olds p n ct s w) w ((execOp a.eval o).run P w)
def Obs (P:Program)(olds:W3)(p:Nat->Nat)(W:World)(F:Act->Ct->Prop):Nat->List Oper->List Sp->Act->Ct->Prop
 |_,[],[],a,ct=>F a ct
 |n,o::l,s::pl,a,ct=>Ob P olds p W n ct o a s/\Obs P olds p W F (n+1) l pl (a.put o.dst (spV p s)) (spC n s ct)
 |_,_,_,_,_=>False
theorem LN {olds:W3}{p:Nat->Nat}{W:World}{F:Act->Ct->Prop}: ∀(l:List Oper) (pl:List Sp) (n:Nat) (a:Act) (ct:Ct),Obs P olds p W F n l pl a ct->l.length=pl.length
 |[],[],_,_,_,_=>rfl
 |_::l,_::pl,_,_,_,h=>by simp[LN l pl _ _ _ h.2]
 |[],_::_,_,_,_,h=>h.elim
 |_::_,[],_,_,_,h=>h.elim
theorem Ey {olds:W3}{p:Nat->Nat}{W:World}{F:Act->Ct->Prop}: ∀(l:List Oper) (pl:List Sp) (n i:Nat) (a:Act) (ct:Ct) (x:Oper×Sp),Obs P olds p W F n l pl a ct->(l.zip pl)[i]?=some x->
  Ob P olds p W (n+i) (ctD (fun j=>decide (j<n+i)) n (l.zip pl) ct) x.1 (UA p (fun j=>decide (j<n+i)) n (l.zip pl) a) x.2
 |[],[],_,_,_,_,_,_,h=>by simp at h
 |o::l,s::pl,n,0,a,ct,x,h,hx=>by
  obtain rfl:(o,s)=x:=by simpa using hx
  rw[Tp _ _ _ (fun j hj=>by simp;omega),V9 _ _ _ (fun j hj=>by simp;omega)];exact h.1
 |o::l,s::pl,n,i+1,a,ct,x,h,hx=>by
  have:=Ey l pl (n+1) i _ _ x h.2 (by simpa using hx);rw[show n+1+i=n+(i+1) by omega]at this;rw[List.zip_cons_cons];unfold ctD UA;rw[j_ (by simp),j_ (by simp)];exact this
 |[],_::_,_,_,_,_,_,h,_=>h.elim
 |_::_,[],_,_,_,_,_,h,_=>h.elim
theorem LO {olds:W3}{p:Nat->Nat}{W:World}{F:Act->Ct->Prop}{d:Nat->Bool}: ∀(l:List Oper) (pl:List Sp) (n:Nat) (a:Act) (ct:Ct),Obs P olds p W F n l pl a ct->(∀j,n<=j->j<n+l.length->d j=true)->
  F (UA p d n (l.zip pl) a) (ctD d n (l.zip pl) ct)
 |[],[],_,_,_,h,_=>h
 |o::l,s::pl,n,a,ct,h,hd=>by
  rw[List.zip_cons_cons];unfold ctD UA;have h0:=hd n (c_ _) (by simp);rw[j_ h0,j_ h0];exact LO l pl (n+1) _ _ h.2 fun j h1 h2=>hd j (by omega) (by simp;omega)
 |[],_::_,_,_,_,h,_=>h.elim
 |_::_,[],_,_,_,h,_=>h.elim
theorem O3: ∀(l:List (Oper×Sp)) (n i:Nat) (ct:Ct) (x:Oper×Sp),l[i]?=some x->ctD (fun j=>decide (j<n+i+1)) n l ct=spC (n+i) x.2 (ctD (fun j=>decide (j<n+i)) n l ct)
 |[],_,_,_,_,h=>by simp at h
 |y::l,n,0,ct,x,h=>by
  obtain rfl:y=x:=by simpa using h
  unfold ctD;rw[j_ (by simp),i_ (by simp),V9 _ _ _ (fun j hj=>by simp;omega),V9 _ _ _ (fun j hj=>by simp;omega)];rfl
 |y::l,n,i+1,ct,x,h=>by
  have:=O3 l (n+1) i (spC n y.2 ct) x (by simpa using h);rw[show n+1+i=n+(i+1) by omega]at this;unfold ctD;rw[j_ (by simp;omega),j_ (by simp)];exact this
theorem UC {w:World}: ∀(olds:W3) (n:Nat) (x:Nat×TypeId×Array Value),VD w olds->olds[n]?=some x->Row w x.1 x.2.2 x.2.1
 |[],_,_,_,h=>by simp at h
 |y::l,0,x,h,hx=>by
  obtain rfl:y=x:=by simpa using hx
  exact h.1
 |y::l,n+1,x,h,hx=>UC l n x h.2 (by simpa using hx)
structure MX (P:Program)(olds:W3)(p:Nat->Nat)(W:World)(F:Act->Ct->Prop)(n:Nat)(l:List Oper)(pl:List Sp)(a:Act)(ct:Ct):Prop where
 out:Obs P olds p W F n l pl a ct
def AM (olds:W3)(p:Nat->Nat)(W:World)(Q:Exit->Act->World->Prop):Act->Ct->Prop:=fun a ct=>
 ∀w,Kept (olds.map (·.1)) W w->(∀k y,ct k=some y->Row w (Z8 olds p k) y.2 y.1)->(∀i,(ct (2*i+1)).isSome=true->W.heap.size<=p i)->
  (∀i j,i≠j->(ct (2*i+1)).isSome=true->(ct (2*j+1)).isSome=true->p i≠p j)->Q .normal a w
theorem O4 (olds:W3)(p:Nat->Nat)(i:Nat):Z8 olds p (2*i+1)=p i:=by
 unfold Z8;rw[j_ (by omega),show(2*i+1)/2=i by omega]
structure St (olds:W3)(p:Nat->Nat)(W w:World)(ct:Ct):Prop where
 kept:Kept (olds.map (·.1)) W w
 row: ∀k y,ct k=some y->Row w (Z8 olds p k) y.2 y.1
 even: ∀k y,ct k=some y->k%2=0-> ∃q,olds[k/2]?=some q
 new: ∀i,(ct (2*i+1)).isSome=true->W.heap.size<=p i
 apart: ∀i j,i≠j->(ct (2*i+1)).isSome=true->(ct (2*j+1)).isSome=true->p i≠p j
theorem Ml {olds:W3}{p p':Nat->Nat}{k:Nat}(h:k%2=1->p (k/2)=p' (k/2)):Z8 olds p k=Z8 olds p' k:=by
 unfold Z8;by_cases e:k%2=1
 ·rw[j_ e,j_ e,h e]
 ·rw[i_ e,i_ e]
theorem St.place {olds:W3}{p:Nat->Nat}{W w:World}{ct:Ct}(h:St olds p W w ct)(hr:VD W olds){k:Nat}{y:TypeId×Array Value}(hk:ct k=some y):
  (k%2=1/\Z8 olds p k=p (k/2)/\W.heap.size<=p (k/2))∨(k%2=0/\ ∃q,olds[k/2]?=some q/\Z8 olds p k=q.1/\q.1<W.heap.size):=by
 have hc:k%2=0∨k%2=1:=by omega
 rcases hc with hc|hc
 ·obtain⟨q,hq⟩:=h.even k y hk hc;refine .inr ⟨hc,q,hq,?_,(UC olds _ q hr hq).lt⟩;unfold Z8;rw[i_ (by omega),hq];rfl
 ·refine .inl ⟨hc,by unfold Z8;rw[j_ hc],h.new (k/2) ?_⟩;rw[show 2*(k/2)+1=k by omega,hk];rfl
theorem St.far {olds:W3}{p:Nat->Nat}{W w:World}{ct:Ct}(h:St olds p W w ct)(hr:VD W olds)(hn:(olds.map (·.1)).Nodup){k m:Nat}{y u:TypeId×Array Value}(hk:ct k=some y)(hm:ct m=some u)(hne:k≠m):
  Z8 olds p k≠Z8 olds p m:=by
 rcases h.place hr hk with ⟨h1,e1,l1⟩|⟨h1,q,hq,e1,l1⟩<;>rcases h.place hr hm with ⟨h2,e2,l2⟩|⟨h2,q',hq',e2,l2⟩
 ·rw[e1,e2];refine h.apart (k/2) (m/2) (by omega) ?_ ?_
  ·rw[show 2*(k/2)+1=k by omega,hk];rfl
  ·rw[show 2*(m/2)+1=m by omega,hm];rfl
 ·rw[e1,e2];omega
 ·rw[e1,e2];omega
 ·rw[e1,e2];intro e
  have hi1:(olds.map (·.1))[k/2]?=some q.1:=by rw[cV0,hq];rfl
  have hi2:(olds.map (·.1))[m/2]?=some q.1:=by rw[cV0,hq',e];rfl
  have:=(List.getElem?_inj (eA0.1 hi1).1 hn).1 (hi1.trans hi2.symm);omega
theorem O5 {olds:W3}{p:Nat->Nat}{W w:World}(hr:VD W olds)(hk:Kept (olds.map (·.1)) W w)(hh:w.heap=W.heap):St olds p W w (ct0 olds):=by
 refine⟨hk,fun k y hy=>?_,fun k y hy he=>?_,fun i hi=>?_,fun i j _ hi=>?_⟩
 ·unfold ct0 at hy;unfold Z8
  split at hy
  ·cases hy
  ·rename_i hk'
   rw[i_ hk']
   cases hq:olds[k/2]? with
   |none=>rw[hq]at hy;cases hy
   |some q=>
    rw[hq]at hy;obtain rfl:q.2=y:=by simpa using hy
    have r:=UC olds _ q hr hq;unfold Row at r ⊢;rw[hh];exact r
 ·unfold ct0 at hy;rw[i_ (by omega)]at hy
  cases hq:olds[k/2]? with
  |none=>rw[hq]at hy;cases hy
  |some q=>exact⟨q,rfl⟩
 ·unfold ct0 at hi;rw[j_ (by omega)]at hi;cases hi
 ·unfold ct0 at hi;rw[j_ (by omega)]at hi;cases hi
theorem WD {i k:Nat}{s:Sp}{ct:Ct}{y:TypeId×Array Value}(h:spC i s ct k=some y):(s.2.2.1=some y/\k=2*i+1)∨(∃u,ct k=some u):=by
 unfold spC at h
 cases hm:s.2.2.1 with
 |none=>
  rw[hm]at h
  cases hf:Uz s.2.2.2 k with
  |none=>rw[hf]at h;exact .inr ⟨y,h⟩
  |some c=>
   rw[hf]at h
   cases hc:ct k with
   |none=>rw[hc]at h;cases h
   |some u=>exact .inr ⟨u,rfl⟩
 |some m=>
  by_cases e:k=2*i+1
  ·rw[hm,d_ e]at h;exact .inl ⟨h,e⟩
  ·rw[hm,e_ e]at h
   cases hf:Uz s.2.2.2 k with
   |none=>rw[hf]at h;exact .inr ⟨y,h⟩
   |some c=>
    rw[hf]at h
    cases hc:ct k with
    |none=>rw[hc]at h;cases h
    |some u=>exact .inr ⟨u,rfl⟩
theorem LP {olds:W3}{p:Nat->Nat}{W w w2:World}{ct ctO:Ct}{i:Nat}{s:Sp}{v:Value}(hs:St olds p W w ct)(hr:VD W olds)(hn:(olds.map (·.1)).Nodup)(h2:ct (2*i+1)=none)(hag: ∀k∈W2 s,ct k=ctO k)
  (hfil: ∀x∈s.2.2.2,∃y,ctO x.1=some y)(E:Eff olds p i ctO s w v w2): ∃p',(∀j,j≠i->p' j=p j)/\(s.2.2.1=none->p'=p)/\v=spV p' s/\St olds p' W w2 (spC i s ct):=by
 obtain⟨g,p',hp',hpn,hv,hm⟩: ∃(g:Nat) (p':Nat->Nat),(∀j,j≠i->p' j=p j)/\(s.2.2.1=none->p'=p)/\v=s.1 p'/\ ∀m,s.2.2.1=some m->p' i=g/\w.heap.size<=g/\Row w2 g m.2 m.1:=by
  rcases E.made with ⟨h1,h3⟩|⟨m,g,h1,h3,h4,h5⟩
  ·exact⟨0,p,fun _ _=>rfl,fun _=>rfl,h3,fun m hm=>by rw[h1]at hm;cases hm⟩
  ·exact⟨g,upd p i g,fun j hj=>Qj p g hj,fun hn'=>(by rw[h1]at hn';cases hn'),h3,fun m' hm=>by rw[h1]at hm;cases hm;exact⟨Y5 p i g,h4,h5⟩⟩
 have hfk: ∀x∈s.2.2.2,x.1∈W2 s:=fun x hx=>bU0 _ (eZ0.2 ⟨x,hx,rfl⟩)
 have hfc: ∀x∈s.2.2.2,∃y,ct x.1=some y/\ctO x.1=some y:=fun x hx=>by
  obtain⟨y,hy⟩:=hfil x hx;exact⟨y,(hag _ (hfk x hx)).trans hy,hy⟩
 have hadd: ∀k y,ct k=some y->Z8 olds p' k=Z8 olds p k:=fun k y hy=>Ml fun ho=>
  hp' _ fun e=>by rw[show k=2*i+1 by omega,h2]at hy;cases hy
 refine⟨p',hp',hpn,hv,⟨⟨E.os.trans hs.kept.os,E.tape.trans hs.kept.tape,E.output.trans hs.kept.output,f_ hs.kept.size E.size,fun b hb hS=>?_⟩,fun k y hy=>?_,fun k y hy he=>?_,fun j hj=>?_,fun j j' hne hj hj'=>?_⟩⟩
 ·refine(E.block b (l_ hb hs.kept.size) fun x hx e=>?_).trans (hs.kept.block b hb hS);obtain⟨y,hy,_⟩:=hfc x hx;rcases hs.place hr hy with ⟨_,e1,l1⟩|⟨_,q,hq,e1,_⟩
  ·omega
  ·exact hS (by rw[e,e1];exact eZ0.2 ⟨q,List.mem_of_getElem? hq,rfl⟩)
 ·rcases WD hy with ⟨h1,e⟩|⟨u,hu⟩
  ·subst e;rw[O4,(hm y h1).1];exact(hm y h1).2.2
  ·rw[hadd k u hu]
   have hk:k≠2*i+1:=fun e=>by rw[e,h2]at hu;cases hu
   by_cases hf:k∈s.2.2.2.map (·.1)
   ·obtain⟨c,hc,e⟩:=O0 hf (.inr hk) ct;rw[e,hu]at hy;obtain rfl:(u.1,c)=y:=aI0 hy;obtain⟨u',hu',hO⟩:=hfc _ hc;obtain rfl:u'=u:=aI0 (hu'.symm.trans hu);exact E.filled (k,c) hc u' hO
   ·rw[X7 ct (fun hh=>by
     rcases fT0.1 hh with h3|h3
     ·cases hmm:s.2.2.1 with
      |none=>rw[hmm]at h3;cases h3
      |some m=>rw[hmm]at h3;exact hk (D_.1 h3)
     ·exact hf h3)]at hy
    have r:=hs.row k y hy;refine(E.block _ r.lt fun x hx=>?_).trans r;obtain⟨y',hy',_⟩:=hfc x hx;exact hs.far hr hn hy hy' fun e=>hf (eZ0.2 ⟨x,hx,e.symm⟩)
 ·rcases WD hy with ⟨_,e⟩|⟨u,hu⟩
  ·omega
  ·exact hs.even k u hu he
 ·obtain⟨y,hy⟩:=eF0.1 hj;rcases WD hy with ⟨h1,e⟩|⟨u,hu⟩
  ·rw[show j=i by omega,(hm y h1).1];exact f_ hs.kept.size (hm y h1).2.1
  ·rw[hp' j fun e=>by rw[e,h2]at hu;cases hu];exact hs.new j (by rw[hu];rfl)
 ·have hlt: ∀m,m≠i->(spC i s ct (2*m+1)).isSome=true->(ct (2*m+1)).isSome=true/\p m<w.heap.size:=fun m hmi hsm=>by
   obtain⟨y,hy⟩:=eF0.1 hsm;rcases WD hy with ⟨_,e⟩|⟨u,hu⟩
   ·omega
   ·have:=(hs.row _ u hu).lt;rw[O4]at this;exact⟨by rw[hu];rfl,this⟩
  have hg: ∀m,m=i->(spC i s ct (2*m+1)).isSome=true->w.heap.size<=p' m:=fun m hmi hsm=>by
   subst hmi;obtain⟨y,hy⟩:=eF0.1 hsm;rcases WD hy with ⟨h1,_⟩|⟨u,hu⟩
   ·rw[(hm y h1).1];exact(hm y h1).2.1
   ·rw[h2]at hu;cases hu
  by_cases e:j=i
  ·rw[hp' j' (by omega)];have:=hg j e hj;have:=(hlt j' (by omega) hj').2;omega
  ·rw[hp' j e];by_cases e':j'=i
   ·have:=hg j' e' hj';have:=(hlt j e hj).2;omega
   ·rw[hp' j' e'];exact hs.apart j j' hne (hlt j e hj).1 (hlt j' e' hj').1
theorem SF {d:Nat->Bool}{i:Nat}(hd:d i=false): ∀(l:List (Oper×Sp)) (n:Nat) (ct:Ct),ct (2*i+1)=none->ctD d n l ct (2*i+1)=none
 |[],_,_,h=>h
 |x::l,n,ct,h=>by
  unfold ctD;refine SF hd l (n+1) _ ?_;by_cases e:d n=true
  ·rw[j_ e]
   cases hc:spC n x.2 ct (2*i+1)with
   |none=>rfl
   |some y=>
    rcases WD hc with ⟨_,e'⟩|⟨u,hu⟩
    ·rw[show n=i by omega,hd]at e;cases e
    ·rw[h]at hu;cases hu
  ·rw[i_ e];exact h
theorem Zi {id:Nat}{l:List Oper}{a:Act}{W:World}{Q:Exit->Act->World->Prop}(hm:P.follows .mixedOrders=true)(olds:W3)(plan:List Sp)(hr:VD W olds)(hn:(olds.map (·.1)).Nodup)
  (h: ∀p,MX P olds p W (AM olds p W Q) 0 l plan a (ct0 olds))(hchk:chk (l.zip plan)=true):(Code.region id l.toArray true).wp P Q a W:=by
 have hlen:l.length=plan.length:=LN l plan _ _ _ (h fun _=>0).out
 have hobs: ∀p i x,(l.zip plan)[i]?=some x->Ob P olds p W i (ctD (fun j=>decide (j<i)) 0 (l.zip plan) (ct0 olds)) x.1 (UA p (fun j=>decide (j<i)) 0 (l.zip plan) a) x.2:=fun p i x hx=>by
  have:=Ey l plan 0 i a (ct0 olds) x (h p).out hx;rw[B_]at this;exact this
 have hend: ∀p (d:Nat->Bool),(∀j,j<l.length->d j=true)->AM olds p W Q (UA p d 0 (l.zip plan) a) (ctD d 0 (l.zip plan) (ct0 olds)):=fun p d hd=>
  LO l plan 0 a (ct0 olds) (h p).out fun j _ hj=>hd j (by omega)
 have hzip: ∀i o,l[i]?=some o-> ∃s,(l.zip plan)[i]?=some (o,s):=fun i o ho=>by
  have hi:i<l.length:=(eA0.1 ho).1;refine⟨plan[i]'(by omega),?_⟩;rw[List.getElem?_zip_eq_some];exact⟨ho,by simp⟩
 generalize l.zip plan=z at*;clear h
 have hC: ∀i x,z[i]?=some x->(∀cs b,x.1.op≠ .select cs b)/\x.1.guard.isNone=true/\(∀e∈x.1.after,Region.binds .any e=true->e.on<i)/\(∀k∈W2 x.2,k%2=0∨k/2<i)/\ ∀j y,z[j]?=some y->PG z x i y j=true:=by
  intro i x hx
  have h1:(x,i)∈z.zipIdx:=by rw[bL0];exact hx
  have h2:=aQ0.1 hchk _ h1;simp only[s_]at h2;obtain⟨⟨⟨⟨a1,a2⟩,a3⟩,a4⟩,a5⟩:=h2;refine⟨fun cs b e=>(by rw[e]at a1;cases a1),a2,fun e he hb=>?_,fun k hk=>?_,fun j y hy=>?_⟩
  ·have:=bZ0.1 a3 e he;rw[hb]at this
   simpa using this
  ·have:=aQ0.1 a4 k hk
   simpa using this
  ·have h3:(y,j)∈z.zipIdx:=by rw[bL0];exact hy
   exact aQ0.1 a5 _ h3
 have hP: ∀i x,z[i]?=some x-> ∀j y,z[j]?=some y->j≠i->
   (∀s,y.1.dst=some s->x.1.dst≠some s/\(s∈x.1.looksAt #[]->(j<i/\XS z z.length i j=true)∨(i<j/\XS z z.length j i=true)))/\
   (∀k,k∈Lz j y.2->k∈W2 x.2->(j<i->XS z z.length i j=true)/\(i<j->XS z z.length j i=true)):=by
  intro i x hx j y hy hne;have h1:=(hC i x hx).2.2.2.2 j y hy;unfold PG at h1;rw[show(j==i)=false by simpa using hne,dU0,s_]at h1;refine⟨fun s hs=>?_,fun k hk hmem=>?_⟩
  ·have h2:=h1.1;rw[hs]at h2;simp only[s_,bQ0,bne_iff_ne,ne_eq,dI0,dJ0]at h2;refine⟨h2.1,fun hl=>?_⟩;rcases h2.2 with h3|h3
   ·rw[fA0.2 hl]at h3;cases h3
   ·exact h3
  ·have h2:=aQ0.1 h1.2 k hk;simp only[bQ0,dI0]at h2;rcases h2 with h3|h3
   ·rw[fA0.2 hmem]at h3;cases h3
   ·refine⟨fun hj=>?_,fun hj=>?_⟩
    ·rw[j_ hj]at h3;exact h3
    ·rw[i_ (by omega)]at h3;exact h3
 refine VC hm (fun d a' w'=> ∃p,a'=UA p d 0 z a/\St olds p W w' (ctD d 0 z (ct0 olds))/\
  (∀i x,z[i]?=some x->d i=true-> ∀e∈x.1.after,Region.binds .any e=true->d e.on=true)) ?lex ?start ?step ?fin
 case lex=>
  rw[aQ0];intro x hx;obtain⟨s,hs⟩:=hzip x.2 x.1 (bL0.1 hx);obtain⟨_,h2,h3,_⟩:=hC _ _ hs;rw[s_];refine⟨h2,?_⟩;rw[bZ0];intro e he;cases hb:Region.binds .any e
  ·rfl
  ·simpa using h3 e he hb
 case start=>
  refine⟨fun _=>0,(Tp _ _ _ fun _ _=>rfl).symm,?_,fun i x _ hd=>by cases hd⟩;rw[V9 _ _ _ (fun _ _=>rfl)];exact O5 hr ⟨rfl,rfl,rfl,c_ _,fun _ _ _=>rfl⟩ rfl
 case fin=>
  rintro d a' w' ⟨p,rfl,hs,_⟩ hd;exact hend p d hd w' hs.kept hs.row hs.new hs.apart
 case step=>
  rintro i o ho d a' w' ⟨p,rfl,hst,hcl⟩ hd hpre;obtain⟨s,hx⟩:=hzip i o ho;obtain⟨hsel,_,_,hkeys,_⟩:=hC i _ hx;have hwait: ∀j,XS z z.length i j=true->d j=true:=fun j hj=>X8 hcl _ i j _ hx hpre hj
  have hlater: ∀j y,z[j]?=some y->XS z z.length j i=true->d j=false:=fun j y hy hj=>by
   cases hdj:d j
   ·rfl
   ·rw[X8 hcl _ j i y hy (hcl j y hy hdj) hj]at hd;cases hd
  have E:execOp (UA p d 0 z a).eval o=execOp (UA p (fun j=>decide (j<i)) 0 z a).eval o:=by
   refine execOp_congr o hsel fun y hy=>?_
   cases y with
   |tmp t=>
    refine Qk z 0 a a (fun j x' hj hdst=>?_) rfl rfl;rw[B_];by_cases hji:j=i
    ·subst hji;rw[hd];simp
    ·have hl:t∈o.looksAt #[]:=cZ0 _ (List.mem_filterMap.2 ⟨.tmp t,by simpa using hy,rfl⟩);rcases((hP i _ hx j x' hj hji).1 t hdst).2 hl with ⟨h1,h2⟩|⟨h1,h2⟩
     ·rw[hwait j h2];simp[h1]
     ·rw[hlater j x' hj h2];simp;omega
   |_=>rfl
  have CT: ∀k∈W2 s,ctD d 0 z (ct0 olds) k=ctD (fun j=>decide (j<i)) 0 z (ct0 olds) k:=fun k hk'=>by
   refine V8 z 0 _ _ (fun j y hj hh=>?_) rfl;rw[B_]at hh ⊢;by_cases hji:j=i
   ·subst hji;rw[hd];simp
   ·obtain⟨h1,h2⟩:=(hP i _ hx j y hj hji).2 k hh hk';rcases aC0 j i with hlt|hge
    ·rw[hwait j (h1 hlt)];simp[hlt]
    ·rw[hlater j y hj (h2 (by omega))];simp;omega
  have h2i:ctD d 0 z (ct0 olds) (2*i+1)=none:=SF hd z 0 _ (by unfold ct0;rw[j_ (by omega)])
  have CC:ctD (fun j=>j==i||d j) 0 z (ct0 olds)=spC i s (ctD d 0 z (ct0 olds)):=by
   funext k
   by_cases hk:k∈Lz i s
   ·have hu:=O3 z 0 i (ct0 olds) _ hx;rw[B_]at hu
    have h1:ctD (fun j=>j==i||d j) 0 z (ct0 olds) k=spC i s (ctD (fun j=>decide (j<i)) 0 z (ct0 olds)) k:=by
     rw[<-hu];refine V8 z 0 _ _ (fun j y hj hh=>?_) rfl;rw[B_]at hh ⊢;by_cases hji:j=i
     ·subst hji;simp
     ·rw[show(j==i)=false by simpa using hji,dU0]
      have hmain:(j<i->XS z z.length i j=true)/\(i<j->XS z z.length j i=true):=by
       rcases fT0.1 hk with h3|h3
       ·have hk2:k=2*i+1:=by
         cases hmm:s.2.2.1 with
         |none=>rw[hmm]at h3;cases h3
         |some m=>rw[hmm]at h3;exact D_.1 h3
        rcases fT0.1 hh with h4|h4
        ·exfalso
         cases hmm:y.2.2.2.1 with
         |none=>rw[hmm]at h4;cases h4
         |some m=>
          rw[hmm]at h4;have:=D_.1 h4;omega
        ·have hkk:k∈W2 y.2:=bU0 _ h4;have h5:=(hP j y hj i _ hx (fun e=>hji e.symm)).2 k hk hkk;have h6:=(hC j y hj).2.2.2.1 _ hkk;exact⟨fun hlt=>by omega,fun hlt=>h5.1 hlt⟩
       ·exact(hP i _ hx j y hj hji).2 k hh (bU0 _ h3)
      rcases aC0 j i with hlt|hge
      ·rw[hwait j (hmain.1 hlt)];simp;omega
      ·rw[hlater j y hj (hmain.2 (by omega))];simp;omega
    rw[h1];rcases fT0.1 hk with h3|h3
    ·cases hmm:s.2.2.1 with
     |none=>rw[hmm]at h3;cases h3
     |some m=>
      rw[hmm]at h3;rw[D_.1 h3,Re hmm,Re hmm]
    ·exact OZ s (CT k (bU0 _ h3)).symm
   ·rw[X7 _ hk];refine V8 z 0 _ _ (fun j y hj hh=>?_) rfl;rw[B_]at hh ⊢;by_cases hji:j=i
    ·subst hji;rw[hx]at hj;obtain rfl:(o,s)=y:=by simpa using hj
     exact absurd hh hk
    ·rw[show(j==i)=false by simpa using hji];rfl
  have hcl': ∀i' x',z[i']?=some x'->(i'==i||d i')=true-> ∀e∈x'.1.after,Region.binds .any e=true->(e.on==i||d e.on)=true:=fun i' x' hx' hd' e he hb=>by
   by_cases hii:i'=i
   ·subst hii;rw[hx]at hx';obtain rfl:(o,s)=x':=by simpa using hx'
    rw[hpre e he hb,fQ0]
   ·rw[show(i'==i)=false by simpa using hii,dU0]at hd';rw[hcl i' x' hx' hd' e he hb,fQ0]
  have hadd: ∀p':Nat->Nat,(∀j,j≠i->p' j=p j)->(s.2.2.1=none->p'=p)->(UA p d 0 z a).put o.dst (spV p' s)=UA p' (fun j=>j==i||d j) 0 z a:=fun p' hp' hpn=>by
   have:=O2 (p:=p') (d:=d) z 0 i a _ hx (by rw[B_];exact hd) (fun j y hj hji t ht=>by
    intro e
    exact((hP i _ hx j y hj hji).1 t e).1 ht)
   rw[B_]at this;rw[this,UB (p':=p') (d':=d) z 0 a (fun _ _=>rfl) (fun j y hj hdj=>?_)];rw[B_]at hdj
   cases hmm:s.2.2.1 with
   |none=>rw[hpn hmm]
   |some m=>
    have hji:j≠i:=fun e=>by rw[e,hd]at hdj;cases hdj
    refine(hobs p j _ hj).1.same (hp' j hji).symm fun m' hm' hr'=>(hp' m' fun e=>?_).symm
    subst e;have hk:2*m'+1∈Lz m' s:=cZ0 _ (by rw[hmm];exact D_.2 rfl);have h5:=((hP j y hj m' _ hx (fun e=>hji e.symm)).2 _ hk (cZ0 _ hr')).1 hm';rw[X8 hcl _ j m' y hj (hcl j y hj hdj) h5]at hd;cases hd
  obtain⟨_,hfil,hob⟩:=hobs p i _ hx;have hq:=hob w' hst.kept fun k hkk y hy=>hst.row k y (by rw[CT k hkk];exact hy)
  rw[<-E]at hq;refine⟨PH hq fun v w2 hE=>?_⟩;obtain⟨p',hp',hpn,hv,hs'⟩:=LP hst hr hn h2i (fun k hk=>CT k hk) hfil hE;refine⟨p',?_,by rw[CC];exact hs',hcl'⟩;rw[hv];exact hadd p' hp' hpn
theorem Ql {ops:Array Oper}{W:World}{Q:Exit->Act->World->Prop}{olds:W3}(hr:VD W olds)(hn:(olds.map (·.1)).Nodup): ∀(l:List Oper) (pl:List Sp) (n:Nat) (a:Act) (ct:Ct) (w:World) (p:Nat->Nat),
  (∀p',(∀j,j<n->p' j=p j)->Obs P olds p' W (AM olds p' W Q) n l pl a ct)->St olds p W w ct->(∀i,(ct (2*i+1)).isSome=true->i<n)->(l.all fun o=>o.guard.isNone)=true->wpList P ops Q l a w
 |[],[],n,a,ct,w,p,h,hs,_,_=>(h p fun _ _=>rfl) w hs.kept hs.row hs.new hs.apart
 |o::l,s::pl,n,a,ct,w,p,h,hs,hi,hg=>by
  rw[List.all_cons,s_]at hg;have hgd:o.guard=none:=by simpa using hg.1
  refine gQ0 hgd fun K hK=>?_
  obtain⟨hloc,hfil,hob⟩:=(h p fun _ _=>rfl).1
  have h2:ct (2*n+1)=none:=by
   cases hc:ct (2*n+1)with
   |none=>rfl
   |some y=>have:=hi n (by rw[hc];rfl);omega
  refine PH (hob w hs.kept fun k _ y hy=>hs.row k y hy) fun v w2 hE=>hK _ _ ?_
  obtain⟨p',hp',_,hv,hs'⟩:=LP hs hr hn h2 (fun _ _=>rfl) hfil hE;rw[hv];refine Ql hr hn l pl (n+1) _ _ w2 p' (fun q hq=>?_) hs' (fun i hsm=>?_) hg.2
  ·have h3:=(h q fun j hj=>(hq j (by omega)).trans (hp' j (by omega))).2;have h4:spV q s=spV p' s:=hloc.same (hq n (by omega)) fun j hj _=>hq j (by omega)
   rw[h4]at h3;exact h3
  ·obtain⟨y,hy⟩:=eF0.1 hsm;rcases WD hy with ⟨_,e⟩|⟨u,hu⟩
   ·omega
   ·have:=hi i (by rw[hu];rfl);omega
 |[],_::_,_,_,_,_,p,h,_,_,_=>(h p fun _ _=>rfl).elim
 |_::_,[],_,_,_,_,p,h,_,_,_=>(h p fun _ _=>rfl).elim
theorem Za {id:Nat}{l:List Oper}{a:Act}{W:World}{Q:Exit->Act->World->Prop}(olds:W3)(plan:List Sp)(hr:VD W olds)(hn:(olds.map (·.1)).Nodup)
  (h: ∀p,MX P olds p W (AM olds p W Q) 0 l plan a (ct0 olds))(hg:(l.all fun o=>o.guard.isNone)=true):(Code.region id l.toArray false).wp P Q a W:=by
 refine wp_region_lit (Ql hr hn l plan 0 a (ct0 olds) W (fun _=>0) (fun p' _=>(h p').out) (O5 hr ⟨rfl,rfl,rfl,c_ _,fun _ _ _=>rfl⟩ rfl) (fun i hi=>?_) hg);unfold ct0 at hi;rw[j_ (by omega)]at hi;cases hi
end
section
variable {P:Program}{olds:W3}{p:Nat->Nat}{W:World}{F:Act->Ct->Prop}{n:Nat}{l:List Oper}{pl:List Sp}{a:Act}{ct:Ct}{o:Oper}
theorem YI (w:World)(g i:Nat)(ty:TypeId)(v:Value)(ha: ∀w,(isAgg ty).run P w= .ok false w)(hc:w.cell? ⟨g,i,none⟩=some v):(loadVar ty ⟨g,i,none⟩).run P w= .ok v w:=by
 unfold loadVar;simp[p_,ha,hc,go_sem]
theorem Sy (w:World)(g i:Nat)(ty:TypeId)(k:IntKind)(m:Int)(old:Value)(hz: ∀w,(sizeOf ty).run P w= .ok 1 w)(hc:w.cell? ⟨g,i,none⟩=some old)(hf:w.frozen? ⟨g,i,none⟩=false):
  (storeVar ty ⟨g,i,none⟩ (.int k m)).run P w= .ok () (w.setCell ⟨g,i,none⟩ (.int k m)):=by
 unfold storeVar;simp[p_,hz,hc,hf,go_sem,Value.cells,storeCells]
theorem Zf (h:F a ct):MX P olds p W F n [] [] a ct:=⟨h⟩
theorem PI (n:Nat)(f:(Nat->Nat)->Value)(r:List Nat)(ct:Ct):spC n (f,r,none,[]) ct=ct:=by
 funext k
 rfl
theorem Dx (n:Nat)(f:(Nat->Nat)->Value)(r:List Nat)(m:TypeId×Array Value)(ct:Ct):spC n (f,r,some m,[]) ct=XU ct (2*n+1) m:=by
 funext k
 unfold XU;by_cases e:k=2*n+1
 ·subst e;rw[j_ rfl];exact Re (s:=(f,r,some m,[])) rfl ct
 ·rw[i_ e];exact X7 (s:=(f,r,some m,[])) ct (by simp[Lz,e])
theorem LQ (n:Nat)(f:(Nat->Nat)->Value)(r:List Nat)(k:Nat)(c:Array Value)(ct:Ct){t:TypeId}{old:Array Value}(hct:ct k=some (t,old)):spC n (f,r,none,[(k,c)]) ct=XU ct k (t,c):=by
 funext j
 unfold XU;by_cases e:j=k
 ·subst e;rw[j_ rfl];obtain⟨c',hc',h⟩:=O0 (s:=(f,r,none,[(j,c)])) (i:=n) (k:=j) (by simp) (.inl rfl) ct;rw[h,hct];have:c'=c:=by simpa using hc'
  rw[this];rfl
 ·rw[i_ e];exact X7 (s:=(f,r,none,[(k,c)])) ct (by simp[Lz,e])
theorem Tq {s:Sp}(hs:s.2.2.1=none)(hf:s.2.2.2=[]){w w2:World}(hb:Below w.heap.size w w2)(v:Value)(hv:v=s.1 p):Eff olds p n ct s w v w2:=
 ⟨hb.os,hb.tape,hb.output,hb.size,fun b hlt _=>hb.block b hlt,fun x hx=>(by rw[hf]at hx;cases hx),.inl ⟨hs,hv⟩⟩
theorem Xu (v:Value)(ks:List Nat)(hr: ∀w,Kept (olds.map (·.1)) W w->(∀k∈ks,∀y,ct k=some y->Row w (Z8 olds p k) y.2 y.1)->(execOp a.eval o).run P w= .ok (.value v) w)
  (h:MX P olds p W F (n+1) l pl (a.put o.dst v) ct):MX P olds p W F n (o::l) ((fun _=>v,ks,none,[])::pl) a ct:=by
 refine⟨⟨⟨.inl ⟨v,rfl⟩,fun x hx=>(by cases hx),fun w hk hrw=>?_⟩,?_⟩⟩
 ·rw[hr w hk fun k hkk=>hrw k (cZ0 _ hkk)];exact Tq rfl rfl (H_ _ _) v rfl
 ·rw[PI];exact h.out
theorem Rf (f:FuncId)(vs:Array Value)(v:Value)(ks:List Nat)(hr: ∀w,(execOp a.eval o).run P w= .ok (.enter f vs) w)
  (hc: ∀w,Kept (olds.map (·.1)) W w->(∀k∈ks,∀y,ct k=some y->Row w (Z8 olds p k) y.2 y.1)->Calls P f vs w (Rt v w))
  (h:MX P olds p W F (n+1) l pl (a.put o.dst v) ct):MX P olds p W F n (o::l) ((fun _=>v,ks,none,[])::pl) a ct:=by
 refine⟨⟨⟨.inl ⟨v,rfl⟩,fun x hx=>(by cases hx),fun w hk hrw=>?_⟩,?_⟩⟩
 ·rw[hr w];exact⟨rfl,(hc w hk fun k hkk=>hrw k (cZ0 _ hkk)).mono fun e w' ⟨he,hb⟩=>⟨v,he,Tq rfl rfl hb v rfl⟩⟩
 ·rw[PI];exact h.out
theorem Tr (f:Nat->Value)(t:TypeId)(c:Array Value)(hr: ∀w,(execOp a.eval o).run P w= .ok (.value (f w.heap.size)) (w.alloc (.cells c t)))
  (h:MX P olds p W F (n+1) l pl (a.put o.dst (f (p n))) (XU ct (2*n+1) (t,c))):MX P olds p W F n (o::l) ((fun q=>f (q n),[],some (t,c),[])::pl) a ct:=by
 refine⟨⟨⟨.inr (.inl ⟨f,rfl⟩),fun x hx=>(by cases hx),fun w hk hrw=>?_⟩,?_⟩⟩
 ·rw[hr w];have hb:=Z6 (w:=w) (.cells c t);exact⟨hb.os,hb.tape,hb.output,hb.size,fun b hlt _=>hb.block b hlt,fun x hx=>(by cases hx),.inr ⟨_,w.heap.size,rfl,by show f _=f (upd p n _ n);rw[Y5],c_ _,Row.new _ _ _⟩⟩
 ·rw[Dx];exact h.out
structure Only (g:Nat)(w w':World):Prop where
 os:w'.os=w.os
 tape:w'.tape=w.tape
 output:w'.output=w.output
 size:w'.heap.size=w.heap.size
 block: ∀k,k≠g->w'.heap[k]?=w.heap[k]?
theorem PJ (k:Nat)(c:Array Value){t:TypeId}{old:Array Value}(hct:ct k=some (t,old))(hst: ∀w,Row w (Z8 olds p k) old t-> ∃w2,(execOp a.eval o).run P w= .ok .skip w2/\Row w2 (Z8 olds p k) c t/\Only (Z8 olds p k) w w2)
  (h:MX P olds p W F (n+1) l pl (a.put o.dst undef) (XU ct k (t,c))):MX P olds p W F n (o::l) ((fun _=>undef,[],none,[(k,c)])::pl) a ct:=by
 refine⟨⟨⟨.inl ⟨undef,rfl⟩,fun x hx=>?_,fun w hk hrw=>?_⟩,?_⟩⟩
 ·obtain rfl:x=(k,c):=D_.1 hx;exact⟨_,hct⟩
 ·obtain⟨w2,hr,r2,ho⟩:=hst w (hrw k (bU0 _ (D_.2 rfl)) _ hct);rw[hr];refine⟨ho.os,ho.tape,ho.output,by rw[ho.size];exact c_ _,fun b _ hne=>ho.block b (hne (k,c) (D_.2 rfl)),fun x hx y hy=>?_,.inl ⟨rfl,rfl⟩⟩;obtain rfl:x=(k,c):=D_.1 hx;obtain rfl:(t,old)=y:=aI0 (hct.symm.trans hy);exact r2
 ·rw[LQ n _ _ k c ct hct];exact h.out
theorem Ze (v:Value)(hr: ∀w,(execOp a.eval o).run P w= .ok (.value v) w)(h:MX P olds p W F (n+1) l pl (a.put o.dst v) ct):MX P olds p W F n (o::l) ((fun _=>v,[],none,[])::pl) a ct:=
 Xu v [] (fun w _ _=>hr w) h
theorem W4 {t:Tmp}{v:Value}(h:a.tmps.toList[t]?=some v):a.eval (.tmp t)=v:=by
 have h':a.tmps[t]?=some v:=by rw[<-o_];exact h
 simp[Act.eval,h']
theorem Dy {t:Tmp}{v:Value}(ho:o.op= .move (.tmp t))(hx:a.tmps.toList[t]?=some v)(h:MX P olds p W F (n+1) l pl (a.put o.dst v) ct):MX P olds p W F n (o::l) ((fun _=>v,[],none,[])::pl) a ct:=
 Ze v (fun w=>by unfold execOp;rw[ho];simp only[W4 hx];rfl) h
theorem AN {t:Tmp}{v:Value}(ho:o.op= .assign (.tmp t))(hx:a.tmps.toList[t]?=some v)(h:MX P olds p W F (n+1) l pl (a.put o.dst v) ct):MX P olds p W F n (o::l) ((fun _=>v,[],none,[])::pl) a ct:=
 Ze v (fun w=>by unfold execOp;rw[ho];simp only[W4 hx];rfl) h
theorem Ts (j:Nat)(vf:Nat->Value){t:Tmp}(ho:o.op= .assign (.tmp t)∨o.op= .move (.tmp t))(hj:j<n)(hx:a.tmps.toList[t]?=some (vf (p j)))(h:MX P olds p W F (n+1) l pl (a.put o.dst (vf (p j))) ct):
  MX P olds p W F n (o::l) ((fun q=>vf (q j),[2*j+1],none,[])::pl) a ct:=by
 refine⟨⟨⟨.inr (.inr ⟨j,vf,hj,D_.2 rfl,rfl⟩),fun x hx=>(by cases hx),fun w hk hrw=>?_⟩,?_⟩⟩
 ·have hr:(execOp a.eval o).run P w= .ok (.value (vf (p j))) w:=by
   unfold execOp
   rcases ho with ho|ho<;>rw[ho]<;>simp only[W4 hx]<;>rfl
  rw[hr];exact Tq rfl rfl (H_ _ _) _ rfl
 ·rw[PI];exact h.out
theorem AO {t:Tmp}{i:Nat}{vs:Array Value}{v:Value}(ho:o.op= .extract (.tmp t) i)(hx:a.tmps.toList[t]?=some (.tuple vs))(hv:vs.toList[i]?=some v)(h:MX P olds p W F (n+1) l pl (a.put o.dst v) ct):MX P olds p W F n (o::l) ((fun _=>v,[],none,[])::pl) a ct:=by
 have hv':vs[i]?=some v:=by rw[<-o_];exact hv
 refine Ze v (fun w=>?_) h;unfold execOp;rw[ho];simp only[W4 hx,Instr.extract];simp[hv']
theorem Dz {fn:Func}(f:FuncId)(args:Array Operand)(ts:Array TypeId)
  (ho:o.op= .call {callee:=.value (.func f),args:=args,argTypes:=ts})(hf:P.funcs[f]?=some fn)(hb:(fn.name== "runtime.NumGoroutine" ||fn.body.isNone)=false)
  (vs:Array Value)(hv':args.toList.map a.eval=vs.toList)(v:Value)
  (hc: ∀w,Calls P f vs w (Rt v w))
  (h:MX P olds p W F (n+1) l pl (a.put o.dst v) ct):MX P olds p W F n (o::l) ((fun _=>v,[],none,[])::pl) a ct:=by
 refine Rf f vs v [] (fun w=>?_) (fun w _ _=>hc w) h
 have hv:args.map a.eval=vs:=by apply bO0.1;rw[aR0];exact hv'
 have hr:=Z4 (P:=P) hf hb vs w;unfold execOp;simp only[ho,resolve,hv,Act.eval];simp[Deferred.ofValue,invoke,hr]
theorem m_c {fn:Func}(f:FuncId)(hf:P.funcs[f]?=some fn)(vs:Array Value){v:Value}(hc: ∀w,Calls P f vs w (Rt v w))(h:MX P olds p W F (n+1) l pl (a.put o.dst v) ct){args:Array Operand}{ts:Array TypeId}(ho:o.op= .call {callee:=.value (.func f),args:=args,argTypes:=ts}:=by exact rfl)(hb:(fn.name== "runtime.NumGoroutine" ||fn.body.isNone)=false:=by kernel_rfl)(hv':args.toList.map a.eval=vs.toList:=by exact rfl):MX P olds p W F n (o::l) ((fun _=>v,[],none,[])::pl) a ct:=Dz f args ts ho hf hb vs hv' v hc h
theorem Xv (ty:TypeId)(x:Operand)(ho:o.op= .load ty x)(g:Nat)(hx:a.eval x= .pointer (some ⟨g,0,none⟩)){t:TypeId}{cs:Array Value}(hg:Row W g cs t)(hS:g∉olds.map (·.1))(m:Nat)(e:TypeId)
  (hu:P.underlying ty=some (.array m e))(hi:(P.info? ty).map (·.size)=some cs.size)
  (h:MX P olds p W F (n+1) l pl (a.put o.dst (.agg cs)) ct):MX P olds p W F n (o::l) ((fun _=>.agg cs,[],none,[])::pl) a ct:=by
 refine Xu (.agg cs) [] (fun w hk _=>?_) h;unfold execOp;simp only[ho,hx,Instr.loadAt,Instr.sureAddr,p_,Y_,k_,cB0 w g t ty cs (0,0) _ (hk.row hg hS) hu rfl hi]
theorem Yz (k:Nat)(ty:TypeId)(x:Operand)(ho:o.op= .load ty x){t:TypeId}{cs:Array Value}(hct:ct k=some (t,cs))(hx:a.eval x= .pointer (some ⟨Z8 olds p k,0,none⟩))(m:Nat)(e:TypeId)
  (hu:P.underlying ty=some (.array m e))(hi:(P.info? ty).map (·.size)=some cs.size)
  (h:MX P olds p W F (n+1) l pl (a.put o.dst (.agg cs)) ct):MX P olds p W F n (o::l) ((fun _=>.agg cs,[k],none,[])::pl) a ct:=by
 refine Xu (.agg cs) [k] (fun w _ hrw=>?_) h;have hg:=hrw k (D_.2 rfl) _ hct;unfold execOp;simp only[ho,hx,Instr.loadAt,Instr.sureAddr,p_,Y_,k_,cB0 w _ t ty cs (0,0) _ hg hu rfl hi]
theorem Zs (ty:TypeId)(x:Operand)(ho:o.op= .load ty x)(g i:Nat)(hx:a.eval x= .pointer (some ⟨g,i,none⟩)){t:TypeId}{cs:Array Value}(hg:Row W g cs t)(hS:g∉olds.map (·.1))(v:Value)(hc:cs[i]?=some v)
  (ha: ∀w,(isAgg ty).run P w= .ok false w)
  (h:MX P olds p W F (n+1) l pl (a.put o.dst v) ct):MX P olds p W F n (o::l) ((fun _=>v,[],none,[])::pl) a ct:=by
 refine Xu v [] (fun w hk _=>?_) h;unfold execOp;simp only[ho,hx,Instr.loadAt,Instr.sureAddr,p_,Y_,k_,YI w g i ty v ha ((hk.row hg hS).cell i |>.trans hc)]
theorem YY (k:Nat)(ty:TypeId)(x:Operand)(ho:o.op= .load ty x)(i:Nat){t:TypeId}{cs:Array Value}(hct:ct k=some (t,cs))(hx:a.eval x= .pointer (some ⟨Z8 olds p k,i,none⟩))(v:Value)(hc:cs[i]?=some v)
  (ha: ∀w,(isAgg ty).run P w= .ok false w)
  (h:MX P olds p W F (n+1) l pl (a.put o.dst v) ct):MX P olds p W F n (o::l) ((fun _=>v,[k],none,[])::pl) a ct:=by
 refine Xu v [k] (fun w _ hrw=>?_) h;have hg:=hrw k (D_.2 rfl) _ hct;unfold execOp;simp only[ho,hx,Instr.loadAt,Instr.sureAddr,p_,Y_,k_,YI w _ i ty v ha (hg.cell i |>.trans hc)]
theorem XP (t:TypeId)(ho:o.op= .alloc t)(c:Array Value)(hz: ∀w,(zeroValue t).run P w= .ok (.agg c) w)
  (h:MX P olds p W F (n+1) l pl (a.put o.dst (.pointer (some ⟨p n,0,none⟩))) (XU ct (2*n+1) (t,c))):MX P olds p W F n (o::l) ((fun q=>.pointer (some ⟨q n,0,none⟩),[],some (t,c),[])::pl) a ct:=
 Tr (fun g=>.pointer (some ⟨g,0,none⟩)) t c (fun w=>by unfold execOp;simp only[ho,Instr.alloc,p_,hz,k_,newVar,newRow];rfl) h
theorem Ya (t:TypeId)(x:Operand)(ho:o.op= .box t x)(c:Array Value)(hx:a.eval x= .agg c)
  (h:MX P olds p W F (n+1) l pl (a.put o.dst (.pointer (some ⟨p n,0,none⟩))) (XU ct (2*n+1) (t,c))):MX P olds p W F n (o::l) ((fun q=>.pointer (some ⟨q n,0,none⟩),[],some (t,c),[])::pl) a ct:=
 Tr (fun g=>.pointer (some ⟨g,0,none⟩)) t c (fun w=>by unfold execOp;simp only[ho,hx,Instr.box,p_,newVar,newRow];rfl) h
theorem Tt (w:World)(g:Nat)(c:Array Value):Only g w (w.setRow g c):=⟨rfl,rfl,rfl,by simp,fun k hk=>setRow_other w g k c hk⟩
theorem Wj (w:World)(g i:Nat)(v:Value):Only g w (w.setCell ⟨g,i,none⟩ v):=⟨rfl,rfl,rfl,W1 _ _ _,fun k hk=>fS0 w ⟨g,i,none⟩ k v hk⟩
theorem Xc (k:Nat)(ty:TypeId)(x y:Operand)(ho:o.op= .store ty x y){t:TypeId}{old:Array Value}(hct:ct k=some (t,old))(hx:a.eval x= .pointer (some ⟨Z8 olds p k,0,none⟩))(c:Array Value)(hy:a.eval y= .agg c)
  (hi:(P.info? ty).map (·.size)=some c.size)(hold:old.size=c.size)(h1:c.all (·.oneCell')=true)
  (h:MX P olds p W F (n+1) l pl (a.put o.dst undef) (XU ct k (t,c))):MX P olds p W F n (o::l) ((fun _=>undef,[],none,[(k,c)])::pl) a ct:=by
 refine PJ k c hct (fun w hr=>⟨w.setRow (Z8 olds p k) c,?_,hr.setRow _,Tt _ _ _⟩) h;unfold execOp;simp only[ho,hx,hy,Instr.storeAt,Instr.sureAddr,p_,Y_,k_,run_storeVar_row w _ t ty old c hr hi hold h1]
theorem Xk (k:Nat)(ty:TypeId)(x y:Operand)(ho:o.op= .store ty x y)(i:Nat){t:TypeId}{old:Array Value}(hct:ct k=some (t,old))(hx:a.eval x= .pointer (some ⟨Z8 olds p k,i,none⟩))(kd:IntKind)(m:Int)(hy:a.eval y= .int kd m)
  (hz: ∀w,(sizeOf ty).run P w= .ok 1 w)(hi:i<old.size)(c:Array Value)(hc:old.setIfInBounds i (.int kd m)=c)
  (h:MX P olds p W F (n+1) l pl (a.put o.dst undef) (XU ct k (t,c))):MX P olds p W F n (o::l) ((fun _=>undef,[],none,[(k,c)])::pl) a ct:=by
 subst hc;refine PJ k _ hct (fun w hr=>⟨w.setCell ⟨Z8 olds p k,i,none⟩ (.int kd m),?_,hr.setCell _ _,Wj _ _ _ _⟩) h;have hcell:w.cell? ⟨Z8 olds p k,i,none⟩=some old[i]:=(hr.cell i).trans (by simp[hi]);unfold execOp;simp only[ho,hx,hy,Instr.storeAt,Instr.sureAddr,p_,Y_,k_,Sy w _ i ty kd m _ hz hcell (hr.frozen i)]
theorem Ua {fn:Func}{R:Ending->World->Prop}{a:Act}{w:World}{p p':Tmp}{ty:TypeId}(hf:fn.results=#[.cell p ty,.cell p' ty])(g:Nat)(hp:a.tmps.getD p undef= .pointer (some ⟨g,0,none⟩))
  {t:TypeId}{cs:Array Value}(hr:Row w g cs t)(g':Nat)(hp':a.tmps.getD p' undef= .pointer (some ⟨g',0,none⟩)){t':TypeId}{cs':Array Value}(hr':Row w g' cs' t')(n:Nat)(e:TypeId)(hu:P.underlying ty=some (.array n e))(hi:(P.info? ty).map (·.size)=some cs.size)(hi':(P.info? ty).map (·.size)=some cs'.size)(hd:a.defers=[])
  (h:R (.returned (.tuple #[.agg cs,.agg cs'])) w):bodyPost P fn R .ret a w:=by
 refine eM0 (v:=.tuple #[.agg cs,.agg cs']) ?_ hd h;have h1:=cB0 w g t ty cs (0,0) _ hr hu rfl hi;have h2:=cB0 w g' t' ty cs' (0,0) _ hr' hu rfl hi';rw[cU0]at hp hp';simp[results,hf,hp,hp',p_,asAddr,h1,h2]
theorem PK {fn:Func}{R:Ending->World->Prop}{a:Act}{w:World}{u p:Tmp}{ty:TypeId}(hf:fn.results=#[.tmp u,.cell p ty])(v:Value)(hv:a.tmps.getD u undef=v)(g:Nat)(hp:a.tmps.getD p undef= .pointer (some ⟨g,0,none⟩))
  {t:TypeId}{cs:Array Value}(hr:Row w g cs t)(n:Nat)(e:TypeId)(hu:P.underlying ty=some (.array n e))(hi:(P.info? ty).map (·.size)=some cs.size)(hd:a.defers=[])
  (h:R (.returned (.tuple #[v,.agg cs])) w):bodyPost P fn R .ret a w:=by
 refine eM0 (v:=.tuple #[v,.agg cs]) ?_ hd h;have h1:=cB0 w g t ty cs (0,0) _ hr hu rfl hi;rw[cU0]at hp hv;simp[results,hf,hp,hv,asAddr,h1]
theorem Ub {fn:Func}{R:Ending->World->Prop}{a:Act}{w:World}{p p' u:Tmp}{ty:TypeId}(hf:fn.results=#[.cell p ty,.cell p' ty,.tmp u])(g:Nat)(hp:a.tmps.getD p undef= .pointer (some ⟨g,0,none⟩))
  {t:TypeId}{cs:Array Value}(hr:Row w g cs t)(g':Nat)(hp':a.tmps.getD p' undef= .pointer (some ⟨g',0,none⟩)){t':TypeId}{cs':Array Value}(hr':Row w g' cs' t')(v:Value)(hv:a.tmps.getD u undef=v)(n:Nat)(e:TypeId)(hu:P.underlying ty=some (.array n e))(hi:(P.info? ty).map (·.size)=some cs.size)(hi':(P.info? ty).map (·.size)=some cs'.size)(hd:a.defers=[])
  (h:R (.returned (.tuple #[.agg cs,.agg cs',v])) w):bodyPost P fn R .ret a w:=by
 refine eM0 (v:=.tuple #[.agg cs,.agg cs',v]) ?_ hd h;have h1:=cB0 w g t ty cs (0,0) _ hr hu rfl hi;have h2:=cB0 w g' t' ty cs' (0,0) _ hr' hu rfl hi';rw[cU0]at hp hp' hv;simp[results,hf,hp,hp',hv,p_,asAddr,h1,h2]
theorem Zt {ρ:Operand->Value}(t:TypeId)(x y:Operand)(ho:o.op= .indexAddr t x y)(g:Nat)(hx:ρ x= .pointer (some ⟨g,0,none⟩))(i len:Nat)(hy:ρ y= .int .i64 i)(hi:i<len)(e:TypeId)(hu:P.underlying t=some (.array len e))
  (hz: ∀w,(sizeOf e).run P w= .ok 1 w)(w:World):(execOp ρ o).run P w= .ok (.value (.pointer (some ⟨g,i,none⟩))) w:=by
 unfold execOp;simp[ho,hx,hy,Instr.indexAt,Instr.sureAddr,p_,V_ hu,hz,go_sem,asIntOf,Addr.add,hi];intro h0;rw[h0]
end
section
variable {P:Program}{olds:W3}{p:Nat->Nat}{W:World}{F:Act->Ct->Prop}{n:Nat}{l:List Oper}{pl:List Sp}{a:Act}{ct:Ct}{o:Oper}
theorem m_m {t:Tmp}{v:Value}(h:MX P olds p W F (n+1) l pl (a.put o.dst v) ct)(ho:o.op= .move (.tmp t):=by exact rfl)(hx:a.tmps.toList[t]?=some v:=by exact rfl):MX P olds p W F n (o::l) ((fun _=>v,[],none,[])::pl) a ct:=Dy ho hx h
theorem m_a {t:Tmp}{v:Value}(h:MX P olds p W F (n+1) l pl (a.put o.dst v) ct)(ho:o.op= .assign (.tmp t):=by exact rfl)(hx:a.tmps.toList[t]?=some v:=by exact rfl):MX P olds p W F n (o::l) ((fun _=>v,[],none,[])::pl) a ct:=AN ho hx h
theorem m_e {t:Tmp}{i:Nat}{vs:Array Value}{v:Value}(h:MX P olds p W F (n+1) l pl (a.put o.dst v) ct)(ho:o.op= .extract (.tmp t) i:=by exact rfl)(hx:a.tmps.toList[t]?=some (.tuple vs):=by exact rfl)(hv:vs.toList[i]?=some v:=by exact rfl):MX P olds p W F n (o::l) ((fun _=>v,[],none,[])::pl) a ct:=AO ho hx hv h
theorem m_l {x:Operand}{g A:Nat}{t:TypeId}(hg:Row W g (Zc A) t)(h:MX Tryz.prog olds p W F (n+1) l pl (a.put o.dst (.agg (Zc A))) ct)(ho:o.op= .load 57 x:=by exact rfl)(hx:a.eval x= .pointer (some ⟨g,0,none⟩):=by exact rfl)(hS:g∉olds.map (·.1):=by simp<;>omega):MX Tryz.prog olds p W F n (o::l) ((fun _=>.agg (Zc A),[],none,[])::pl) a ct:=Xv 57 x ho g hx hg hS 4 _ Tryz.underlying57 Zd h
theorem m_p (k A:Nat){x y:Operand}{t:TypeId}{old:Array Value}(h:MX Tryz.prog olds p W F (n+1) l pl (a.put o.dst undef) (XU ct k (t,Zc A)))(ho:o.op= .store 57 x y:=by exact rfl)(hct:ct k=some (t,old):=by exact rfl)(hx:a.eval x= .pointer (some ⟨Z8 olds p k,0,none⟩):=by exact rfl)(hy:a.eval y= .agg (Zc A):=by exact rfl)(hold:old.size=(Zc A).size:=by simp only[Zo]):MX Tryz.prog olds p W F n (o::l) ((fun _=>undef,[],none,[(k,Zc A)])::pl) a ct:=Xc k 57 x y ho hct hx (Zc A) hy (by exact Zd) hold (Zu _) h
theorem m_n (h:MX Tryz.prog olds p W F (n+1) l pl (a.put o.dst (.pointer (some ⟨p n,0,none⟩))) (XU ct (2*n+1) (57,Zc 0)))(ho:o.op= .alloc 57:=by exact rfl):MX Tryz.prog olds p W F n (o::l) ((fun q=>.pointer (some ⟨q n,0,none⟩),[],some (57,Zc 0),[])::pl) a ct:=XP 57 ho _ Zp h
end
section
variable {P:Program}{ops:Array Oper}{W:World}{Q:Act->Prop}{rest:List Oper}{o:Oper}{a:Act}
theorem DA {t:Tmp}{v:Value}(hw:Region.wanted o (yielded ops a.tmps)=true)(ho:o.op= .move (.tmp t))(hx:a.tmps.toList[t]?=some v)(h:QW P ops W Q rest (a.put o.dst v)):QW P ops W Q (o::rest) a:=by
 have h':a.tmps[t]?=some v:=by rw[<-o_];exact hx
 exact V7 hw v (fun w=>by unfold execOp;rw[ho];simp[Act.eval,h']) h
theorem AP {t:Tmp}{v:Value}(hw:Region.wanted o (yielded ops a.tmps)=true)(ho:o.op= .assign (.tmp t))(hx:a.tmps.toList[t]?=some v)(h:QW P ops W Q rest (a.put o.dst v)):QW P ops W Q (o::rest) a:=by
 have h':a.tmps[t]?=some v:=by rw[<-o_];exact hx
 exact V7 hw v (fun w=>by unfold execOp;rw[ho];simp[Act.eval,h']) h
theorem Rg (b:Bool){c:Tmp}{x y:Operand}{v:Value}(hw:Region.wanted o (yielded ops a.tmps)=true)(ho:o.op= .pick (.tmp c) x y)(hc:a.tmps.toList[c]?=some (.bool b))(hv:a.eval (if b=true then x else y)=v)(h:QW P ops W Q rest (a.put o.dst v)):QW P ops W Q (o::rest) a:=by
 have h':a.tmps[c]?=some (.bool b):=by rw[<-o_];exact hc
 refine V7 hw v (fun w=>?_) h;subst hv;unfold execOp;rw[ho];have h2:a.eval (.tmp c)= .bool b:=by simp[Act.eval,h']
 simp only[h2]
 cases b<;>rfl
theorem q_p (b:Bool)(v:Value){c:Tmp}{x y:Operand}(h:QW P ops W Q rest (a.put o.dst v))(hw:Region.wanted o (yielded ops a.tmps)=true:=by rfl)(ho:o.op= .pick (.tmp c) x y:=by exact rfl)(hc:a.tmps.toList[c]?=some (.bool b):=by exact rfl)(hv:a.eval (if b=true then x else y)=v:=by exact rfl):QW P ops W Q (o::rest) a:=Rg b hw ho hc hv h
theorem Tu {o:Oper}{a:Act}{w:World}{v:Value}{C:World->Prop}{K:Act->World->Prop}{Q':Exit->Act->World->Prop}(hC:C w)(h:o.quietAt P a C w v)(hK: ∀w2,C w2->K (a.put o.dst v) w2):o.wp P a w K Q':=by
 unfold Oper.quietAt at h;unfold Oper.wp;generalize (execOp a.eval o).run P w=r at*
 cases r with
 |ok n w'=>
  cases n<;>simp only[Oper.quietUpon]at h<;>simp only[Oper.upon]
  case value u=>
   obtain⟨e1,e2⟩:=h;rw[e1,e2];exact hK _ hC
  case skip=>
   obtain⟨e1,e2⟩:=h;rw[e1,<-e2];exact hK _ hC
  case enter f args=>
   obtain⟨e1,hc⟩:=h;rw[e1]
   exact hc.mono fun e w'' ⟨he,hw''⟩=>by subst he;exact hK _ hw''
 |halt x w'=>simp only[Oper.quietUpon]at h
theorem VJ {C:World->Prop}{Q':Exit->Act->World->Prop}: ∀(l:List Oper) (a:Act) (w:World),C w->wpQuiet P ops C (fun a'=> ∀w',C w'->Q' .normal a' w') l a->wpList P ops Q' l a w
 |[],a,w,hC,h=>h w hC
 |o::l,a,w,hC,h=>by
  unfold wpQuiet at h;refine wpList_step fun K hK=>?_
  by_cases hw:Region.wanted o (yielded ops a.tmps)=true
  ·rw[j_ hw]at h ⊢;obtain⟨v,hq,hr⟩:=h;exact Tu hC (hq w hC) fun w2 hC2=>hK _ _ (VJ l _ w2 hC2 hr)
  ·rw[i_ hw]at h ⊢;exact hK _ _ (VJ l _ w hC h)
theorem ZB {id:Nat}{Q':Exit->Act->World->Prop}{l:List Oper}
  (h:QW P l.toArray W (fun a'=> ∀w',Below W.heap.size W w'->Q' .normal a' w') l a):(Code.region id l.toArray false).wp P Q' a W:=
 wp_region_lit (VJ l a W (H_ _ _) h.out)
theorem ZH {id:Nat}{l:List Oper}{Q':Exit->Act->World->Prop}(olds:W3)(plan:List Sp)(hr:VD W olds)(hn:(olds.map (·.1)).Nodup)(hg:(l.all fun o=>o.guard.isNone)=true)
  (h: ∀p,MX P olds p W (AM olds p W Q') 0 l plan a (ct0 olds)):(Code.region id l.toArray false).wp P Q' a W:=Za olds plan hr hn h hg
end
section
variable {P:Program}{ops:Array Oper}{W:World}{Q:Act->Prop}{rest:List Oper}{o:Oper}{a:Act}
theorem q_m {t:Tmp}{v:Value}(h:QW P ops W Q rest (a.put o.dst v))(hw:Region.wanted o (yielded ops a.tmps)=true:=by rfl)(ho:o.op= .move (.tmp t):=by exact rfl)(hx:a.tmps.toList[t]?=some v:=by exact rfl):QW P ops W Q (o::rest) a:=DA hw ho hx h
theorem q_a {t:Tmp}{v:Value}(h:QW P ops W Q rest (a.put o.dst v))(hw:Region.wanted o (yielded ops a.tmps)=true:=by rfl)(ho:o.op= .assign (.tmp t):=by exact rfl)(hx:a.tmps.toList[t]?=some v:=by exact rfl):QW P ops W Q (o::rest) a:=AP hw ho hx h
theorem q_v (v:Value)(hr: ∀w,(execOp a.eval o).run P w= .ok (.value v) w)(h:QW P ops W Q rest (a.put o.dst v))(hw:Region.wanted o (yielded ops a.tmps)=true:=by rfl):QW P ops W Q (o::rest) a:=V7 hw v hr h
end
end Go.Proofs.YtnagnkhbamhfmaaGreatDoor
