import Derived.Test.YtcdahmommonnfaaGreatDoorJ0
namespace Go.Proofs.YtcdahmommonnfaaGreatDoor
set_option linter.all false
open Go.RowKit
section
variable {P:Program}
abbrev DL:=List (Nat×Oper×Bool)
def WV (val:Nat->Value)(d:Nat->Bool):DL->Act->Act
 |[],a=>a
 |x::l,a=>WV val d l (if d x.1=true then a.put x.2.1.dst (val x.1)else a)
def Sq (val:Nat->Value)(n:Nat)(v:Value):Nat->Value:=fun j=>if j=n then v else val j
theorem S9 (val:Nat->Value)(n:Nat)(v:Value):Sq val n v n=v:=if_pos rfl
theorem WQ (val:Nat->Value){n j:Nat}(v:Value)(h:j≠n):Sq val n v j=val j:=if_neg h
theorem Z8 {E E':Value->World->Prop}{w:World}{r:Result Next}(h:YB P E w r)(hE: ∀v w2,E v w2->E' v w2):YB P E' w r:=by
 cases r with
 |ok n w'=>
  cases n<;>simp only[YB]at h ⊢
  case value u=>exact hE _ _ h
  case skip=>exact hE _ _ h
  case enter f args=>exact⟨h.1,h.2.mono fun e w'' ⟨v,he,hv⟩=>⟨v,he,hE _ _ hv⟩⟩
 |halt x w'=>simp only[YB]at h
def RT (P:Program)(ops:Array Oper)(C:World->Prop)(Q:Act->World->Prop)(d:Nat->Bool)(val:Nat->Value):DL->Act->World->Prop
 |[],a,w=> ∀w2,Below w.heap.size w w2->Q a w2
 |x::l,a,w=>
  if d x.1=true then RT P ops C Q d val l (a.put x.2.1.dst (val x.1)) w
  else(Region.wanted x.2.1 (yielded ops a.tmps)=false/\RT P ops C Q d val l (a.put x.2.1.dst undef) w)∨
   (Region.wanted x.2.1 (yielded ops a.tmps)=true/\
    if x.2.2=true then ∀w2,Below w.heap.size w w2->YB P (fun v w3=>C w3/\RT P ops C Q d val l (a.put x.2.1.dst v) w3) w2 ((execOp a.eval x.2.1).run P w2)
    else ∃v,(∀w2,C w2->YB P (fun u w3=>u=v/\Below w2.heap.size w2 w3) w2 ((execOp a.eval x.2.1).run P w2))/\RT P ops C Q d val l (a.put x.2.1.dst v) w)
theorem RT.later {ops:Array Oper}{C:World->Prop}{Q:Act->World->Prop}{d:Nat->Bool}{val:Nat->Value}: ∀(l:DL) (a:Act) (w w':World),RT P ops C Q d val l a w->Below w.heap.size w w'->RT P ops C Q d val l a w'
 |[],_,_,_,h,hb=>fun w2 h2=>h w2 (Zk hb (Nat.le_refl _) h2)
 |x::l,a,w,w',h,hb=>by
  unfold RT at h ⊢;by_cases e:d x.1=true
  ·rw[if_pos e]at h ⊢;exact RT.later l _ w w' h hb
  ·rw[if_neg e]at h ⊢;refine h.imp (fun⟨h1,h2⟩=>⟨h1,RT.later l _ w w' h2 hb⟩) fun⟨h1,h2⟩=>⟨h1,?_⟩
   by_cases f:x.2.2=true
   ·rw[if_pos f]at h2 ⊢;exact fun w2 hb2=>h2 w2 (Zk hb (Nat.le_refl _) hb2)
   ·rw[if_neg f]at h2 ⊢;obtain⟨v,h3,h4⟩:=h2;exact⟨v,h3,RT.later l _ w w' h4 hb⟩
theorem RT.congr {ops:Array Oper}{C:World->Prop}{Q:Act->World->Prop}{d d':Nat->Bool}{val val':Nat->Value}: ∀(l:DL) (a:Act) (w:World),(∀x∈l,d x.1=d' x.1/\val x.1=val' x.1)->RT P ops C Q d val l a w->RT P ops C Q d' val' l a w
 |[],_,_,_,h=>h
 |x::l,a,w,hx,h=>by
  have h0:=hx x (List.mem_cons_self ..);have hl: ∀y∈l,d y.1=d' y.1/\val y.1=val' y.1:=fun y hy=>hx y (List.mem_cons_of_mem _ hy)
  unfold RT at h ⊢;by_cases e:d x.1=true
  ·rw[if_pos e]at h;rw[if_pos (h0.1▸e),<-h0.2];exact RT.congr l _ w hl h
  ·rw[if_neg e]at h;rw[if_neg (h0.1▸e)];refine h.imp (fun⟨h1,h2⟩=>⟨h1,RT.congr l _ w hl h2⟩) fun⟨h1,h2⟩=>⟨h1,?_⟩
   by_cases f:x.2.2=true
   ·rw[if_pos f]at h2 ⊢;exact fun w2 hb2=>Z8 (h2 w2 hb2) fun v w3 ⟨h3,h4⟩=>⟨h3,RT.congr l _ w3 hl h4⟩
   ·rw[if_neg f]at h2 ⊢;obtain⟨v,h3,h4⟩:=h2;exact⟨v,h3,RT.congr l _ w hl h4⟩
theorem RT.done {ops:Array Oper}{C:World->Prop}{Q:Act->World->Prop}{d:Nat->Bool}{val:Nat->Value}: ∀(l:DL) (a:Act) (w:World),(∀x∈l,d x.1=true)->RT P ops C Q d val l a w->Q (WV val d l a) w
 |[],_,w,_,h=>h w (Below.refl _ _)
 |x::l,a,w,hx,h=>by
  have h0:=hx x (List.mem_cons_self ..);unfold RT at h;unfold WV;rw[if_pos h0]at h ⊢;exact RT.done l _ w (fun y hy=>hx y (List.mem_cons_of_mem _ hy)) h
theorem Pz {val:Nat->Value}{d:Nat->Bool}{dst:Option Tmp}{v:Value}: ∀(l:DL) (a:Act),(∀x∈l,∀s,dst=some s->x.2.1.dst≠some s)->WV val d l (a.put dst v)=(WV val d l a).put dst v
 |[],_,_=>rfl
 |x::l,a,h=>by
  unfold WV;rw[<-Pz l _ fun y hy=>h y (List.mem_cons_of_mem _ hy)]
  congr 1
  by_cases e:d x.1=true
  ·rw[if_pos e,if_pos e];exact Act.put_comm a v _ fun s hs=>h x (List.mem_cons_self ..) s hs
  ·rw[if_neg e,if_neg e]
theorem Tg {val val':Nat->Value}{d d':Nat->Bool}: ∀(l:DL) (a:Act),(∀x∈l,d x.1=d' x.1/\val x.1=val' x.1)->WV val d l a=WV val' d' l a
 |[],_,_=>rfl
 |x::l,a,h=>by
  have h0:=h x (List.mem_cons_self ..);unfold WV;rw[<-h0.1,<-h0.2];exact Tg l _ fun y hy=>h y (List.mem_cons_of_mem _ hy)
theorem Ra {val:Nat->Value}{d:Nat->Bool}{t:Tmp}: ∀(l:DL) (b:Act),(∀x∈l,x.2.1.dst=some t->d x.1=false)->(WV val d l b).eval (.tmp t)=b.eval (.tmp t)
 |[],_,_=>rfl
 |x::l,b,h=>by
  unfold WV;rw[Ra l _ fun y hy=>h y (List.mem_cons_of_mem _ hy)];by_cases e:d x.1=true
  ·rw[if_pos e]
   cases hx:x.2.1.dst with
   |none=>rfl
   |some s=>
    have hne:s≠t:=fun hst=>by
     have:=h x (List.mem_cons_self ..) (by rw[hx,hst]);rw[e]at this;cases this
    rw[XU,if_neg (fun k=>hne k.1)]
  ·rw[if_neg e]
theorem Rb {val:Nat->Value}{d:Nat->Bool}: ∀(l:DL) (b:Act),(WV val d l b).tmps.size=b.tmps.size
 |[],_=>rfl
 |x::l,b=>by
  unfold WV;rw[Rb l]
  split
  ·exact WO _ _ _
  ·rfl
def Rdy (ops:Array Oper)(d:Nat->Bool)(i:Nat)(o:Oper)(hard:Bool):DL->Prop
 |[]=>False
 |y::l=>(y.1≠i/\(∀s,o.dst=some s->y.2.1.dst≠some s)/\(∀s,y.2.1.dst=some s->s∈o.looksAt ops->d y.1=true)/\(y.2.2=true->d y.1=true)/\Rdy ops d i o hard l)∨
   (y=(i,o,hard)/\ ∀z∈l,z.1≠i/\(∀s,o.dst=some s->z.2.1.dst≠some s)/\ ∀s,z.2.1.dst=some s->s∈o.looksAt ops->d z.1=false)
theorem Vq {ops:Array Oper}{val:Nat->Value}{d:Nat->Bool}{i:Nat}{o:Oper}{hard:Bool}(hd:d i=false)(v:Value): ∀(l:DL) (a:Act),Rdy ops d i o hard l->WV (Sq val i v) (fun j=>j==i||d j) l a=(WV val d l a).put o.dst v
 |[],_,h=>h.elim
 |y::l,a,h=>by
  rcases h with ⟨hne,hds,_,_,hr⟩|⟨rfl,hz⟩
  ·unfold WV;rw[WQ val v hne,show((y.1==i)||d y.1)=d y.1 by rw[show(y.1==i)=false by simpa using hne,Bool.false_or]];exact Vq hd v l _ hr
  ·unfold WV;rw[if_pos (by simp),S9,if_neg (by rw[hd];decide),Tg (val':=val) (d':=d) l _ (fun z hz'=>⟨by rw[show(z.1==i)=false by simpa using(hz z hz').1,Bool.false_or],WQ val v (hz z hz').1⟩)];exact Pz l a fun z hz' s hs=>(hz z hz').2.1 s hs
def mkD:Nat->List Oper->List Bool->DL
 |n,o::l,f::fs=>(n,o,f)::mkD (n+1) l fs
 |_,_,_=>[]
def V4 (l:List Oper):List (Oper×Sp):=l.map fun o=>(o,Om)
def JJ (ops:Array Oper)(z:List (Oper×Sp))(x:Oper)(i:Nat)(y:Oper)(f:Bool)(j:Nat):Bool:=
 j==i||((match y.dst with
  |none=>true
  |some s=>x.dst !=some s&&(!(x.looksAt ops).contains s||((decide (j<i)&&XA z z.length i j)||(decide (i<j)&&XA z z.length j i))))&&
 (!f|| !decide (j<i)||XA z z.length i j))
def chkD (l:List Oper)(fs:List Bool):Bool:=
 l.length==fs.length&&l.zipIdx.all fun(x:Oper×Nat)=>(match x.1.op with| .select _ _=>false|_=>true)&&(x.1.after.all fun e=> !Region.binds .any e||decide (e.on<x.2))&&
  (l.zip fs).zipIdx.all fun(u:(Oper×Bool)×Nat)=>JJ l.toArray (V4 l) x.1 x.2 u.1.1 u.1.2 u.2
structure DW (P:Program)(ops:Array Oper)(C:World->Prop)(Q:Act->World->Prop)(n:Nat)(l:List Oper)(fs:List Bool)(a:Act)(w:World):Prop where
 out:RT P ops C Q (fun _=>false) (fun _=>undef) (mkD n l fs) a w
theorem Th {B:Nat}{w z:World}(_:Below B w z):Below z.heap.size z z:=Below.refl _ _
section
variable {ops:Array Oper}{C:World->Prop}{Q:Act->World->Prop}{n:Nat}{l:List Oper}{fs:List Bool}{a:Act}{w:World}{o:Oper}
theorem Rc {fn:Func}(f:FuncId)(args:Array Operand)(ts:Array TypeId)(ho:o.op= .call {callee:=.value (.func f),args:=args,argTypes:=ts})(hf:P.funcs[f]?=some fn)(hb:(fn.name== "runtime.NumGoroutine" ||fn.body.isNone)=false)
  (vs:Array Value)(hv':args.toList.map a.eval=vs.toList)(w:World):(execOp a.eval o).run P w= .ok (.enter f vs) w:=by
 have hv:args.map a.eval=vs:=by apply Array.toList_inj.1;rw[Array.toList_map];exact hv'
 have hr:=ZM (P:=P) hf hb vs w;unfold execOp;simp only[ho,resolve,hv,Act.eval];simp[Deferred.ofValue,invoke,hr]
end
end
section
variable {P:Program}
def RE (P:Program)(ops:Array Oper)(C:World->Prop)(Q:Act->World->Prop)(fn:Nat->Bool)(d:Nat->Bool)(val:Nat->Value):DL->Act->World->Prop
 |[],a,w=> ∀w2,Below w.heap.size w w2->Q a w2
 |x::l,a,w=>
  if d x.1=true then RE P ops C Q fn d val l (a.put x.2.1.dst (val x.1)) w
  else(Region.wanted x.2.1 (yielded ops a.tmps)=false/\RE P ops C Q fn d val l (a.put x.2.1.dst undef) w)∨
   (Region.wanted x.2.1 (yielded ops a.tmps)=true/\
    if x.2.2=true then ∀w2,Below w.heap.size w w2->YB P (fun v w3=>(fn x.1=false->C w3)/\RE P ops C Q fn d val l (a.put x.2.1.dst v) w3) w2 ((execOp a.eval x.2.1).run P w2)
    else ∃v,(∀w2,C w2->YB P (fun u w3=>u=v/\Below w2.heap.size w2 w3) w2 ((execOp a.eval x.2.1).run P w2))/\RE P ops C Q fn d val l (a.put x.2.1.dst v) w)
theorem RE.later {ops:Array Oper}{C:World->Prop}{Q:Act->World->Prop}{fn:Nat->Bool}{d:Nat->Bool}{val:Nat->Value}: ∀(l:DL) (a:Act) (w w':World),RE P ops C Q fn d val l a w->Below w.heap.size w w'->RE P ops C Q fn d val l a w'
 |[],_,_,_,h,hb=>fun w2 h2=>h w2 (Zk hb (Nat.le_refl _) h2)
 |x::l,a,w,w',h,hb=>by
  unfold RE at h ⊢;by_cases e:d x.1=true
  ·rw[if_pos e]at h ⊢;exact RE.later l _ w w' h hb
  ·rw[if_neg e]at h ⊢;refine h.imp (fun⟨h1,h2⟩=>⟨h1,RE.later l _ w w' h2 hb⟩) fun⟨h1,h2⟩=>⟨h1,?_⟩
   by_cases f:x.2.2=true
   ·rw[if_pos f]at h2 ⊢;exact fun w2 hb2=>h2 w2 (Zk hb (Nat.le_refl _) hb2)
   ·rw[if_neg f]at h2 ⊢;obtain⟨v,h3,h4⟩:=h2;exact⟨v,h3,RE.later l _ w w' h4 hb⟩
theorem RE.congr {ops:Array Oper}{C:World->Prop}{Q:Act->World->Prop}{fn:Nat->Bool}{d d':Nat->Bool}{val val':Nat->Value}: ∀(l:DL) (a:Act) (w:World),(∀x∈l,d x.1=d' x.1/\val x.1=val' x.1)->RE P ops C Q fn d val l a w->RE P ops C Q fn d' val' l a w
 |[],_,_,_,h=>h
 |x::l,a,w,hx,h=>by
  have h0:=hx x (List.mem_cons_self ..);have hl: ∀y∈l,d y.1=d' y.1/\val y.1=val' y.1:=fun y hy=>hx y (List.mem_cons_of_mem _ hy)
  unfold RE at h ⊢;by_cases e:d x.1=true
  ·rw[if_pos e]at h;rw[if_pos (h0.1▸e),<-h0.2];exact RE.congr l _ w hl h
  ·rw[if_neg e]at h;rw[if_neg (h0.1▸e)];refine h.imp (fun⟨h1,h2⟩=>⟨h1,RE.congr l _ w hl h2⟩) fun⟨h1,h2⟩=>⟨h1,?_⟩
   by_cases f:x.2.2=true
   ·rw[if_pos f]at h2 ⊢;exact fun w2 hb2=>Z8 (h2 w2 hb2) fun v w3 ⟨h3,h4⟩=>⟨h3,RE.congr l _ w3 hl h4⟩
   ·rw[if_neg f]at h2 ⊢;obtain⟨v,h3,h4⟩:=h2;exact⟨v,h3,RE.congr l _ w hl h4⟩
theorem RE.done {ops:Array Oper}{C:World->Prop}{Q:Act->World->Prop}{fn:Nat->Bool}{d:Nat->Bool}{val:Nat->Value}: ∀(l:DL) (a:Act) (w:World),(∀x∈l,d x.1=true)->RE P ops C Q fn d val l a w->Q (WV val d l a) w
 |[],_,w,_,h=>h w (Below.refl _ _)
 |x::l,a,w,hx,h=>by
  have h0:=hx x (List.mem_cons_self ..);unfold RE at h;unfold WV;rw[if_pos h0]at h ⊢;exact RE.done l _ w (fun y hy=>hx y (List.mem_cons_of_mem _ hy)) h
theorem Ux {ops:Array Oper}{C:World->Prop}{Q:Act->World->Prop}{fn:Nat->Bool}{d:Nat->Bool}{val:Nat->Value}{i:Nat}{o:Oper}{hard:Bool}(hd:d i=false)(hC: ∀w w2,C w->Below w.heap.size w w2->C w2)(hsel: ∀cs b,o.op≠ .select cs b):
  ∀(l:DL) (a b:Act) (w:World),(hard=false->C w)->RE P ops C Q fn d val l a w->Rdy ops d i o hard l->a.tmps.size=b.tmps.size->(∀t,t∈o.looksAt ops->a.eval (.tmp t)=b.eval (.tmp t))->
   (Region.wanted o (yielded ops (WV val d l b).tmps)=false/\RE P ops C Q fn (fun j=>j==i||d j) (Sq val i undef) l a w)∨
   (Region.wanted o (yielded ops (WV val d l b).tmps)=true/\YB P (fun v w2=>(fn i=false->C w2)/\RE P ops C Q fn (fun j=>j==i||d j) (Sq val i v) l a w2) w ((execOp (WV val d l b).eval o).run P w))
 |[],_,_,_,_,_,h,_,_=>h.elim
 |y::l,a,b,w,hw,h,hr,hz,he=>by
  rcases hr with ⟨hne,_,hlk,hhd,hr⟩|⟨rfl,hlater⟩
  ·have hdi:((y.1==i)||d y.1)=d y.1:=by rw[show(y.1==i)=false by simpa using hne,Bool.false_or]
   unfold RE at h;unfold WV;by_cases e:d y.1=true
   ·rw[if_pos e]at h;rw[if_pos e]
    have:=Ux hd hC hsel l (a.put y.2.1.dst (val y.1)) (b.put y.2.1.dst (val y.1)) w hw h hr (by rw[WO,WO,hz]) (fun t ht=>by
     cases hx:y.2.1.dst with
     |none=>exact he t ht
     |some s=>rw[XU,XU,hz,he t ht])
    have lift: ∀v w2,RE P ops C Q fn (fun j=>j==i||d j) (Sq val i v) l (a.put y.2.1.dst (val y.1)) w2->RE P ops C Q fn (fun j=>j==i||d j) (Sq val i v) (y::l) a w2:=fun v w2 h2=>by
     unfold RE;rw[if_pos (by rw[hdi];exact e),WQ val v hne];exact h2
    exact this.imp (fun⟨h1,h2⟩=>⟨h1,lift _ _ h2⟩) fun⟨h1,h2⟩=>⟨h1,Z8 h2 fun v w2 ⟨h3,h4⟩=>⟨h3,lift v w2 h4⟩⟩
   ·rw[if_neg e]at h;rw[if_neg e]
    have hev: ∀x,∀t,t∈o.looksAt ops->(a.put y.2.1.dst x).eval (.tmp t)=b.eval (.tmp t):=fun x t ht=>by
     cases hx:y.2.1.dst with
     |none=>exact he t ht
     |some s=>
      rw[XU,if_neg (fun k=>e (hlk s hx (by rw[k.1];exact ht)))];exact he t ht
    rcases h with ⟨h1,h2⟩|⟨h1,h2⟩
    ·have:=Ux hd hC hsel l (a.put y.2.1.dst undef) b w hw h2 hr (by rw[WO,hz]) (hev undef)
     have lift: ∀v w2,RE P ops C Q fn (fun j=>j==i||d j) (Sq val i v) l (a.put y.2.1.dst undef) w2->RE P ops C Q fn (fun j=>j==i||d j) (Sq val i v) (y::l) a w2:=fun v w2 h2=>by
      unfold RE;rw[if_neg (by rw[hdi];exact e)];exact .inl ⟨h1,h2⟩
     exact this.imp (fun⟨h1,h2⟩=>⟨h1,lift _ _ h2⟩) fun⟨h1,h2⟩=>⟨h1,Z8 h2 fun v w2 ⟨h3,h4⟩=>⟨h3,lift v w2 h4⟩⟩
    ·by_cases f:y.2.2=true
     ·exact absurd (hhd f) e
     ·rw[if_neg f]at h2;obtain⟨x,h3,h4⟩:=h2;have:=Ux hd hC hsel l (a.put y.2.1.dst x) b w hw h4 hr (by rw[WO,hz]) (hev x)
      have lift: ∀v w2,RE P ops C Q fn (fun j=>j==i||d j) (Sq val i v) l (a.put y.2.1.dst x) w2->RE P ops C Q fn (fun j=>j==i||d j) (Sq val i v) (y::l) a w2:=fun v w2 h2=>by
       unfold RE;rw[if_neg (by rw[hdi];exact e)];refine .inr ⟨h1,?_⟩;rw[if_neg f];exact⟨x,h3,h2⟩
      exact this.imp (fun⟨h1,h2⟩=>⟨h1,lift _ _ h2⟩) fun⟨h1,h2⟩=>⟨h1,Z8 h2 fun v w2 ⟨h3,h4⟩=>⟨h3,lift v w2 h4⟩⟩
  ·have EV: ∀t,t∈o.looksAt ops->(WV val d ((i,o,hard)::l) b).eval (.tmp t)=a.eval (.tmp t):=fun t ht=>by
    unfold WV;rw[if_neg (by rw[hd];decide),Ra l b (fun z hz' hdst=>(hlater z hz').2.2 t hdst ht)];exact(he t ht).symm
   have E:execOp (WV val d ((i,o,hard)::l) b).eval o=execOp a.eval o:=by
    refine execOp_congr o hsel fun y hy=>?_
    cases y with
    |tmp t=>exact EV t (List.mem_append_left _ (List.mem_filterMap.2 ⟨.tmp t,by simpa using hy,rfl⟩))
    |_=>rfl
   have WW:Region.wanted o (yielded ops (WV val d ((i,o,hard)::l) b).tmps)=Region.wanted o (yielded ops a.tmps):=by
    refine RY o (by rw[Rb,hz]) fun g want hg t ht=>EV t ?_
    unfold Oper.looksAt;rw[hg];refine List.mem_append_right _ ?_;show t∈((ops[g]?).bind (·.dst)).toList
    rw[ht];exact List.mem_singleton.2 rfl
   rw[E,WW]
   have lift: ∀v w2,RE P ops C Q fn d val l (a.put o.dst v) w2->RE P ops C Q fn (fun j=>j==i||d j) (Sq val i v) ((i,o,hard)::l) a w2:=fun v w2 h2=>by
    unfold RE;rw[if_pos (by simp),S9];exact RE.congr l _ w2 (fun z hz'=>⟨by rw[show(z.1==i)=false by simpa using(hlater z hz').1,Bool.false_or],(WQ val v (hlater z hz').1).symm⟩) h2
   unfold RE at h;rw[if_neg (by rw[hd];decide)]at h;rcases h with ⟨h1,h2⟩|⟨h1,h2⟩
   ·exact .inl ⟨h1,lift _ _ h2⟩
   ·refine .inr ⟨h1,?_⟩;by_cases f:hard=true
    ·rw[if_pos f]at h2;exact Z8 (h2 w (Below.refl _ _)) fun v w2 ⟨h3,h4⟩=>⟨h3,lift v w2 h4⟩
    ·rw[if_neg f]at h2;obtain⟨v,h3,h4⟩:=h2
     exact Z8 (h3 w (hw (Bool.eq_false_iff.2 f))) fun u w2 ⟨h5,h6⟩=>by
      subst h5;exact⟨fun _=>hC _ _ (hw (Bool.eq_false_iff.2 f)) h6,lift u w2 (RE.later l _ w w2 h4 h6)⟩
def mkL (l:List Oper):List (Nat×Bool)->DL
 |[]=>[]
 |(i,f)::r=>match l[i]? with
  |some o=>(i,o,f)::mkL l r
  |none=>mkL l r
theorem X3 {l:List Oper}: ∀(r:List (Nat×Bool)) (x:Nat×Oper×Bool),x∈mkL l r->l[x.1]?=some x.2.1/\(x.1,x.2.2)∈r
 |[],x,h=>by simp[mkL]at h
 |(i,f)::r,x,h=>by
  unfold mkL at h
  split at h
  ·next o ho=>
   rcases List.mem_cons.1 h with rfl|h
   ·exact⟨ho,List.mem_cons_self ..⟩
   ·exact⟨(X3 r x h).1,List.mem_cons_of_mem _ (X3 r x h).2⟩
  ·exact⟨(X3 r x h).1,List.mem_cons_of_mem _ (X3 r x h).2⟩
def Yr (z:List (Oper×Sp))(i j:Nat):Bool:=XA z z.length i j
def EM (ops:Array Oper)(z:List (Oper×Sp))(i:Nat)(o:Oper):DL->Bool
 |[]=>false
 |y::l=>
  if y.1==i then l.all fun u=>u.1 !=i&&(match u.2.1.dst with|none=>true|some s=>o.dst !=some s&&(!(o.looksAt ops).contains s||Yr z u.1 i))
  else(match y.2.1.dst with|none=>true|some s=>o.dst !=some s&&(!(o.looksAt ops).contains s||Yr z i y.1))&&(!y.2.2||Yr z i y.1)&&EM ops z i o l
def Ar (l:List Oper)(fs:List Nat)(r:List (Nat×Bool)):Bool:=
 l.zipIdx.all fun(x:Oper×Nat)=>(match x.1.op with| .select _ _=>false|_=>true)&&(x.1.after.all fun e=> !Region.binds .any e||decide (e.on<x.2))&&EM l.toArray (V4 l) x.2 x.1 (mkL l r)&&
  (!fs.contains x.2||r.all fun u=>u.2||Yr (V4 l) x.2 u.1)
theorem PA {l:List Oper}{d:Nat->Bool}{i:Nat}{o:Oper}{z:List (Oper×Sp)}(ho:l[i]?=some o)(hwait: ∀j,Yr z i j=true->d j=true)(hlater: ∀j y,l[j]?=some y->Yr z j i=true->d j=false):
  ∀L:DL,(∀x∈L,l[x.1]?=some x.2.1)->EM l.toArray z i o L=true-> ∃hard,Rdy l.toArray d i o hard L/\(i,o,hard)∈L
 |[],_,h=>by simp[EM]at h
 |y::L,hL,h=>by
  unfold EM at h;by_cases e:y.1=i
  ·rw[if_pos (by simpa using e)]at h;have hy:=hL y (List.mem_cons_self ..);rw[e,ho]at hy;obtain⟨j,p,f⟩:=y;obtain rfl:j=i:=e;obtain rfl:o=p:=by simpa using hy
   refine⟨f,.inr ⟨rfl,fun u hu=>?_⟩,List.mem_cons_self ..⟩;have h1:=List.all_eq_true.1 h u hu;rw[Bool.and_eq_true]at h1;refine⟨by simpa using h1.1,fun s hs e=>?_,fun s hs hl=>?_⟩
   ·have h2:=h1.2;rw[e]at h2;simp only[Bool.and_eq_true,bne_iff_ne,ne_eq]at h2;exact h2.1 hs
   ·have h2:=h1.2;rw[hs]at h2;simp only[Bool.and_eq_true,Bool.or_eq_true,Bool.not_eq_true']at h2;rcases h2.2 with h3|h3
    ·rw[List.contains_iff_mem.2 hl]at h3;cases h3
    ·exact hlater u.1 u.2.1 (hL u (List.mem_cons_of_mem _ hu)) h3
  ·rw[if_neg (by simpa using e)]at h;simp only[Bool.and_eq_true]at h;obtain⟨⟨h1,h2⟩,h3⟩:=h;obtain⟨hard,hr,hm⟩:=PA ho hwait hlater L (fun x hx=>hL x (List.mem_cons_of_mem _ hx)) h3;refine⟨hard,.inl ⟨e,fun s hs e'=>?_,fun s hs hl=>?_,fun hh=>?_,hr⟩,List.mem_cons_of_mem _ hm⟩
   ·rw[e']at h1;simp only[Bool.and_eq_true,bne_iff_ne,ne_eq]at h1;exact h1.1 hs
   ·rw[hs]at h1;simp only[Bool.and_eq_true,Bool.or_eq_true,Bool.not_eq_true']at h1;rcases h1.2 with h4|h4
    ·rw[List.contains_iff_mem.2 hl]at h4;cases h4
    ·exact hwait y.1 h4
   ·rw[hh]at h2;exact hwait y.1 (by simpa using h2)
structure EW (P:Program)(ops:Array Oper)(C:World->Prop)(Q:Act->World->Prop)(fn:Nat->Bool)(L:DL)(a:Act)(w:World):Prop where
 out:RE P ops C Q fn (fun _=>false) (fun _=>undef) L a w
theorem Xv {id:Nat}{l:List Oper}{a:Act}{W:World}{Q:Exit->Act->World->Prop}(hm:P.follows .mixedOrders=true)(C:World->Prop)(hC: ∀w w2,C w->Below w.heap.size w w2->C w2)(h0:C W)(fs:List Nat)(r:List (Nat×Bool))
  (h:EW P l.toArray C (Q .normal) (fun i=>fs.contains i) (mkL l r) a W)(hchk:Ar l fs r=true):(Code.region id l.toArray true).wp P Q a W:=by
 unfold Ar at hchk
 have hA: ∀i o,l[i]?=some o->(∀cs b,o.op≠ .select cs b)/\(∀e∈o.after,Region.binds .any e=true->e.on<i)/\EM l.toArray (V4 l) i o (mkL l r)=true/\(fs.contains i=true-> ∀u∈r,u.2=true∨Yr (V4 l) i u.1=true):=by
  intro i o ho
  have h1:(o,i)∈l.zipIdx:=by rw[List.mem_zipIdx_iff_getElem?];exact ho
  have h2:=List.all_eq_true.1 hchk _ h1;simp only[Bool.and_eq_true]at h2;obtain⟨⟨⟨a1,a2⟩,a3⟩,a4⟩:=h2;refine⟨fun cs b e=>(by rw[e]at a1;cases a1),fun e he hb=>?_,a3,fun hf u hu=>?_⟩
  ·have:=Array.all_eq_true_iff_forall_mem.1 a2 e he;rw[hb]at this
   simpa using this
  ·rw[hf]at a4;simp only[Bool.not_true,Bool.false_or]at a4;have:=List.all_eq_true.1 a4 u hu
   simpa using this
 have hS: ∀i o,l[i]?=some o->(V4 l)[i]?=some (o,Om):=fun i o ho=>by
  unfold V4;rw[List.getElem?_map,ho];rfl
 refine Wi hm (fun d a' w'=>(∀x∈mkL l r,x.2.2=false->d x.1=false->C w')/\ ∃val,a'=WV val d (mkL l r) a/\RE P l.toArray C (Q .normal) (fun i=>fs.contains i) d val (mkL l r) a w'/\
  (∀i (x:Oper×Sp),(V4 l)[i]?=some x->d i=true-> ∀e∈x.1.after,Region.binds .any e=true->d e.on=true)) ?lex ?start ?step ?fin
 case lex=>
  rw[List.all_eq_true];intro x hx;obtain⟨_,h3,_⟩:=hA x.2 x.1 (List.mem_zipIdx_iff_getElem?.1 hx);rw[Array.all_eq_true_iff_forall_mem];intro e he;cases hb:Region.binds .any e
  ·rfl
  ·simpa using h3 e he hb
 case start=>
  have hb:Below W.heap.size W W.drew:=(Below.refl _ _).drew;refine⟨fun _ _ _ _=>hC _ _ h0 hb,fun _=>undef,?_,RE.later _ _ _ _ h.out hb,fun i x _ hd=>by cases hd⟩
  have: ∀(L:DL) (b:Act),WV (fun _=>undef) (fun _=>false) L b=b:=fun L=>by
   induction L with
   |nil=>intro b;rfl
   |cons x L ih=>
    intro b;unfold WV;rw[if_neg (by decide)];exact ih b
  exact(this _ _).symm
 case fin=>
  rintro d a' w' ⟨_,val,rfl,hr,_⟩ hd;refine RE.done _ _ _ (fun x hx=>?_) hr;exact hd x.1 (List.getElem?_eq_some_iff.1 (X3 r x hx).1).1
 case step=>
  rintro i o ho d a' w' ⟨hw,val,rfl,hr,hcl⟩ hd hpre;obtain⟨hsel,_,hchk,hfin⟩:=hA i o ho;have hwait: ∀j,Yr (V4 l) i j=true->d j=true:=fun j hj=>Xd hcl _ i j _ (hS i o ho) hpre hj
  have hlater: ∀j y,l[j]?=some y->Yr (V4 l) j i=true->d j=false:=fun j y hy hj=>by
   cases hdj:d j
   ·rfl
   ·rw[Xd hcl _ j i _ (hS j y hy) (hcl j _ (hS j y hy) hdj) hj]at hd;cases hd
  obtain⟨hard,hrdy,hmem⟩:=PA ho hwait hlater (mkL l r) (fun x hx=>(X3 r x hx).1) hchk
  have hcl': ∀i' (x':Oper×Sp),(V4 l)[i']?=some x'->(i'==i||d i')=true-> ∀e∈x'.1.after,Region.binds .any e=true->(e.on==i||d e.on)=true:=fun i' x' hx' hd' e he hb=>by
   by_cases hii:i'=i
   ·subst hii;rw[hS _ _ ho]at hx';obtain rfl:(o,Om)=x':=by simpa using hx'
    rw[hpre e he hb,Bool.or_true]
   ·rw[show(i'==i)=false by simpa using hii,Bool.false_or]at hd';rw[hcl i' x' hx' hd' e he hb,Bool.or_true]
  have hof: ∀j,(j==i||d j)=false->d j=false:=fun j hj=>by
   rw[Bool.or_eq_false_iff]at hj;exact hj.2
  rcases Ux hd hC hsel (mkL l r) a a w' (fun hh=>hw _ hmem hh hd) hr hrdy rfl (fun _ _=>rfl)with ⟨h1,h2⟩|⟨h1,h2⟩
  ·rw[if_neg (by rw[h1];decide)];exact⟨fun x hx hq hdx=>hw x hx hq (hof _ hdx),Sq val i undef,(Vq hd undef _ _ hrdy).symm,h2,hcl'⟩
  ·rw[if_pos h1];refine Ts h2 fun v w2 ⟨h3,h4⟩=>⟨fun x hx hq hdx=>?_,Sq val i v,(Vq hd v _ _ hrdy).symm,h4,hcl'⟩
   cases hf:fs.contains i with
   |false=>exact h3 hf
   |true=>
    rcases hfin hf (x.1,x.2.2) (X3 r x hx).2 with h5|h5
    ·rw[hq]at h5;cases h5
    ·have h6:=hof _ hdx;rw[hwait x.1 h5]at h6;cases h6
section
variable {ops:Array Oper}{C:World->Prop}{Q:Act->World->Prop}{fn:Nat->Bool}{i:Nat}{L:DL}{a:Act}{w:World}{o:Oper}
theorem XY (h: ∀w2,Below w.heap.size w w2->Q a w2):EW P ops C Q fn [] a w:=⟨h⟩
theorem TU (hw:Region.wanted o (yielded ops a.tmps)=true)(v:Value)(hr: ∀w2,C w2->YB P (fun u w3=>u=v/\Below w2.heap.size w2 w3) w2 ((execOp a.eval o).run P w2))(h:EW P ops C Q fn L (a.put o.dst v) w):EW P ops C Q fn ((i,o,false)::L) a w:=
 ⟨.inr ⟨hw,v,hr,h.out⟩⟩
theorem VK (hw:Region.wanted o (yielded ops a.tmps)=true)(h: ∀w2,Below w.heap.size w w2->YB P (fun v w3=>(fn i=false->C w3)/\EW P ops C Q fn L (a.put o.dst v) w3) w2 ((execOp a.eval o).run P w2)):EW P ops C Q fn ((i,o,true)::L) a w:=
 ⟨.inr ⟨hw,fun w2 hb=>Z8 (h w2 hb) fun _ _ ⟨h1,h2⟩=>⟨h1,h2.out⟩⟩⟩
theorem Vr (hw:Region.wanted o (yielded ops a.tmps)=true)(v:Value)(hr: ∀w,(execOp a.eval o).run P w= .ok (.value v) w)(h:EW P ops C Q fn L (a.put o.dst v) w):EW P ops C Q fn ((i,o,false)::L) a w:=
 TU hw v (fun w2 _=>by rw[hr];exact⟨rfl,Below.refl _ _⟩) h
theorem MR (hw:Region.wanted o (yielded ops a.tmps)=true)(v:Value)(hr: ∀w,C w->(execOp a.eval o).run P w= .ok (.value v) w)(h:EW P ops C Q fn L (a.put o.dst v) w):EW P ops C Q fn ((i,o,false)::L) a w:=
 TU hw v (fun w2 hc=>by rw[hr w2 hc];exact⟨rfl,Below.refl _ _⟩) h
theorem Bu {t:Tmp}{v:Value}(hw:Region.wanted o (yielded ops a.tmps)=true)(ho:o.op= .move (.tmp t))(hx:a.tmps.toList[t]?=some v)(h:EW P ops C Q fn L (a.put o.dst v) w):EW P ops C Q fn ((i,o,false)::L) a w:=
 Vr hw v (fun w=>by unfold execOp;rw[ho];simp only[WA hx];rfl) h
theorem UX {t:Tmp}{v:Value}(hw:Region.wanted o (yielded ops a.tmps)=true)(ho:o.op= .assign (.tmp t))(hx:a.tmps.toList[t]?=some v)(h:EW P ops C Q fn L (a.put o.dst v) w):EW P ops C Q fn ((i,o,false)::L) a w:=
 Vr hw v (fun w=>by unfold execOp;rw[ho];simp only[WA hx];rfl) h
theorem Uy {x:Operand}{k:Nat}{vs:Array Value}{v:Value}(hw:Region.wanted o (yielded ops a.tmps)=true)(ho:o.op= .extract x k)(hx:a.eval x= .tuple vs)(hv:vs.toList[k]?=some v)(h:EW P ops C Q fn L (a.put o.dst v) w):EW P ops C Q fn ((i,o,false)::L) a w:=by
 have hv':vs[k]?=some v:=by rw[<-Array.getElem?_toList];exact hv
 refine Vr hw v (fun w=>?_) h;unfold execOp;rw[ho];simp only[hx,Instr.extract];simp[hv']
theorem Fw (hw:Region.wanted o (yielded ops a.tmps)=true){c x y:Operand}(b:Bool){v:Value}(ho:o.op= .pick c x y)(hc:a.eval c= .bool b)(hv:a.eval (if b then x else y)=v)(h:EW P ops C Q fn L (a.put o.dst v) w):EW P ops C Q fn ((i,o,false)::L) a w:=by
 refine Vr hw v (fun w=>?_) h;subst hv;unfold execOp;rw[ho];simp only[hc]
 cases b<;>rfl
theorem TV {fnc:Func}(hw:Region.wanted o (yielded ops a.tmps)=true)(f:FuncId)(args:Array Operand)(ts:Array TypeId)
  (ho:o.op= .call {callee:=.value (.func f),args:=args,argTypes:=ts})(hf:P.funcs[f]?=some fnc)(hb:(fnc.name== "runtime.NumGoroutine" ||fnc.body.isNone)=false)
  (vs:Array Value)(hv':args.toList.map a.eval=vs.toList)(v:Value)(hc: ∀w,C w->Calls P f vs w (Rt v w))
  (h:EW P ops C Q fn L (a.put o.dst v) w):EW P ops C Q fn ((i,o,false)::L) a w:=
 TU hw v (fun w2 hcw=>by
  rw[Rc f args ts ho hf hb vs hv' w2]
  exact⟨rfl,(hc w2 hcw).mono fun e w' ⟨h1,h2⟩=>⟨v,h1,rfl,h2⟩⟩) h
theorem XZ {fnc:Func}(hw:Region.wanted o (yielded ops a.tmps)=true)(f:FuncId)(args:Array Operand)(ts:Array TypeId)
  (ho:o.op= .call {callee:=.value (.func f),args:=args,argTypes:=ts})(hf:P.funcs[f]?=some fnc)(hb:(fnc.name== "runtime.NumGoroutine" ||fnc.body.isNone)=false)
  (vs:Array Value)(hv':args.toList.map a.eval=vs.toList)
  (h: ∀w2,Below w.heap.size w w2->Calls P f vs w2 fun e w'=> ∃v,e= .returned v/\(fn i=false->C w')/\EW P ops C Q fn L (a.put o.dst v) w'):EW P ops C Q fn ((i,o,true)::L) a w:=
 VK hw fun w2 hb2=>by
  rw[Rc f args ts ho hf hb vs hv' w2];exact⟨rfl,(h w2 hb2).mono fun e w' ⟨v,h1,h2,h3⟩=>⟨v,h1,h2,h3⟩⟩
theorem Wq (hw:Region.wanted o (yielded ops a.tmps)=true)(ty:TypeId)(x:Operand)(ho:o.op= .load ty x)(g off:Nat)(hx:a.eval x= .pointer (some ⟨g,off,none⟩)){t:TypeId}{cs:Array Value}(hg: ∀w,C w->WD w g cs t)
  (sub:Array Value)(hs: ∀j v,sub.toList[j]?=some v->cs[off+j]?=some v)(d:TypeDesc)(hu:P.underlying ty=some d)(hd:d.isRow=true)(hi:(P.info? ty).map (·.size)=some sub.size)
  (h:EW P ops C Q fn L (a.put o.dst (.agg sub)) w):EW P ops C Q fn ((i,o,false)::L) a w:=
 MR hw _ (fun w2 hc=>YT ty x ho g off hx (hg w2 hc) sub hs d hu hd hi) h
theorem Yh (hw:Region.wanted o (yielded ops a.tmps)=true)(ty:TypeId)(x:Operand)(ho:o.op= .load ty x)(g k:Nat)(hx:a.eval x= .pointer (some ⟨g,k,none⟩)){t:TypeId}{cs:Array Value}(hg: ∀w,C w->WD w g cs t)(v:Value)(hc:cs[k]?=some v)
  (ha: ∀w,(isAgg ty).run P w= .ok false w)(h:EW P ops C Q fn L (a.put o.dst v) w):EW P ops C Q fn ((i,o,false)::L) a w:=by
 refine MR hw v (fun w2 hc2=>?_) h;unfold execOp;simp only[ho,hx,Instr.loadAt,Instr.sureAddr,Sem.run_bind,Sem.run_pure,Result.andThen_ok,YC w2 g k ty v ha (((hg w2 hc2).cell k).trans hc)]
theorem Fx (hw:Region.wanted o (yielded ops a.tmps)=true)(t e:TypeId)(len:Nat)(parts:Array (Nat×Operand))(ho:o.op= .buildSlice t len parts)(cells:Array Value)(ie:TypeInfo)(z:Value)
  (hu:P.underlying t=some (.slice e))(hie:P.info? e=some ie)(hz:ie.zero=some z)(hsmall: ¬len*ie.size>2^24)(hpos: ¬len*ie.size=0)
  (vals:List (Nat×Value))(hv:parts.toList.map (fun x=>(x.1,a.eval x.2))=vals)
  (hf:Instr.fill (fun i=>some (i*ie.size,ie.size)) ((Array.range (len*ie.size)).map (z.cells[· %z.cells.size]!)) vals=some cells)
  (h: ∀w2,Below w.heap.size w w2-> ∀g w3,w2.heap.size<=g->Row w3 g cells e->Below w2.heap.size w2 w3->(fn i=false->C w3)/\EW P ops C Q fn L (a.put o.dst (.slice (some ⟨g,0,none⟩) len len)) w3):EW P ops C Q fn ((i,o,true)::L) a w:=by
 have hf':Instr.fill (fun i=>some (i*ie.size,ie.size)) ((Array.range (len*ie.size)).map (z.cells[· %z.cells.size]!)) (parts.map fun(i,x)=>(i,a.eval x)).toList=some cells:=by
  rw[Array.toList_map];rw[<-hv]at hf;exact hf
 refine VK hw fun w2 hb=>?_
 have hr:(execOp a.eval o).run P w2= .ok (.value (.slice (some ⟨w2.heap.size,0,none⟩) len len)) (w2.alloc (.cells cells e)):=by
  unfold execOp;simp only[ho,Sem.run_bind,run_buildSlice w2 t e len _ cells ie z hu hie hz hsmall hpos hf',Result.andThen_ok];rfl
 rw[hr];exact h w2 hb w2.heap.size _ (Nat.le_refl _) (Row.new _ _ _) (Z5 _)
theorem Wr (hw:Region.wanted o (yielded ops a.tmps)=true)(ty:TypeId)(x y:Operand)(ho:o.op= .store ty x y)(g k:Nat)(hx:a.eval x= .pointer (some ⟨g,k,none⟩)){t:TypeId}{old:Array Value}(hg:Row w g old t)(v:Value)(hy:a.eval y=v)
  (hv:v.cells=#[v])(h1:v.oneCell'=true)(hz:(P.info? ty).map (·.size)=some 1)(hi:k<old.size)(c:Array Value)(hc:old.setIfInBounds k v=c)
  (h: ∀w2,Below w.heap.size w w2-> ∀w3,Row w3 g c t->Kept [g] w2 w3->(fn i=false->C w3)/\EW P ops C Q fn L (a.put o.dst undef) w3):EW P ops C Q fn ((i,o,true)::L) a w:=by
 subst hc;refine VK hw fun w2 hb=>?_
 have hg2:=hg.belowAll hb;have hcell:w2.cell? ⟨g,k,none⟩=some old[k]:=(hg2.cell k).trans (by simp[hi])
 have hr:(execOp a.eval o).run P w2= .ok .skip (w2.setCell ⟨g,k,none⟩ v):=by
  unfold execOp;simp only[ho,hx,hy,Instr.storeAt,Instr.sureAddr,Sem.run_bind,Sem.run_pure,Result.andThen_ok,Vo w2 _ k ty v _ hv h1 hz hcell (hg2.frozen k)]
 rw[hr];exact h w2 hb _ (hg2.setCell _ _) (XO (XV _ _ _ _))
end
end
section
variable {P:Program}{ops:Array Oper}{Q:Exit->Act->World->Prop}{rest:List Oper}{o:Oper}{a:Act}{w:World}
theorem Y4 (hw:Region.wanted o (yielded ops a.tmps)=true)(t:TypeId)(x:Operand)(ho:o.op= .box t x)(v:Value)(hx:a.eval x=v)(hv:v.cells=#[v])
  (h: ∀g w',w.heap.size<=g->Row w' g #[v] t->Kept [] w w'->PW P ops Q rest (a.put o.dst (.pointer (some ⟨g,0,none⟩))) w'):PW P ops Q (o::rest) a w:=
 W5 hw (fun g=>.pointer (some ⟨g,0,none⟩)) t #[v] (by unfold execOp;simp only[ho,hx,Instr.box,Sem.run_bind,newVar,newRow,hv];rfl) h
theorem Yd {fn:Func}(hw:Region.wanted o (yielded ops a.tmps)=true)(f:FuncId)(t:Tmp)(args:Array Operand)(ts:Array TypeId)
  (ho:o.op= .call {callee:=.value (.tmp t),args:=args,argTypes:=ts})(caps:Array Value)(hcl:a.eval (.tmp t)= .func (.func f) #[] caps)(hf:P.funcs[f]?=some fn)(hb:(fn.name== "runtime.NumGoroutine" ||fn.body.isNone)=false)
  (vs:Array Value)(hv':args.toList.map a.eval=vs.toList)(v:Value)(hc:Calls P f (vs++caps) w (Rt v w))
  (h: ∀w',Kept [] w w'->PW P ops Q rest (a.put o.dst v) w'):PW P ops Q (o::rest) a w:=by
 refine⟨?_⟩;unfold wpList;rw[if_pos hw];left
 have hv:args.map a.eval=vs:=by apply Array.toList_inj.1;rw[Array.toList_map];exact hv'
 have hr:=ZM (P:=P) hf hb (vs++caps) w
 have hd:(execOp a.eval o).run P w= .ok (.enter f (vs++caps)) w:=by
  unfold execOp;simp only[ho,resolve,hv,hcl];simp[Deferred.ofValue,invoke,hr]
 unfold Oper.wp;rw[hd,Oper.upon_enter]
 exact hc.mono fun e w' ⟨he,hb'⟩=>by
  subst he;exact(h w' (Kept.ofBelow hb')).out
end
section
variable {P:Program}{ops:Array Oper}{C:World->Prop}{Q:Act->World->Prop}{fn:Nat->Bool}{i:Nat}{L:DL}{a:Act}{w:World}{o:Oper}
theorem e_m {t:Tmp}{v:Value}(h:EW P ops C Q fn L (a.put o.dst v) w)(hw:Region.wanted o (yielded ops a.tmps)=true:=by rfl)(ho:o.op= .move (.tmp t):=by exact rfl)(hx:a.tmps.toList[t]?=some v:=by exact rfl):EW P ops C Q fn ((i,o,false)::L) a w:=Bu hw ho hx h
theorem e_v (v:Value)(hr: ∀w,(execOp a.eval o).run P w= .ok (.value v) w)(h:EW P ops C Q fn L (a.put o.dst v) w)(hw:Region.wanted o (yielded ops a.tmps)=true:=by rfl):EW P ops C Q fn ((i,o,false)::L) a w:=Vr hw v hr h
end
section
variable {P:Program}
def MS (o:Oper):Bool:=match o.op with
 | .move _| .assign _| .load _ _| .binOp _ _ _ _ _| .unOp _ _ _| .slice _ _ _ _ _| .fieldAddr _ _ _| .indexAddr _ _ _| .extract _ _| .makeFunc _ _ _| .build _ _=>true
 |_=>false
theorem Uz (s:Sem Value)(w:World)(f:FuncId)(args:Array Value)(w':World):((do pure (Next.value (<-s))):Sem Next).run P w≠ .ok (.enter f args) w':=by
 intro h;simp only[Sem.run_bind]at h
 cases hs:s.run P w with
 |ok v w2=>rw[hs]at h;simp[Result.andThen_ok]at h
 |halt x w2=>rw[hs]at h;cases h
theorem TW {o:Oper}(h:MS o=true)(ρ:Operand->Value)(w:World)(f:FuncId)(args:Array Value)(w':World):(execOp ρ o).run P w≠ .ok (.enter f args) w':=by
 unfold execOp;unfold MS at h;generalize o.op=q at h ⊢
 cases q<;>first|(exact absurd (show false=true from h) (by decide))|(exact Uz _ _ _ _ _)|(intro h2;cases h2)
theorem Qn {E E':Value->World->Prop}{w:World}{r:Result Next}(hn: ∀f args w',r≠ .ok (.enter f args) w')(h:YB P E w r)(h':YB P E' w r):YB P (fun v w2=>E v w2/\E' v w2) w r:=by
 cases r with
 |ok n w'=>
  cases n<;>simp only[YB]at h h' ⊢
  case value u=>exact⟨h,h'⟩
  case skip=>exact⟨h,h'⟩
  case enter f args=>exact absurd rfl (hn f args w')
 |halt x w'=>simp only[YB]at h
def OK (ops:Array Oper)(wf:Nat->Nat->Bool)(i:Nat)(o:Oper):DL->Bool
 |[]=>false
 |y::l=>
  if y.1==i then l.all fun u=>u.1 !=i&&(match u.2.1.dst with|none=>true|some s=>o.dst !=some s&&(!(o.looksAt ops).contains s||wf u.1 i))
  else(match y.2.1.dst with|none=>true|some s=>o.dst !=some s&&(!(o.looksAt ops).contains s||wf i y.1))&&(!y.2.2||wf i y.1)&&OK ops wf i o l
theorem Rd {l:List Oper}{d:Nat->Bool}{i:Nat}{o:Oper}{wf:Nat->Nat->Bool}(ho:l[i]?=some o)(hwait: ∀j,wf i j=true->d j=true)(hlater: ∀j y,l[j]?=some y->wf j i=true->d j=false):
  ∀L:DL,(∀x∈L,l[x.1]?=some x.2.1)->OK l.toArray wf i o L=true-> ∃hard,Rdy l.toArray d i o hard L/\(i,o,hard)∈L
 |[],_,h=>by simp[OK]at h
 |y::L,hL,h=>by
  unfold OK at h;by_cases e:y.1=i
  ·rw[if_pos (by simpa using e)]at h;have hy:=hL y (List.mem_cons_self ..);rw[e,ho]at hy;obtain⟨j,p,f⟩:=y;obtain rfl:j=i:=e;obtain rfl:o=p:=by simpa using hy
   refine⟨f,.inr ⟨rfl,fun u hu=>?_⟩,List.mem_cons_self ..⟩;have h1:=List.all_eq_true.1 h u hu;rw[Bool.and_eq_true]at h1;refine⟨by simpa using h1.1,fun s hs e=>?_,fun s hs hl=>?_⟩
   ·have h2:=h1.2;rw[e]at h2;simp only[Bool.and_eq_true,bne_iff_ne,ne_eq]at h2;exact h2.1 hs
   ·have h2:=h1.2;rw[hs]at h2;simp only[Bool.and_eq_true,Bool.or_eq_true,Bool.not_eq_true']at h2;rcases h2.2 with h3|h3
    ·rw[List.contains_iff_mem.2 hl]at h3;cases h3
    ·exact hlater u.1 u.2.1 (hL u (List.mem_cons_of_mem _ hu)) h3
  ·rw[if_neg (by simpa using e)]at h;simp only[Bool.and_eq_true]at h;obtain⟨⟨h1,h2⟩,h3⟩:=h;obtain⟨hard,hr,hm⟩:=Rd ho hwait hlater L (fun x hx=>hL x (List.mem_cons_of_mem _ hx)) h3;refine⟨hard,.inl ⟨e,fun s hs e'=>?_,fun s hs hl=>?_,fun hh=>?_,hr⟩,List.mem_cons_of_mem _ hm⟩
   ·rw[e']at h1;simp only[Bool.and_eq_true,bne_iff_ne,ne_eq]at h1;exact h1.1 hs
   ·rw[hs]at h1;simp only[Bool.and_eq_true,Bool.or_eq_true,Bool.not_eq_true']at h1;rcases h1.2 with h4|h4
    ·rw[List.contains_iff_mem.2 hl]at h4;cases h4
    ·exact hwait y.1 h4
   ·rw[hh]at h2;exact hwait y.1 (by simpa using h2)
def wfP (l:List Oper)(x y i j:Nat):Bool:=Yr (V4 l) i j||(i==x&&j==y)
def AN (l:List Oper)(fs:List Nat)(x y:Nat)(r:List (Nat×Bool)):Bool:=
 l.zipIdx.all fun(u:Oper×Nat)=>(match u.1.op with| .select _ _=>false|_=>true)&&(u.1.after.all fun e=> !Region.binds .any e||decide (e.on<u.2))&&OK l.toArray (wfP l x y) u.2 u.1 (mkL l r)&&
  (!fs.contains u.2||r.all fun v=>v.2||Yr (V4 l) u.2 v.1)
structure ST (P:Program)(l:List Oper)(C:World->Prop)(Q:Act->World->Prop)(fs:List Nat)(r:List (Nat×Bool))(a:Act)(d:Nat->Bool)(val:Nat->Value)(a':Act)(w':World):Prop where
 c: ∀x∈mkL l r,x.2.2=false->d x.1=false->C w'
 e:a'=WV val d (mkL l r) a
 o:RE P l.toArray C Q (fun i=>fs.contains i) d val (mkL l r) a w'
def CLd (l:List Oper)(d:Nat->Bool):Prop:= ∀i (x:Oper×Sp),(V4 l)[i]?=some x->d i=true-> ∀e∈x.1.after,Region.binds .any e=true->d e.on=true
theorem UA {l:List Oper}{i:Nat}{o:Oper}(ho:l[i]?=some o):(V4 l)[i]?=some (o,Om):=by
 unfold V4;rw[List.getElem?_map,ho];rfl
theorem CLd.up {l:List Oper}{d:Nat->Bool}(h:CLd l d){i:Nat}{o:Oper}(ho:l[i]?=some o)(hpre: ∀e∈o.after,Region.binds .any e=true->d e.on=true):CLd l (fun j=>j==i||d j):=fun i' x' hx' hd' e he hb=>by
 show(e.on==i||d e.on)=true
 by_cases hii:i'=i
 ·subst hii;rw[UA ho]at hx';obtain rfl:(o,Om)=x':=by simpa using hx'
  rw[hpre e he hb,Bool.or_true]
 ·have hd2:(i'==i||d i')=true:=hd';rw[show(i'==i)=false by simpa using hii,Bool.false_or]at hd2;rw[h i' x' hx' hd2 e he hb,Bool.or_true]
theorem JK {l:List Oper}{C:World->Prop}(hC: ∀w w2,C w->Below w.heap.size w w2->C w2){Q:Act->World->Prop}{fs:List Nat}{r:List (Nat×Bool)}{a:Act}{W:World}(h0:C W)(h:EW P l.toArray C Q (fun i=>fs.contains i) (mkL l r) a W):
  ST P l C Q fs r a (fun _=>false) (fun _=>undef) a W.drew:=by
 have hb:Below W.heap.size W W.drew:=(Below.refl _ _).drew;refine⟨fun _ _ _ _=>hC _ _ h0 hb,?_,RE.later _ _ _ _ h.out hb⟩
 have: ∀(L:DL) (b:Act),WV (fun _=>undef) (fun _=>false) L b=b:=fun L=>by
  induction L with
  |nil=>intro b;rfl
  |cons x L ih=>
   intro b;unfold WV;rw[if_neg (by decide)];exact ih b
 exact(this _ _).symm
theorem Fy {l:List Oper}{C:World->Prop}{Q:Act->World->Prop}{fs:List Nat}{r:List (Nat×Bool)}{a:Act}{d:Nat->Bool}{val:Nat->Value}{a':Act}{w':World}(h:ST P l C Q fs r a d val a' w')(hd: ∀j,j<l.length->d j=true):Q a' w':=by
 obtain⟨_,rfl,hr⟩:=h;exact RE.done _ _ _ (fun x hx=>hd x.1 (List.getElem?_eq_some_iff.1 (X3 r x hx).1).1) hr
section
variable {ops:Array Oper}{C:World->Prop}{Q:Act->World->Prop}{fn:Nat->Bool}{i:Nat}{L:DL}{a:Act}{w:World}{o:Oper}
end
end
section
variable {P:Program}{olds:Wz}{p:Nat->Nat}{W:World}{F:Act->(Nat->Option (TypeId×Array Value))->Prop}{n:Nat}{l:List Oper}{pl:List Sp}{a:Act}{ct:Nat->Option (TypeId×Array Value)}{o:Oper}
theorem MT (ty:TypeId)(x:Operand)(ho:o.op= .load ty x)(g i:Nat)(hx:a.eval x= .pointer (some ⟨g,i,none⟩)){t:TypeId}{cs:Array Value}(hg:WD W g cs t)(hS:g∉olds.map (·.1))(v:Value)(hc:cs[i]?=some v)
  (ha: ∀w,(isAgg ty).run P w= .ok false w)
  (h:MX P olds p W F (n+1) l pl (a.put o.dst v) ct):MX P olds p W F n (o::l) ((fun _=>v,[],none,[])::pl) a ct:=by
 refine XD v [] (fun w hk _=>?_) h;unfold execOp;simp only[ho,hx,Instr.loadAt,Instr.sureAddr,Sem.run_bind,Sem.run_pure,Result.andThen_ok,YC w g i ty v ha ((hk.rowR hg hS).cell i |>.trans hc)]
end
section
variable {P:Program}
def TX (o:Oper):Bool:=MS o||(match o.op with
 | .buildSlice _ _ _=>true
 | .makeSlice _ _ _=>true
 |_=>false)
theorem UY {o:Oper}(h:TX o=true)(ρ:Operand->Value)(w:World)(f:FuncId)(args:Array Value)(w':World):(execOp ρ o).run P w≠ .ok (.enter f args) w':=by
 unfold TX at h;rw[Bool.or_eq_true]at h;rcases h with h|h
 ·exact TW h _ _ _ _ _
 ·unfold execOp;generalize o.op=q at h ⊢
  cases q<;>first|(exact absurd (show false=true from h) (by decide))|(exact Uz _ _ _ _ _)
def wfL (l:List Oper)(ps:List (Nat×Nat))(i j:Nat):Bool:=Yr (V4 l) i j||ps.any fun p=>(i==p.1||Yr (V4 l) i p.1)&&j==p.2
def MU (l:List Oper)(fs:List Nat)(ps:List (Nat×Nat))(r:List (Nat×Bool)):Bool:=
 l.zipIdx.all fun(u:Oper×Nat)=>(match u.1.op with| .select _ _=>false|_=>true)&&(u.1.after.all fun e=> !Region.binds .any e||decide (e.on<u.2))&&OK l.toArray (wfL l ps) u.2 u.1 (mkL l r)&&
  (!fs.contains u.2||r.all fun v=>v.2||Yr (V4 l) u.2 v.1)
theorem JL {l:List Oper}{C:World->Prop}(hC: ∀w w2,C w->Below w.heap.size w w2->C w2){Q:Act->World->Prop}{fs:List Nat}{r:List (Nat×Bool)}{ps:List (Nat×Nat)}(hchk:MU l fs ps r=true){a:Act}{d:Nat->Bool}{val:Nat->Value}{a':Act}{w':World}
  (hst:ST P l C Q fs r a d val a' w')(hcl:CLd l d){i:Nat}{o:Oper}(ho:l[i]?=some o)(hd:d i=false)(hpre: ∀e∈o.after,Region.binds .any e=true->d e.on=true)(hok: ∀p∈ps,d p.1=true->d p.2=true)(hnx: ∀p∈ps,i=p.1->d p.2=true):
  (Region.wanted o (yielded l.toArray a'.tmps)=false/\ST P l C Q fs r a (fun j=>j==i||d j) (Sq val i undef) (a'.put o.dst undef) w')∨
  (Region.wanted o (yielded l.toArray a'.tmps)=true/\YB P (fun v w2=>ST P l C Q fs r a (fun j=>j==i||d j) (Sq val i v) (a'.put o.dst v) w2) w' ((execOp a'.eval o).run P w')):=by
 obtain⟨hw,rfl,hr⟩:=hst;unfold MU at hchk
 have h1:(o,i)∈l.zipIdx:=by rw[List.mem_zipIdx_iff_getElem?];exact ho
 have h2:=List.all_eq_true.1 hchk _ h1;simp only[Bool.and_eq_true]at h2;obtain⟨⟨⟨a1,a2⟩,a3⟩,a4⟩:=h2;have hsel: ∀cs b,o.op≠ .select cs b:=fun cs b e=>(by rw[e]at a1;cases a1)
 have hW: ∀j,Yr (V4 l) i j=true->d j=true:=fun j hj=>Xd hcl _ i j _ (UA ho) hpre hj
 have hwait: ∀j,wfL l ps i j=true->d j=true:=fun j hj=>by
  unfold wfL at hj;rw[Bool.or_eq_true]at hj;rcases hj with hj|hj
  ·exact hW j hj
  ·obtain⟨p,hp,hq⟩:=List.any_eq_true.1 hj;rw[Bool.and_eq_true,Bool.or_eq_true]at hq;have e2:j=p.2:=by simpa using hq.2
   rw[e2];rcases hq.1 with h|h
   ·exact hnx p hp (by simpa using h)
   ·exact hok p hp (hW _ h)
 have hlater: ∀j u,l[j]?=some u->wfL l ps j i=true->d j=false:=fun j u hu hj=>by
  cases hdj:d j
  ·rfl
  ·have hR: ∀k,Yr (V4 l) j k=true->d k=true:=fun k hk=>Xd hcl _ j k _ (UA hu) (hcl j _ (UA hu) hdj) hk
   exfalso
   have:d i=true:=by
    unfold wfL at hj;rw[Bool.or_eq_true]at hj;rcases hj with hj|hj
    ·exact hR i hj
    ·obtain⟨p,hp,hq⟩:=List.any_eq_true.1 hj;rw[Bool.and_eq_true,Bool.or_eq_true]at hq;have e2:i=p.2:=by simpa using hq.2
     rw[e2];rcases hq.1 with h|h
     ·exact hok p hp (by rw[<-(by simpa using h:j=p.1)];exact hdj)
     ·exact hok p hp (hR _ h)
   rw[hd]at this;cases this
 obtain⟨hard,hrdy,hmem⟩:=Rd ho hwait hlater (mkL l r) (fun x hx=>(X3 r x hx).1) a3
 have hof: ∀j,(j==i||d j)=false->d j=false:=fun j hj=>by
  rw[Bool.or_eq_false_iff]at hj;exact hj.2
 rcases Ux hd hC hsel (mkL l r) a a w' (fun hh=>hw _ hmem hh hd) hr hrdy rfl (fun _ _=>rfl)with ⟨h1,h2⟩|⟨h1,h2⟩
 ·exact .inl ⟨h1,fun x hx hq hdx=>hw x hx hq (hof _ hdx),(Vq hd undef _ _ hrdy).symm,h2⟩
 ·refine .inr ⟨h1,Z8 h2 fun v w2 ⟨h3,h4⟩=>⟨fun x hx hq hdx=>?_,(Vq hd v _ _ hrdy).symm,h4⟩⟩
  cases hf:fs.contains i with
  |false=>exact h3 hf
  |true=>
   rw[hf]at a4;simp only[Bool.not_true,Bool.false_or]at a4;have h5:=List.all_eq_true.1 a4 (x.1,x.2.2) (X3 r x hx).2;rw[Bool.or_eq_true]at h5;rcases h5 with h5|h5
   ·rw[hq]at h5;cases h5
   ·have h6:=hof _ hdx;rw[hW x.1 h5]at h6;cases h6
inductive OT where
 |leaf (r:List (Nat×Bool))
 |node (A B:Nat) (s t:OT)
def OT.chk (l:List Oper)(fs:List Nat):List (Nat×Nat)->OT->Bool
 |ps,.leaf r=>MU l fs ps r
 |ps,.node A B s t=>A !=B&&(l.zipIdx.all fun(x:Oper×Nat)=>x.2==A||x.2==B||TX x.1||Yr (V4 l) x.2 A||Yr (V4 l) x.2 B)&&OT.chk l fs ((B,A)::ps) s&&OT.chk l fs ((A,B)::ps) t
def OT.inv (P:Program)(l:List Oper)(C:World->Prop)(Q:Act->World->Prop)(fs:List Nat)(a:Act)(d:Nat->Bool)(val:Nat->Value)(a':Act)(w':World):OT->Prop
 | .leaf r=>ST P l C Q fs r a d val a' w'
 | .node A B s t=>(d A=false/\d B=false/\OT.inv P l C Q fs a d val a' w' s/\OT.inv P l C Q fs a d val a' w' t)∨(d A=true/\OT.inv P l C Q fs a d val a' w' s)∨(d B=true/\OT.inv P l C Q fs a d val a' w' t)
def OT.all (P:Program)(l:List Oper)(C:World->Prop)(Q:Act->World->Prop)(fs:List Nat)(a:Act)(W:World):OT->Prop
 | .leaf r=>EW P l.toArray C Q (fun i=>fs.contains i) (mkL l r) a W
 | .node _ _ s t=>OT.all P l C Q fs a W s/\OT.all P l C Q fs a W t
theorem OT.start {l:List Oper}{C:World->Prop}(hC: ∀w w2,C w->Below w.heap.size w w2->C w2){Q:Act->World->Prop}{fs:List Nat}{a:Act}{W:World}(h0:C W): ∀T:OT,T.all P l C Q fs a W->T.inv P l C Q fs a (fun _=>false) (fun _=>undef) a W.drew
 | .leaf _,h=>JK hC h0 h
 | .node _ _ s t,h=>.inl ⟨rfl,rfl,OT.start hC h0 s h.1,OT.start hC h0 t h.2⟩
theorem OT.fin {l:List Oper}{C:World->Prop}{Q:Act->World->Prop}{fs:List Nat}{a:Act}{d:Nat->Bool}{val:Nat->Value}{a':Act}{w':World}(hd: ∀j,j<l.length->d j=true): ∀T:OT,T.inv P l C Q fs a d val a' w'->Q a' w'
 | .leaf _,h=>Fy h hd
 | .node _ _ s t,h=>by
  rcases h with ⟨_,_,h,_⟩|⟨_,h⟩|⟨_,h⟩
  ·exact OT.fin hd s h
  ·exact OT.fin hd s h
  ·exact OT.fin hd t h
theorem OT.lex {l:List Oper}{fs:List Nat}: ∀(T:OT) (ps:List (Nat×Nat)),T.chk l fs ps=true->(l.zipIdx.all fun(u:Oper×Nat)=>u.1.after.all fun e=> !Region.binds .any e||decide (e.on<u.2))=true
 | .leaf r,ps,h=>by
  rw[List.all_eq_true];intro x hx;have h2:=List.all_eq_true.1 (show MU l fs ps r=true from h) _ hx;simp only[Bool.and_eq_true]at h2;exact h2.1.1.2
 | .node A B s t,ps,h=>by
  unfold OT.chk at h;simp only[Bool.and_eq_true]at h;exact OT.lex s _ h.1.2
theorem OT.step {l:List Oper}{C:World->Prop}(hC: ∀w w2,C w->Below w.heap.size w w2->C w2){Q:Act->World->Prop}{fs:List Nat}{a:Act}{d:Nat->Bool}{val:Nat->Value}{a':Act}{w':World}(hcl:CLd l d){i:Nat}{o:Oper}(ho:l[i]?=some o)(hd:d i=false)(hpre: ∀e∈o.after,Region.binds .any e=true->d e.on=true):
  ∀(T:OT) (ps:List (Nat×Nat)),T.chk l fs ps=true->(∀p∈ps,d p.1=true->d p.2=true)->(∀p∈ps,i=p.1->d p.2=true)->T.inv P l C Q fs a d val a' w'->
  (Region.wanted o (yielded l.toArray a'.tmps)=false/\T.inv P l C Q fs a (fun j=>j==i||d j) (Sq val i undef) (a'.put o.dst undef) w')∨
  (Region.wanted o (yielded l.toArray a'.tmps)=true/\YB P (fun v w2=>T.inv P l C Q fs a (fun j=>j==i||d j) (Sq val i v) (a'.put o.dst v) w2) w' ((execOp a'.eval o).run P w'))
 | .leaf _,_,hc,hok,hnx,h=>JL hC hc h hcl ho hd hpre hok hnx
 | .node A B s t,ps,hc,hok,hnx,h=>by
  unfold OT.chk at hc;simp only[Bool.and_eq_true]at hc;obtain⟨⟨⟨hne,hp⟩,hcs⟩,hct⟩:=hc;have hAB:A≠B:=by simpa using hne
  have up: ∀{X:Nat},d X=true->(X==i||d X)=true:=fun h=>by rw[h,Bool.or_true]
  have S:(d B=true->d A=true)->(i=B->d A=true)->s.inv P l C Q fs a d val a' w'->_:=fun h1 h2 hi=>OT.step hC hcl ho hd hpre s ((B,A)::ps) hcs (fun p hp'=>by
   rcases List.mem_cons.1 hp' with rfl|hp'
   ·exact h1
   ·exact hok p hp') (fun p hp'=>by
   rcases List.mem_cons.1 hp' with rfl|hp'
   ·exact h2
   ·exact hnx p hp') hi
  have T:(d A=true->d B=true)->(i=A->d B=true)->t.inv P l C Q fs a d val a' w'->_:=fun h1 h2 hi=>OT.step hC hcl ho hd hpre t ((A,B)::ps) hct (fun p hp'=>by
   rcases List.mem_cons.1 hp' with rfl|hp'
   ·exact h1
   ·exact hok p hp') (fun p hp'=>by
   rcases List.mem_cons.1 hp' with rfl|hp'
   ·exact h2
   ·exact hnx p hp') hi
  rcases h with ⟨hA,hB,hs,ht⟩|⟨hA,hs⟩|⟨hB,ht⟩
  ·by_cases eA:i=A
   ·rcases S (fun h=>by rw[hB]at h;cases h) (fun h=>absurd (eA.symm.trans h) hAB) hs with ⟨h3,h4⟩|⟨h3,h4⟩
    ·exact .inl ⟨h3,.inr (.inl ⟨by simp[eA],h4⟩)⟩
    ·exact .inr ⟨h3,Z8 h4 fun v w2 h5=>.inr (.inl ⟨by simp[eA],h5⟩)⟩
   ·by_cases eB:i=B
    ·rcases T (fun h=>by rw[hA]at h;cases h) (fun h=>absurd h eA) ht with ⟨h3,h4⟩|⟨h3,h4⟩
     ·exact .inl ⟨h3,.inr (.inr ⟨by simp[eB],h4⟩)⟩
     ·exact .inr ⟨h3,Z8 h4 fun v w2 h5=>.inr (.inr ⟨by simp[eB],h5⟩)⟩
    ·have hA':(A==i||d A)=false:=by rw[hA,Bool.or_false];simpa using fun h=>eA h.symm
     have hB':(B==i||d B)=false:=by rw[hB,Bool.or_false];simpa using fun h=>eB h.symm
     have hW: ∀j,Yr (V4 l) i j=true->d j=true:=fun j hj=>Xd hcl _ i j _ (UA ho) hpre hj
     have hpl:TX o=true:=by
      have h3:=List.all_eq_true.1 hp (o,i) (by rw[List.mem_zipIdx_iff_getElem?];exact ho);simp only[Bool.or_eq_true]at h3;rcases h3 with (((h3|h3)|h3)|h3)|h3
      ·exact absurd (by simpa using h3) eA
      ·exact absurd (by simpa using h3) eB
      ·exact h3
      ·rw[hW A h3]at hA;cases hA
      ·rw[hW B h3]at hB;cases hB
     rcases S (fun h=>by rw[hB]at h;cases h) (fun h=>absurd h eB) hs with ⟨h3,h4⟩|⟨h3,h4⟩
     ·rcases T (fun h=>by rw[hA]at h;cases h) (fun h=>absurd h eA) ht with ⟨h5,h6⟩|⟨h5,h6⟩
      ·exact .inl ⟨h3,.inl ⟨hA',hB',h4,h6⟩⟩
      ·rw[h3]at h5;cases h5
     ·rcases T (fun h=>by rw[hA]at h;cases h) (fun h=>absurd h eA) ht with ⟨h5,h6⟩|⟨h5,h6⟩
      ·rw[h3]at h5;cases h5
      ·exact .inr ⟨h3,Z8 (Qn (UY hpl _ _) h4 h6) fun v w2 h7=>.inl ⟨hA',hB',h7.1,h7.2⟩⟩
  ·rcases S (fun _=>hA) (fun _=>hA) hs with ⟨h3,h4⟩|⟨h3,h4⟩
   ·exact .inl ⟨h3,.inr (.inl ⟨up hA,h4⟩)⟩
   ·exact .inr ⟨h3,Z8 h4 fun v w2 h5=>.inr (.inl ⟨up hA,h5⟩)⟩
  ·rcases T (fun _=>hB) (fun _=>hB) ht with ⟨h3,h4⟩|⟨h3,h4⟩
   ·exact .inl ⟨h3,.inr (.inr ⟨up hB,h4⟩)⟩
   ·exact .inr ⟨h3,Z8 h4 fun v w2 h5=>.inr (.inr ⟨up hB,h5⟩)⟩
theorem Re {id:Nat}{l:List Oper}{a:Act}{W:World}{Q:Exit->Act->World->Prop}(hm:P.follows .mixedOrders=true)(C:World->Prop)(hC: ∀w w2,C w->Below w.heap.size w w2->C w2)(h0:C W)(fs:List Nat)(T:OT)
  (h:T.all P l C (Q .normal) fs a W)(hc:T.chk l fs []=true):(Code.region id l.toArray true).wp P Q a W:=by
 refine Wi hm (fun d a' w'=>CLd l d/\ ∃val,T.inv P l C (Q .normal) fs a d val a' w') ?lex ?start ?step ?fin
 case lex=>exact T.lex [] hc
 case start=>exact⟨fun i x _ hd=>(by cases hd),_,OT.start hC h0 T h⟩
 case fin=>
  rintro d a' w' ⟨_,val,h⟩ hd;exact OT.fin hd T h
 case step=>
  rintro i o ho d a' w' ⟨hcl,val,hi⟩ hd hpre;have hup:=hcl.up ho hpre;rcases OT.step hC hcl ho hd hpre T [] hc (fun p hp=>by cases hp) (fun p hp=>by cases hp) hi with ⟨h3,h4⟩|⟨h3,h4⟩
  ·rw[if_neg (by rw[h3];decide)];exact⟨hup,_,h4⟩
  ·rw[if_pos h3];exact Ts h4 fun v w2 h5=>⟨hup,_,h5⟩
theorem TY {id:Nat}{l:List Oper}{a:Act}{W:World}{Q:Exit->Act->World->Prop}(hm:P.follows .mixedOrders=true)(fs:List Nat)(T:OT)
  (h:T.all P l (fun x=>Below W.heap.size W x) (Q .normal) fs a W)(hc:T.chk l fs []=true):(Code.region id l.toArray true).wp P Q a W:=
 Re hm (fun x=>Below W.heap.size W x) (fun _ _ h1 h2=>Zk h1 (Nat.le_refl _) h2) (Below.refl _ _) fs T h hc
theorem Ys {id:Nat}{l:List Oper}{a:Act}{W:World}{Q:Exit->Act->World->Prop}(hm:P.follows .mixedOrders=true)(fs:List Nat)(r:List (Nat×Bool))
  (h:EW P l.toArray (fun x=>Below W.heap.size W x) (Q .normal) (fun i=>fs.contains i) (mkL l r) a W)(hchk:MU l fs [] r=true):(Code.region id l.toArray true).wp P Q a W:=TY hm fs (.leaf r) h hchk
end
end Go.Proofs.YtcdahmommonnfaaGreatDoor
