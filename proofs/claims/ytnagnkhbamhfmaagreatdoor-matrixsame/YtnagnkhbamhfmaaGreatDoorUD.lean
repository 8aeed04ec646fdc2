import Derived.Test.YtnagnkhbamhfmaaGreatDoorFA
namespace Go.Proofs.YtnagnkhbamhfmaaGreatDoor
set_option linter.all false
section
variable {q:Nat}[NeZero q]
theorem U4 (hq:IsP q){a b:Fin q}(h:a*b=0):a=0∨b=0:=by
 have h1:=congrArg Fin.val h;rw[Fin.val_mul]at h1;have h2:a.val*b.val%q=0:=h1;rcases UV hq (Nat.dvd_of_mod_eq_zero h2)with h|h
 ·exact .inl (Fin.ext (Nat.eq_zero_of_dvd_of_lt h a.isLt))
 ·exact .inr (Fin.ext (Nat.eq_zero_of_dvd_of_lt h b.isLt))
def pev (x:Fin q):List (Fin q)->Fin q
 |[]=>0
 |c::t=>c+x*pev x t
def pdv (a:Fin q):List (Fin q)->List (Fin q)
 |[]=>[]
 |[_]=>[]
 |_::d::t=>pev a (d::t)::pdv a (d::t)
theorem OA (a x:Fin q): ∀f,pev x f=(x-a)*pev x (pdv a f)+pev a f
 |[]=>by simp only[pev,pdv];grind
 |[c]=>by simp only[pev,pdv];grind
 |c::d::t=>by
  have ih:=OA a x (d::t);show c+x*pev x (d::t)=(x-a)*(pev a (d::t)+x*pev x (pdv a (d::t)))+(c+a*pev a (d::t))
  generalize pev x (d::t)=T at*;generalize pev a (d::t)=Ta at*;generalize pev x (pdv a (d::t))=G at*
  grind
theorem T4 (a:Fin q): ∀f,(pdv a f).length=f.length-1
 |[]=>rfl
 |[_]=>rfl
 |_::d::t=>by
  have ih:=T4 a (d::t);show(pdv a (d::t)).length+1=_
  rw[ih];simp
theorem OB (a:Fin q): ∀f,pev a f=0->(∀c∈pdv a f,c=0)-> ∀c∈f,c=0
 |[],_,_=>by simp
 |[c],h,_=>by
  have e:c=0:=by
   have h':c+a*0=0:=h
   grind
  simp[e]
 |c::d::t,h,hz=>by
  have h1:pev a (d::t)=0:=hz _ (by simp[pdv]);have h2:=OB a (d::t) h1 fun x hx=>hz x (by simp[pdv,hx])
  have h':c+a*pev a (d::t)=0:=h;rw[h1]at h';have e:c=0:=by grind
  intro x hx;rcases List.mem_cons.1 hx with hx|hx
  ·rw[hx,e]
  ·exact h2 x hx
theorem R5 (hq:IsP q): ∀(xs f:List (Fin q)),f.length<=xs.length->xs.Nodup->(∀x∈xs,pev x f=0)-> ∀c∈f,c=0
 |[],f,hl,_,_=>by
  have:f=[]:=List.eq_nil_of_length_eq_zero (Nat.le_zero.1 hl);simp[this]
 |a::xs,f,hl,hn,hz=>by
  have ha:=hz a (by simp);have hn':=List.nodup_cons.1 hn;refine OB a f ha (R5 hq xs (pdv a f) ?_ hn'.2 fun x hx=>?_)
  ·rw[T4];simp only[List.length_cons]at hl;omega
  ·have hx0:=hz x (List.mem_cons_of_mem _ hx);rw[OA a x f,ha]at hx0;have hx1:(x-a)*pev x (pdv a f)=0:=by grind
   rcases U4 hq hx1 with h|h
   ·exact absurd (show x=a by grind) fun e=>hn'.1 (e▸hx)
   ·exact h
def pco (f:List (Fin q))(i:Nat):Fin q:=f.getD i 0
theorem Dl (i:Nat):pco ([]:List (Fin q)) i=0:=rfl
theorem IU (c:Fin q)(t:List (Fin q)):pco (c::t) 0=c:=rfl
theorem Wl (c:Fin q)(t:List (Fin q))(i:Nat):pco (c::t) (i+1)=pco t i:=rfl
theorem Wm (f:List (Fin q))(i:Nat)(h:f.length<=i):pco f i=0:=by
 unfold pco;rw[List.getD_eq_getElem?_getD,List.getElem?_eq_none h];rfl
theorem R6 (f:List (Fin q))(i:Nat)(h:i<f.length):pco f i=f[i]:=by
 unfold pco;rw[List.getD_eq_getElem?_getD,List.getElem?_eq_getElem h];rfl
theorem Uh (f:List (Fin q))(h: ∀i,pco f i=0)(x:Fin q):pev x f=0:=by
 induction f with
 |nil=>rfl
 |cons c t ih=>
  have h0:c=0:=h 0;have h1:=ih fun i=>h (i+1)
  show c+x*pev x t=0
  rw[h0,h1]
  grind
theorem U5: ∀(f g:List (Fin q)),(∀i,pco f i=pco g i)-> ∀x,pev x f=pev x g
 |[],g,h,x=>(Uh g (fun i=>(h i).symm) x).symm
 |c::t,[],h,x=>Uh (c::t) h x
 |c::t,d::u,h,x=>by
  have h0:c=d:=h 0;have h1:=U5 t u (fun i=>h (i+1)) x;show c+x*pev x t=d+x*pev x u
  rw[h0,h1]
def R7:List (Fin q)->List (Fin q)->List (Fin q)
 |[],g=>g
 |f,[]=>f
 |c::t,d::u=>(c+d)::R7 t u
theorem VD: ∀(f g:List (Fin q)) (i:Nat),pco (R7 f g) i=pco f i+pco g i
 |[],g,i=>by
  show pco g i=0+pco g i
  grind
 |c::t,[],i=>by
  show pco (c::t) i=pco (c::t) i+0
  grind
 |c::t,d::u,0=>rfl
 |c::t,d::u,i+1=>VD t u i
theorem XR: ∀(f g:List (Fin q)),(R7 f g).length=max f.length g.length
 |[],g=>by show g.length=_;simp
 |c::t,[]=>by show(c::t).length=_;simp
 |c::t,d::u=>by
  have:=XR t u;show(R7 t u).length+1=_
  simp only[List.length_cons];omega
theorem Us (x:Fin q): ∀(f g:List (Fin q)),pev x (R7 f g)=pev x f+pev x g
 |[],g=>by
  show pev x g=0+pev x g
  grind
 |c::t,[]=>by
  show pev x (c::t)=pev x (c::t)+0
  grind
 |c::t,d::u=>by
  have ih:=Us x t u;show(c+d)+x*pev x (R7 t u)=(c+x*pev x t)+(d+x*pev x u)
  rw[ih]
  grind
def NL (c:Fin q)(f:List (Fin q)):List (Fin q):=f.map (c* ·)
theorem Vc (c:Fin q)(f:List (Fin q)):(NL c f).length=f.length:=by simp[NL]
theorem SM (c:Fin q): ∀(f:List (Fin q)) (i:Nat),pco (NL c f) i=c*pco f i
 |[],i=>by
  show 0=c*0
  grind
 |d::t,0=>rfl
 |d::t,i+1=>SM c t i
theorem SN (c x:Fin q): ∀f,pev x (NL c f)=c*pev x f
 |[]=>by
  show 0=c*0
  grind
 |d::t=>by
  have ih:=SN c x t;show c*d+x*pev x (NL c t)=c*(d+x*pev x t)
  rw[ih]
  grind
theorem NM (hq:IsP q)(xs f g:List (Fin q))(hf:f.length<=xs.length)(hg:g.length<=xs.length)(hn:xs.Nodup)(h: ∀x∈xs,pev x f=pev x g)(i:Nat):pco f i=pco g i:=by
 have hz:=R5 hq xs (R7 f (NL (-1) g)) (by rw[XR,Vc];omega) hn fun x hx=>by
  rw[Us,SN,h x hx]
  grind
 have hc:pco (R7 f (NL (-1) g)) i=0:=by
  by_cases hi:i<(R7 f (NL (-1) g)).length
  ·rw[R6 _ _ hi];exact hz _ (List.getElem_mem hi)
  ·exact Wm _ _ (by omega)
 rw[VD,SM]at hc
 grind
def Yg:List (Fin q)->List (Fin q)
 |[]=>[]
 |c::t=>if Yg t=[]/\c=0 then[]else c::Yg t
theorem Yy: ∀(f:List (Fin q)) (i:Nat),pco (Yg f) i=pco f i
 |[],_=>rfl
 |c::t,i=>by
  unfold Yg
  split
  ·rename_i h
   cases i with
   |zero=>rw[IU,h.2];rfl
   |succ i=>rw[Wl,<-Yy t i,h.1];rfl
  ·cases i with
   |zero=>rfl
   |succ i=>rw[Wl,Wl];exact Yy t i
theorem R8 (x:Fin q)(f:List (Fin q)):pev x (Yg f)=pev x f:=U5 _ _ (Yy f) x
theorem Ut: ∀f:List (Fin q),(Yg f).length<=f.length
 |[]=>Nat.le_refl _
 |c::t=>by
  have:=Ut t;unfold Yg
  split
  ·simp
  ·simp only[List.length_cons];omega
theorem WG: ∀f:List (Fin q),Yg f=[]↔ ∀i,pco f i=0
 |[]=>⟨fun _ _=>rfl,fun _=>rfl⟩
 |c::t=>by
  have ih:=WG t;unfold Yg;constructor
  ·intro h i
   split at h
   ·rename_i hc
    cases i with
    |zero=>exact hc.2
    |succ i=>exact ih.1 hc.1 i
   ·cases h
  ·intro h;rw[if_pos ⟨ih.2 fun i=>h (i+1),h 0⟩]
theorem WH: ∀f g:List (Fin q),(∀i,pco f i=pco g i)->Yg f=Yg g
 |[],g,h=>((WG g).2 fun i=>(h i).symm).symm
 |c::t,[],h=>(WG (c::t)).2 h
 |c::t,d::u,h=>by
  have h0:c=d:=h 0;have h1:=WH t u fun i=>h (i+1)
  unfold Yg;rw[h0,h1]
theorem Vd (f:List (Fin q)):Yg (Yg f)=Yg f:=WH _ _ (Yy f)
theorem T5: ∀f:List (Fin q),Yg f≠[]->pco f ((Yg f).length-1)≠0
 |[],h=>absurd rfl h
 |c::t,h=>by
  have ih:=T5 t;unfold Yg at h ⊢
  split
  ·rename_i hc
   rw[if_pos hc]at h;exact absurd rfl h
  ·rename_i hc
   by_cases ht:Yg t=[]
   ·rw[ht];intro h0;exact hc ⟨ht,h0⟩
   ·have hl:(Yg t).length≠0:=fun e=>ht (List.eq_nil_of_length_eq_zero e)
    show pco (c::t) ((Yg t).length+1-1)≠0
    rw[show(Yg t).length+1-1=(Yg t).length-1+1 by omega,Wl];exact ih ht
theorem R9 (f:List (Fin q))(n:Nat)(hz: ∀i,n<=i->pco f i=0)(hn:n=0∨pco f (n-1)≠0):(Yg f).length=n:=by
 have h1:(Yg f).length<=n:=by
  by_cases e:Yg f=[]
  ·rw[e];exact Nat.zero_le _
  ·by_cases hl:(Yg f).length<=n
   ·exact hl
   ·exact absurd (hz ((Yg f).length-1) (by omega)) (T5 f e)
 rcases hn with h0|hn
 ·omega
 ·by_cases hl:(Yg f).length<n
  ·exfalso;apply hn;rw[<-Yy];exact Wm _ _ (by omega)
  ·omega
def pcv:List (Fin q)->List (Fin q)->List (Fin q)
 |[],_=>[]
 |c::t,g=>R7 (NL c g) (0::pcv t g)
theorem Kn (x:Fin q): ∀f g:List (Fin q),pev x (pcv f g)=pev x f*pev x g
 |[],g=>by
  show 0=0*pev x g
  grind
 |c::t,g=>by
  have ih:=Kn x t g;show pev x (R7 (NL c g) (0::pcv t g))=(c+x*pev x t)*pev x g
  rw[Us,SN];show c*pev x g+(0+x*pev x (pcv t g))=_
  rw[ih]
  grind
theorem T6: ∀(c:Fin q) (t g:List (Fin q)),g≠[]->(pcv (c::t) g).length=t.length+g.length
 |c,[],g,hg=>by
  show(R7 (NL c g) [0]).length=_
  rw[XR,Vc];have:g.length≠0:=fun e=>hg (List.eq_nil_of_length_eq_zero e)
  simp only[List.length_cons,List.length_nil];omega
 |c,d::t,g,hg=>by
  have ih:=T6 d t g hg;show(R7 (NL c g) (0::pcv (d::t) g)).length=_
  rw[XR,Vc,List.length_cons,ih,List.length_cons];omega
def psm (f:Nat->Fin q):Nat->Fin q
 |0=>0
 |n+1=>psm f n+f n
theorem Xa (f g:Nat->Fin q)(n:Nat)(h: ∀i,i<n->f i=g i):psm f n=psm g n:=by
 induction n with
 |zero=>rfl
 |succ n ih=>
  show psm f n+f n=psm g n+g n
  rw[ih fun i hi=>h i (by omega),h n (by omega)]
theorem U6 (f:Nat->Fin q): ∀n,psm f (n+1)=f 0+psm (fun i=>f (i+1)) n
 |0=>by
  show 0+f 0=f 0+0
  grind
 |n+1=>by
  show psm f (n+1)+f (n+1)=f 0+(psm (fun i=>f (i+1)) n+f (n+1))
  rw[U6 f n]
  grind
theorem Wn (f:Nat->Fin q)(n:Nat)(h: ∀i,i<n->f i=0):psm f n=0:=by
 induction n with
 |zero=>rfl
 |succ n ih=>
  show psm f n+f n=0
  rw[ih fun i hi=>h i (by omega),h n (by omega)]
  grind
theorem Uu (f:Nat->Fin q)(n m:Nat)(hnm:n<=m)(h: ∀i,n<=i->i<m->f i=0):psm f m=psm f n:=by
 induction m with
 |zero=>rw[Nat.le_zero.1 hnm]
 |succ m ih=>
  by_cases e:n=m+1
  ·rw[e]
  ·show psm f m+f m=psm f n
   rw[ih (by omega) fun i h1 h2=>h i h1 (by omega),h m (by omega) (by omega)]
   grind
theorem Pf (c:Fin q)(f:Nat->Fin q): ∀n,psm (fun i=>c*f i) n=c*psm f n
 |0=>by
  show 0=c*0
  grind
 |n+1=>by
  show psm (fun i=>c*f i) n+c*f n=c*(psm f n+f n)
  rw[Pf c f n]
  grind
theorem Ve: ∀(f g:List (Fin q)) (k:Nat),pco (pcv f g) k=psm (fun i=>if i<=k then pco f i*pco g (k-i)else 0) f.length
 |[],_,_=>rfl
 |c::t,g,k=>by
  show pco (R7 (NL c g) (0::pcv t g)) k=psm _ (t.length+1)
  rw[VD,SM,U6]
  congr 1
  cases k with
  |zero=>
   symm
   exact Wn _ _ fun i _=>if_neg (by omega)
  |succ k=>
   rw[Wl,Ve t g k];refine Xa _ _ _ fun i _=>?_
   by_cases h:i<=k
   ·rw[if_pos h,if_pos (by omega),Wl,show k+1-(i+1)=k-i by omega]
   ·rw[if_neg h,if_neg (by omega)]
end
section
variable {q:Nat}[NeZero q]
def VE (f g:List (Fin q)):List (Fin q):=if f=[]∨g=[]then[]else Yg (pcv f g)
theorem SO (x:Fin q)(f g:List (Fin q)):pev x (VE f g)=pev x f*pev x g:=by
 unfold VE
 split
 ·rename_i h
  rcases h with h|h
  ·rw[h];show 0=0*pev x g
   grind
  ·rw[h];show 0=pev x f*0
   grind
 ·rw[R8,Kn]
theorem Pg (f:List (Fin q))(k:Nat):pco (pcv f []) k=0:=by
 rw[Ve];refine Wn _ _ fun i _=>?_
 split
 ·rw[Dl]
  grind
 ·rfl
theorem Uv (f g:List (Fin q))(k:Nat):pco (VE f g) k=pco (pcv f g) k:=by
 unfold VE
 split
 ·rename_i h
  rcases h with h|h
  ·rw[h];rfl
  ·rw[h,Pg];rfl
 ·exact Yy _ _
theorem U7 (f g:List (Fin q)):Yg (VE f g)=VE f g:=by
 unfold VE
 split
 ·rfl
 ·exact Vd _
theorem Wo (f g:List (Fin q)):(VE f g).length<=f.length+g.length-1:=by
 unfold VE
 split
 ·exact Nat.zero_le _
 ·rename_i h
  cases f with
  |nil=>exact absurd (.inl rfl) h
  |cons c t=>
   have hg:g≠[]:=fun e=>h (.inr e)
   have:=Ut (pcv (c::t) g);rw[T6 c t g hg]at this;simp only[List.length_cons];omega
def Qa (f g:List (Fin q)):List (Fin q):=Yg (R7 f g)
theorem OC (x:Fin q)(f g:List (Fin q)):pev x (Qa f g)=pev x f+pev x g:=by
 unfold Qa;rw[R8,Us]
theorem IW (f g:List (Fin q))(k:Nat):pco (Qa f g) k=pco f k+pco g k:=by
 unfold Qa;rw[Yy,VD]
theorem U8 (f g:List (Fin q)):(Qa f g).length<=max f.length g.length:=by
 have:=Ut (R7 f g);rw[XR]at this;exact this
def plg (iv:Fin q->Fin q)(xs:Nat->Fin q)(y:Fin q)(i:Nat):Nat->List (Fin q)
 |0=>[y]
 |k+1=>if k=i then plg iv xs y i k else VE (plg iv xs y i k) [(0-xs k)*iv (xs i-xs k),iv (xs i-xs k)]
def Mm (iv:Fin q->Fin q)(xs ys:Nat->Fin q)(n:Nat):Nat->List (Fin q)
 |0=>[]
 |i+1=>Qa (Mm iv xs ys n i) (plg iv xs (ys i) i n)
theorem OD (iv:Fin q->Fin q)(xs:Nat->Fin q)(y:Fin q)(i k:Nat)(h:k≠i)(z:Fin q):pev z (plg iv xs y i (k+1))=pev z (plg iv xs y i k)*((z-xs k)*iv (xs i-xs k)):=by
 show pev z (if k=i then _ else _)=_
 rw[if_neg h,SO];show pev z (plg iv xs y i k)*((0-xs k)*iv (xs i-xs k)+z*(iv (xs i-xs k)+z*0))=_
 generalize iv (xs i-xs k)=b
 grind
theorem SP (iv:Fin q->Fin q)(xs:Nat->Fin q)(y:Fin q)(i:Nat):plg iv xs y i (i+1)=plg iv xs y i i:=by
 show(if i=i then _ else _)=_
 rw[if_pos rfl]
theorem Fe (iv:Fin q->Fin q)(hiv: ∀a,a≠0->a*iv a=1)(xs:Nat->Fin q)(y:Fin q)(i n:Nat)(hd: ∀j,j<n->j≠i->xs j≠xs i): ∀k,k<=n->pev (xs i) (plg iv xs y i k)=y
 |0,_=>by
  show y+xs i*0=y
  grind
 |k+1,hk=>by
  have ih:=Fe iv hiv xs y i n hd k (by omega);by_cases e:k=i
  ·subst e;rw[SP];exact ih
  ·rw[OD iv xs y i k e,ih];have h0:xs i-xs k≠0:=fun h=>hd k (by omega) e (by grind)
   rw[hiv _ h0]
   grind
theorem Ph (iv:Fin q->Fin q)(xs:Nat->Fin q)(y:Fin q)(i j:Nat)(hji:j≠i): ∀k,j<k->pev (xs j) (plg iv xs y i k)=0
 |0,h=>by omega
 |k+1,h=>by
  by_cases e:k=i
  ·subst e;rw[SP];exact Ph iv xs y k j hji k (by omega)
  ·rw[OD iv xs y i k e];by_cases ej:j=k
   ·rw[ej]
    grind
   ·rw[Ph iv xs y i j hji k (by omega)]
    grind
theorem T7 (iv:Fin q->Fin q)(xs:Nat->Fin q)(y:Fin q)(i:Nat): ∀k,(plg iv xs y i k).length<=if i<k then k else k+1
 |0=>by
  rw[if_neg (Nat.not_lt_zero i)];exact Nat.le_refl 1
 |k+1=>by
  have ih:=T7 iv xs y i k;by_cases e:k=i
  ·subst e;rw[SP];rw[if_neg (Nat.lt_irrefl k)]at ih;rw[if_pos (Nat.lt_succ_self k)];exact ih
  ·show(if k=i then _ else _:List (Fin q)).length<=_
   rw[if_neg e];have hm:=Wo (plg iv xs y i k) [(0-xs k)*iv (xs i-xs k),iv (xs i-xs k)];simp only[List.length_cons,List.length_nil]at hm;by_cases hi:i<k
   ·rw[if_pos hi]at ih;rw[if_pos (by omega)];omega
   ·rw[if_neg hi]at ih;rw[if_neg (by omega)];omega
theorem U9 (iv:Fin q->Fin q)(xs ys:Nat->Fin q)(n:Nat): ∀m,m<=n->(Mm iv xs ys n m).length<=n
 |0,_=>Nat.zero_le _
 |i+1,h=>by
  have ih:=U9 iv xs ys n i (by omega);have h1:=U8 (Mm iv xs ys n i) (plg iv xs (ys i) i n);have h2:=T7 iv xs (ys i) i n;rw[if_pos (show i<n by omega)]at h2;show(Qa (Mm iv xs ys n i) (plg iv xs (ys i) i n)).length<=n
  omega
theorem Ko (iv:Fin q->Fin q)(xs ys:Nat->Fin q)(n:Nat): ∀m,Yg (Mm iv xs ys n m)=Mm iv xs ys n m
 |0=>rfl
 |_+1=>Vd _
theorem Kp (iv:Fin q->Fin q)(hiv: ∀a,a≠0->a*iv a=1)(xs ys:Nat->Fin q)(n:Nat)(hd: ∀i j,i<n->j<n->i≠j->xs i≠xs j)(j:Nat)(hj:j<n): ∀m,m<=n->pev (xs j) (Mm iv xs ys n m)=if j<m then ys j else 0
 |0,_=>by
  rw[if_neg (Nat.not_lt_zero j)];rfl
 |i+1,h=>by
  have ih:=Kp iv hiv xs ys n hd j hj i (by omega);show pev (xs j) (Qa (Mm iv xs ys n i) (plg iv xs (ys i) i n))=_
  rw[OC,ih];by_cases e:j=i
  ·subst e;rw[if_neg (Nat.lt_irrefl j),if_pos (Nat.lt_succ_self j),Fe iv hiv xs (ys j) j n (fun k hk hne=>hd k j hk hj hne) n (Nat.le_refl n)]
   grind
  ·rw[Ph iv xs (ys i) i j e n hj];by_cases hl:j<i
   ·rw[if_pos hl,if_pos (by omega)]
    grind
   ·rw[if_neg hl,if_neg (by omega)]
    grind
theorem Qb (xs:Nat->Fin q)(n:Nat)(hd: ∀i j,i<n->j<n->i≠j->xs i≠xs j):((List.range n).map xs).Nodup:=by
 rw[List.nodup_iff_pairwise_ne,List.pairwise_map];refine(List.nodup_range (n:=n)).imp_of_mem ?_;intro a b ha hb hab;exact hd a b (List.mem_range.1 ha) (List.mem_range.1 hb) hab
theorem Tb (hq:IsP q)(iv:Fin q->Fin q)(hiv: ∀a,a≠0->a*iv a=1)(xs ys:Nat->Fin q)(n:Nat)(hd: ∀i j,i<n->j<n->i≠j->xs i≠xs j)(f:List (Fin q))(hf:f.length<=n)(h: ∀j,j<n->pev (xs j) f=ys j):Yg f=Mm iv xs ys n n:=by
 rw[<-Ko iv xs ys n n];refine WH _ _ (NM hq ((List.range n).map xs) f _ (by simpa using hf) (by simpa using U9 iv xs ys n n (Nat.le_refl n)) (Qb xs n hd) ?_);intro x hx;obtain⟨j,hj,rfl⟩:=List.mem_map.1 hx;have hj':=List.mem_range.1 hj;rw[h j hj',Kp iv hiv xs ys n hd j hj' n (Nat.le_refl n),if_pos hj']
end
section
variable {q:Nat}[NeZero q]
def poff (xs ys:Nat->Fin q)(n:Nat)(f:List (Fin q)):Nat:=(List.range n).countP fun j=>decide (pev (xs j) f≠ys j)
def fi (A:Nat):Fin q:=Fin.ofNat q A
theorem Tc (A:Nat):(fi A:Fin q).val=A%q:=rfl
theorem IX (A B:Nat):(fi A:Fin q)=fi B↔A%q=B%q:=⟨fun h=>congrArg Fin.val h,fun h=>Fin.ext h⟩
theorem VF (A:Nat):(fi (A%q):Fin q)=fi A:=Fin.ext (Nat.mod_mod A q)
theorem NN (x:Fin q):(fi x.val:Fin q)=x:=Fin.ext (Nat.mod_eq_of_lt x.isLt)
theorem Td:(fi 0:Fin q)=0:=rfl
theorem Kq:(fi 1:Fin q)=1:=rfl
theorem Qc (A B:Nat):(fi (A+B):Fin q)=fi A+fi B:=by
 refine Fin.ext ?_;rw[Fin.val_add,Tc,Tc,Tc,<-Nat.add_mod]
theorem Te (A B:Nat):(fi (A*B):Fin q)=fi A*fi B:=by
 refine Fin.ext ?_;rw[Fin.val_mul,Tc,Tc,Tc,<-Nat.mul_mod]
theorem Ff (A B:Nat):(fi ((A%q+(q-B%q))%q):Fin q)=fi A-fi B:=by
 have h0:0<q:=Nat.pos_of_ne_zero (NeZero.ne q);have hb:=Nat.mod_lt B h0;have e:(fi A:Fin q)=fi A-fi B+fi B:=by grind
 have e2:(fi ((A%q+(q-B%q))%q):Fin q)+fi B=fi A:=by
  rw[<-VF B,<-Qc,<-VF A,IX,Nat.mod_add_mod,show A%q+(q-B%q)+B%q=A%q+q by omega,Nat.add_mod_right]
 grind
def fl (n:Nat)(f:Nat->Nat):List (Fin q):=(List.range n).map fun i=>fi (f i)
theorem Xb (n:Nat)(f:Nat->Nat):(fl n f:List (Fin q)).length=n:=by simp[fl]
theorem V7 (n:Nat)(f:Nat->Nat)(i:Nat)(h:i<n):pco (fl n f:List (Fin q)) i=fi (f i):=by
 rw[R6 _ _ (by rw[Xb];exact h)];simp[fl]
theorem VG (n:Nat)(f:Nat->Nat)(i:Nat)(h:n<=i):pco (fl n f:List (Fin q)) i=0:=Wm _ _ (by rw[Xb];exact h)
theorem Bq (l:List (Fin q)):fl l.length (fun i=>(pco l i).val)=l:=by
 refine List.ext_getElem (Xb _ _) fun i h1 h2=>?_
 rw[<-R6 _ i h1,<-R6 _ i h2,V7 _ _ _ h2,NN]
def ppw (x:Fin q):Nat->Fin q
 |0=>1
 |n+1=>ppw x n*x
theorem Qd (x:Fin q): ∀n,ppw x (n+1)=x*ppw x n
 |0=>by
  show 1*x=x*1
  grind
 |n+1=>by
  show ppw x (n+1)*x=x*(ppw x n*x)
  rw[Qd x n]
  grind
theorem Kr (x:Fin q): ∀f:List (Fin q),pev x f=psm (fun i=>pco f i*ppw x i) f.length
 |[]=>rfl
 |c::t=>by
  have ih:=Kr x t;show c+x*pev x t=psm _ (t.length+1)
  rw[U6,ih,<-Pf];show c+_=c*1+_
  rw[show c*1=c by grind]
  congr 1
  refine Xa _ _ _ fun i _=>?_
  rw[Wl,Qd]
  grind
end
structure FO where
 ad:Nat->Nat->Nat
 mu:Nat->Nat->Nat
def yTn (F:Nat->Nat):Nat->Nat
 |0=>0
 |n+1=>if F n=0 then yTn F n else n+1
theorem Tf (F:Nat->Nat): ∀n,yTn F n<=n
 |0=>Nat.le_refl 0
 |n+1=>by
  have:=Tf F n;unfold yTn
  split<;>omega
theorem Pi (F:Nat->Nat): ∀n i,yTn F n<=i->i<n->F i=0
 |0,i,_,h=>by omega
 |n+1,i,h,hi=>by
  unfold yTn at h
  split at h
  ·next h0=>
   by_cases e:i=n
   ·rw[e];exact h0
   ·exact Pi F n i h (by omega)
  ·omega
theorem OE (F:Nat->Nat): ∀n,yTn F n=0∨F (yTn F n-1)≠0
 |0=>.inl rfl
 |n+1=>by
  unfold yTn
  split
  ·exact OE F n
  ·next h=>exact .inr h
def yHv (o:FO)(F:Nat->Nat)(n x:Nat):Nat->Nat
 |0=>0
 |k+1=>o.ad (o.mu (yHv o F n x k) x) (F (n-1-k))
def yCf (n:Nat)(F:Nat->Nat)(k:Nat):Nat:=if k<n then F k else 0
theorem Fg {n:Nat}{F:Nat->Nat}(h: ∀i,i<n->F i<2^256)(k:Nat):yCf n F k<2^256:=by
 unfold yCf
 split
 ·next h1=>exact h k h1
 ·decide
def yCv (o:FO)(F G:Nat->Nat)(k lo:Nat):Nat->Nat
 |0=>0
 |j+1=>o.ad (yCv o F G k lo j) (o.mu (F (lo+j)) (G (k-(lo+j))))
def yTm (o:FO)(F:Nat->Nat)(k:Nat):Nat:=o.ad (F k) 0
def ySm (o:FO)(n:Nat)(F:Nat->Nat)(m:Nat)(G:Nat->Nat)(k:Nat):Nat:=o.ad (yCf n F k) (yCf m G k)
def yMl (o:FO)(n:Nat)(F:Nat->Nat)(m:Nat)(G:Nat->Nat)(k:Nat):Nat:=yCv o F G k (k+1-m) (min n (k+1)-(k+1-m))
def fO (q:Nat):FO:=⟨fun A B=>(A+B)%q,fun A B=>A*B%q⟩
def nO:FO:=⟨fun _ _=>0,fun _ _=>0⟩
section
variable {q:Nat}[NeZero q]
theorem NO:0<q:=Nat.pos_of_ne_zero (NeZero.ne q)
theorem Fh {A B:Nat}(h:(fi A:Fin q)=fi B)(hA:A<q)(hB:B<q):A=B:=by
 have:=(IX A B).1 h
 rwa [Nat.mod_eq_of_lt hA,Nat.mod_eq_of_lt hB]at this
theorem yA {A:Nat}(hA:A<q):(fi A:Fin q)=0↔A=0:=⟨fun h=>Fh (h.trans Td.symm) hA NO,fun h=>h▸Td⟩
theorem Fi {A:Nat}(hA:A<q):(fi A:Fin q).val=A:=Nat.mod_eq_of_lt hA
theorem Br (x:Fin q):x.val=0↔x=0:=⟨fun h=>Fin.ext h,fun h=>by rw[h];rfl⟩
theorem Bs (n:Nat)(F:Nat->Nat)(h: ∀i,i<n->F i<q):(Yg (fl n F:List (Fin q))).length=yTn F n:=by
 refine R9 _ _ (fun i hi=>?_) ?_
 ·by_cases hn:i<n
  ·rw[V7 _ _ _ hn,Pi F n i hi hn];rfl
  ·exact VG _ _ _ (by omega)
 ·have hle:=Tf F n;rcases OE F n with h1|h1
  ·exact .inl h1
  ·by_cases h0:yTn F n=0
   ·exact .inl h0
   ·refine .inr ?_;rw[V7 _ _ _ (by omega)];exact fun e=>h1 ((yA (h _ (by omega))).1 e)
theorem Bt (n:Nat)(F:Nat->Nat)(h: ∀i,i<n->F i<q)(i:Nat)(hi:i<yTn F n):F i=(pco (Yg (fl n F:List (Fin q))) i).val:=by
 have hle:=Tf F n;rw[Yy,V7 _ _ _ (by omega),Fi (h _ (by omega))]
theorem IY (n:Nat)(F:Nat->Nat)(L:List (Fin q))(h: ∀i,i<n->F i<q)(hL: ∀i,pco (fl n F:List (Fin q)) i=pco L i):
  yTn F n=(Yg L).length/\ ∀i,i<yTn F n->F i=(pco (Yg L) i).val:=by
 rw[<-WH _ _ hL];exact⟨(Bs n F h).symm,Bt n F h⟩
theorem Ks (n:Nat)(F:Nat->Nat):(fl n (yTm (fO q) F):List (Fin q))=fl n F:=by
 unfold fl;refine List.map_congr_left fun i _=>?_
 show fi ((F i+0)%q)=fi (F i)
 rw[VF];rfl
theorem Kt (F:Nat->Nat)(i:Nat):yTm (fO q) F i<q:=Nat.mod_lt _ NO
theorem Fj (n:Nat)(F:Nat->Nat)(k:Nat):(fi (yCf n F k):Fin q)=pco (fl n F) k:=by
 unfold yCf
 split
 ·next h=>rw[V7 _ _ _ h]
 ·next h=>rw[VG _ _ _ (by omega)];rfl
theorem Bu (n:Nat)(F:Nat->Nat)(m:Nat)(G:Nat->Nat)(i:Nat):pco (fl (max n m) (ySm (fO q) n F m G):List (Fin q)) i=pco (R7 (fl n F) (fl m G)) i:=by
 rw[VD];by_cases h:i<max n m
 ·rw[V7 _ _ _ h];show fi ((yCf n F i+yCf m G i)%q)=_
  rw[VF,Qc,Fj,Fj]
 ·rw[VG _ _ _ (by omega),VG _ _ _ (by omega),VG _ _ _ (by omega)]
  grind
theorem Qe (f:Nat->Fin q)(lo:Nat)(h: ∀i,i<lo->f i=0): ∀j,psm f (lo+j)=psm (fun i=>f (lo+i)) j
 |0=>Wn f lo h
 |j+1=>by
  show psm f (lo+j)+f (lo+j)=psm _ j+f (lo+j)
  rw[Qe f lo h j]
theorem Fk (F G:Nat->Nat)(k lo:Nat): ∀j,(fi (yCv (fO q) F G k lo j):Fin q)=psm (fun i=>fi (F (lo+i))*fi (G (k-(lo+i)))) j
 |0=>rfl
 |j+1=>by
  show fi ((yCv (fO q) F G k lo j+F (lo+j)*G (k-(lo+j))%q)%q)=_
  rw[VF,Qc,VF,Te,Fk F G k lo j];rfl
theorem Bv (F G:Nat->Nat)(k lo:Nat): ∀j,yCv (fO q) F G k lo j<q
 |0=>NO
 |_+1=>Nat.mod_lt _ NO
theorem Bw (n:Nat)(F:Nat->Nat)(m:Nat)(G:Nat->Nat)(k:Nat):(fi (yMl (fO q) n F m G k):Fin q)=pco (pcv (fl n F) (fl m G)) k:=by
 rw[Ve,Xb];unfold yMl;rw[Fk]
 have hz: ∀i,i<k+1-m->(fun i=>if i<=k then pco (fl n F) i*pco (fl m G) (k-i)else(0:Fin q)) i=0:=fun i hi=>by
  show(if i<=k then _ else _)=(0:Fin q)
  split
  ·rw[VG m G _ (by omega)];grind
  ·rfl
 have hc: ∀i,i<min n (k+1)-(k+1-m)->(fun i=>(fi (F (k+1-m+i))*fi (G (k-(k+1-m+i))):Fin q)) i=(fun i=>(fun i=>if i<=k then pco (fl n F) i*pco (fl m G) (k-i)else(0:Fin q)) (k+1-m+i)) i:=fun i hi=>by
  show _=if k+1-m+i<=k then _ else _
  rw[if_pos (by omega),V7 _ _ _ (by omega),V7 _ _ _ (by omega)]
 rw[Xa _ _ _ hc,<-Qe _ _ hz];by_cases hlo:k+1-m<=min n (k+1)
 ·rw[show k+1-m+(min n (k+1)-(k+1-m))=min n (k+1) by omega];refine(Uu _ _ _ (by omega) fun i h1 h2=>?_).symm;show(if i<=k then _ else _)=(0:Fin q)
  exact if_neg (by omega)
 ·rw[show min n (k+1)-(k+1-m)=0 by omega,Nat.add_zero,Wn _ _ hz,Wn _ _ fun i hi=>hz i (by omega)]
theorem Bx (n:Nat)(F:Nat->Nat)(m:Nat)(G:Nat->Nat)(i:Nat):pco (fl (n+m-1) (yMl (fO q) n F m G):List (Fin q)) i=pco (VE (fl n F) (fl m G)) i:=by
 rw[Uv];by_cases h:i<n+m-1
 ·rw[V7 _ _ _ h,Bw]
 ·rw[VG _ _ _ (by omega),Ve,Xb];refine(Wn _ _ fun j hj=>?_).symm;show(if j<=i then _ else _)=(0:Fin q)
  split
  ·rw[VG m G _ (by omega)];grind
  ·rfl
theorem IZ (f g f' g':List (Fin q))(h1: ∀i,pco f i=pco f' i)(h2: ∀i,pco g i=pco g' i):VE f g=VE f' g':=by
 rw[<-U7 f g,<-U7 f' g'];refine WH _ _ fun k=>?_
 rw[Uv,Uv,Ve,Ve]
 have hN: ∀(f g:List (Fin q)) N,f.length<=N->psm (fun i=>if i<=k then pco f i*pco g (k-i)else 0) N=psm (fun i=>if i<=k then pco f i*pco g (k-i)else 0) f.length:=fun f g N hN=>by
  refine Uu _ _ _ hN fun i hi _=>?_
  show(if i<=k then _ else _)=(0:Fin q)
  split
  ·rw[Wm f i hi];grind
  ·rfl
 rw[<-hN f g (max f.length f'.length) (by omega),<-hN f' g' (max f.length f'.length) (by omega)];refine Xa _ _ _ fun i _=>?_
 show(if i<=k then _ else _)=(if i<=k then _ else _)
 rw[h1,h2]
theorem NP (f g:List (Fin q)):VE (Yg f) (Yg g)=VE f g:=IZ _ _ _ _ (Yy f) (Yy g)
theorem Ku (f g:List (Fin q)):Yg (Qa f g)=Qa f g:=Vd _
theorem Fl (F:Nat->Nat)(n x:Nat): ∀k,k<=n->(fi (yHv (fO q) F n x k):Fin q)=pev (fi x) ((fl n F).drop (n-k))
 |0,_=>by
  rw[List.drop_eq_nil_of_le (by rw[Xb];omega)];rfl
 |k+1,h=>by
  show fi ((yHv (fO q) F n x k*x%q+F (n-1-k))%q)=_
  have hl:n-(k+1)<(fl n F:List (Fin q)).length:=by rw[Xb];omega
  rw[VF,Qc,VF,Te,Fl F n x k (by omega),List.drop_eq_getElem_cons hl,<-R6 _ _ hl,V7 _ _ _ (by omega),show n-(k+1)+1=n-k by omega,show n-1-k=n-(k+1) by omega];show _=fi _+fi x*pev (fi x) _
  grind
theorem By (F:Nat->Nat)(n x:Nat): ∀k,yHv (fO q) F n x k<q
 |0=>NO
 |_+1=>Nat.mod_lt _ NO
theorem Bz (F:Nat->Nat)(n x:Nat):yHv (fO q) F n x n=(pev (fi x) (fl n F:List (Fin q))).val:=by
 have h:=Fl (q:=q) F n x n (Nat.le_refl n);rw[Nat.sub_self,List.drop_zero]at h;rw[<-h,Fi (By F n x n)]
theorem Kv (n:Nat)(F:Nat->Nat)(L:List (Fin q))(hn:n=L.length)(h: ∀i,i<n->F i=(pco L i).val):(fl n F:List (Fin q))=L:=by
 subst hn;refine Eq.trans ?_ (Bq L);unfold fl;refine List.map_congr_left fun i hi=>?_
 rw[h i (by simpa using hi)]
def yDv (q m d:Nat)(B:Nat->Nat)(iv:Nat)(R0:Nat->Nat):Nat->(Nat->Nat)×(Nat->Nat)
 |0=>(R0,fun _=>0)
 |k+1=>((fun i=>if d-1-k<=i/\i<d-1-k+m then sbN ((yDv q m d B iv R0 k).1 i) (B (i-(d-1-k))*((yDv q m d B iv R0 k).1 (d-1-k+m-1)*iv%q)%q) q else(yDv q m d B iv R0 k).1 i),
  (fun i=>if i=d-1-k then(yDv q m d B iv R0 k).1 (d-1-k+m-1)*iv%q else(yDv q m d B iv R0 k).2 i))
theorem Kw (f g:Nat->Fin q)(j:Nat)(c:Fin q)(hj:g j=f j+c)(ho: ∀i,i≠j->g i=f i): ∀n,j<n->psm g n=psm f n+c
 |0,h=>by omega
 |n+1,h=>by
  show psm g n+g n=psm f n+f n+c
  by_cases e:j=n
  ·subst e;rw[Xa g f j fun i hi=>ho i (by omega),hj]
   grind
  ·rw[Kw f g j c hj ho n (by omega),ho n (by omega)]
   grind
def tGo (xs:Nat->Fin q):Nat->List (Fin q)
 |0=>[1]
 |k+1=>VE (tGo xs k) [0-xs k,1]
def tTh (iv:Fin q->Fin q)(xs ys:Nat->Fin q):Nat->List (Fin q)
 |0=>[]
 |k+1=>Qa (tTh iv xs ys k) (VE (tGo xs k) [(ys k-pev (xs k) (tTh iv xs ys k))*iv (pev (xs k) (tGo xs k))])
theorem OF (xs:Nat->Fin q)(k:Nat)(z:Fin q):pev z (tGo xs (k+1))=pev z (tGo xs k)*(z-xs k):=by
 show pev z (VE _ _)=_
 rw[SO];show _*((0-xs k)+z*(1+z*0))=_
 grind
theorem Fm (xs:Nat->Fin q)(j:Nat): ∀k,j<k->pev (xs j) (tGo xs k)=0
 |0,h=>by omega
 |k+1,h=>by
  rw[OF];by_cases e:j=k
  ·rw[e];grind
  ·rw[Fm xs j k (by omega)];grind
theorem Kx (hq:IsP q)(xs:Nat->Fin q)(z:Fin q): ∀k,(∀j,j<k->xs j≠z)->pev z (tGo xs k)≠0
 |0,_=>by
  show 1+z*0≠0
  have h2:=hq.1;intro e;have h1:(1:Fin q)=0:=by grind
  have:=(IX 1 0).1 (Kq.trans (h1.trans Td.symm));rw[Nat.mod_eq_of_lt (by omega),Nat.zero_mod]at this;omega
 |k+1,h=>by
  rw[OF];intro e;rcases U4 hq e with e|e
  ·exact Kx hq xs z k (fun j hj=>h j (by omega)) e
  ·exact h k (by omega) (by grind)
theorem WP (xs:Nat->Fin q): ∀k,(tGo xs k).length<=k+1
 |0=>Nat.le_refl 1
 |k+1=>by
  have h1:=Wo (tGo xs k) [0-xs k,1];have h2:=WP xs k;show(VE (tGo xs k) [0-xs k,1]).length<=_
  simp only[List.length_cons,List.length_nil]at h1;omega
theorem WQ (iv:Fin q->Fin q)(xs ys:Nat->Fin q): ∀k,(tTh iv xs ys k).length<=k
 |0=>Nat.le_refl 0
 |k+1=>by
  have h1:=U8 (tTh iv xs ys k) (VE (tGo xs k) [(ys k-pev (xs k) (tTh iv xs ys k))*iv (pev (xs k) (tGo xs k))]);have h2:=Wo (tGo xs k) [(ys k-pev (xs k) (tTh iv xs ys k))*iv (pev (xs k) (tGo xs k))];have h3:=WP xs k;have h4:=WQ iv xs ys k;show(Qa _ _).length<=_
  simp only[List.length_cons,List.length_nil]at h2;omega
theorem I0 (iv:Fin q->Fin q)(xs ys:Nat->Fin q): ∀k,Yg (tTh iv xs ys k)=tTh iv xs ys k
 |0=>rfl
 |_+1=>Ku _ _
theorem Fo (hq:IsP q)(iv:Fin q->Fin q)(hiv: ∀a,a≠0->a*iv a=1)(xs ys:Nat->Fin q)(n:Nat)(hd: ∀i j,i<n->j<n->i≠j->xs i≠xs j)(j:Nat): ∀k,k<=n->j<k->pev (xs j) (tTh iv xs ys k)=ys j
 |0,_,h=>by omega
 |k+1,hk,h=>by
  show pev (xs j) (Qa _ _)=_
  rw[OC,SO];show _+_*(_+xs j*0)=_
  by_cases e:j=k
  ·subst e;have h1:=hiv _ (Kx hq xs (xs j) j fun i hi=>hd i j (by omega) (by omega) (by omega))
   grind
  ·rw[Fm xs j k (by omega),Fo hq iv hiv xs ys n hd j k (by omega) (by omega)]
   grind
theorem BA (hq:IsP q)(iv:Fin q->Fin q)(hiv: ∀a,a≠0->a*iv a=1)(xs ys:Nat->Fin q)(n:Nat)(hd: ∀i j,i<n->j<n->i≠j->xs i≠xs j):tTh iv xs ys n=Mm iv xs ys n n:=by
 rw[<-I0];exact Tb hq iv hiv xs ys n hd _ (WQ iv xs ys n) fun j hj=>Fo hq iv hiv xs ys n hd j n (Nat.le_refl n) hj
end
end Go.Proofs.YtnagnkhbamhfmaaGreatDoor
