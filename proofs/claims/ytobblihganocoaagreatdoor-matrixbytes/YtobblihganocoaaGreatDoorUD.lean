import Derived.Test.YtobblihganocoaaGreatDoorFA
namespace Go.Proofs.YtobblihganocoaaGreatDoor
set_option linter.unusedVariables false
set_option linter.unusedSectionVars false
section
variable {q:Nat}[NeZero q]
theorem Ty (hq:IsP q){a b:Fin q}(h:a*b=0):a=0∨b=0:=by
 have h1:=congrArg Fin.val h
 rw[Fin.val_mul]at h1
 have h2:a.val*b.val%q=0:=h1
 rcases To hq (Nat.dvd_of_mod_eq_zero h2)with h|h
 ·exact .inl (Fin.ext (Nat.eq_zero_of_dvd_of_lt h a.isLt))
 ·exact .inr (Fin.ext (Nat.eq_zero_of_dvd_of_lt h b.isLt))
def pev (x:Fin q):List (Fin q)->Fin q
 |[]=>0
 |c::t=>c+x*pev x t
def pdv (a:Fin q):List (Fin q)->List (Fin q)
 |[]=>[]
 |[_]=>[]
 |_::d::t=>pev a (d::t)::pdv a (d::t)
theorem Nc (a x:Fin q): ∀f,pev x f=(x-a)*pev x (pdv a f)+pev a f
 |[]=>by simp only[pev,pdv];grind
 |[c]=>by simp only[pev,pdv];grind
 |c::d::t=>by
  have ih:=Nc a x (d::t)
  show c+x*pev x (d::t)=(x-a)*(pev a (d::t)+x*pev x (pdv a (d::t)))+(c+a*pev a (d::t))
  generalize pev x (d::t)=T at*
  generalize pev a (d::t)=Ta at*
  generalize pev x (pdv a (d::t))=G at*
  grind
theorem SD (a:Fin q): ∀f,(pdv a f).length=f.length-1
 |[]=>rfl
 |[_]=>rfl
 |_::d::t=>by
  have ih:=SD a (d::t)
  show(pdv a (d::t)).length+1=_
  rw[ih]
  simp
theorem Nd (a:Fin q): ∀f,pev a f=0->(∀c∈pdv a f,c=0)-> ∀c∈f,c=0
 |[],_,_=>by simp
 |[c],h,_=>by
  have e:c=0:=by
   have h':c+a*0=0:=h
   grind
  simp[e]
 |c::d::t,h,hz=>by
  have h1:pev a (d::t)=0:=hz _ (by simp[pdv])
  have h2:=Nd a (d::t) h1 fun x hx=>hz x (by simp[pdv,hx])
  have h':c+a*pev a (d::t)=0:=h
  rw[h1]at h'
  have e:c=0:=by grind
  intro x hx
  rcases List.mem_cons.1 hx with hx|hx
  ·rw[hx,e]
  ·exact h2 x hx
theorem QH (hq:IsP q): ∀(xs f:List (Fin q)),f.length<=xs.length->xs.Nodup->(∀x∈xs,pev x f=0)-> ∀c∈f,c=0
 |[],f,hl,_,_=>by
  have:f=[]:=List.eq_nil_of_length_eq_zero (Nat.le_zero.1 hl)
  simp[this]
 |a::xs,f,hl,hn,hz=>by
  have ha:=hz a (by simp)
  have hn':=List.nodup_cons.1 hn
  refine Nd a f ha (QH hq xs (pdv a f) ?_ hn'.2 fun x hx=>?_)
  ·rw[SD]
   simp only[List.length_cons]at hl
   omega
  ·have hx0:=hz x (List.mem_cons_of_mem _ hx)
   rw[Nc a x f,ha]at hx0
   have hx1:(x-a)*pev x (pdv a f)=0:=by grind
   rcases Ty hq hx1 with h|h
   ·exact absurd (show x=a by grind) fun e=>hn'.1 (e▸hx)
   ·exact h
def pco (f:List (Fin q))(i:Nat):Fin q:=f.getD i 0
theorem Cn (i:Nat):pco ([]:List (Fin q)) i=0:=rfl
theorem Ga (c:Fin q)(t:List (Fin q)):pco (c::t) 0=c:=rfl
theorem WG (c:Fin q)(t:List (Fin q))(i:Nat):pco (c::t) (i+1)=pco t i:=rfl
theorem WH (f:List (Fin q))(i:Nat)(h:f.length<=i):pco f i=0:=by
 unfold pco
 rw[List.getD_eq_getElem?_getD,List.getElem?_eq_none h]
 rfl
theorem QI (f:List (Fin q))(i:Nat)(h:i<f.length):pco f i=f[i]:=by
 unfold pco
 rw[List.getD_eq_getElem?_getD,List.getElem?_eq_getElem h]
 rfl
theorem UF (f:List (Fin q))(h: ∀i,pco f i=0)(x:Fin q):pev x f=0:=by
 induction f with
 |nil=>rfl
 |cons c t ih=>
  have h0:c=0:=h 0
  have h1:=ih fun i=>h (i+1)
  show c+x*pev x t=0
  rw[h0,h1]
  grind
theorem Tz: ∀(f g:List (Fin q)),(∀i,pco f i=pco g i)-> ∀x,pev x f=pev x g
 |[],g,h,x=>(UF g (fun i=>(h i).symm) x).symm
 |c::t,[],h,x=>UF (c::t) h x
 |c::t,d::u,h,x=>by
  have h0:c=d:=h 0
  have h1:=Tz t u (fun i=>h (i+1)) x
  show c+x*pev x t=d+x*pev x u
  rw[h0,h1]
def QJ:List (Fin q)->List (Fin q)->List (Fin q)
 |[],g=>g
 |f,[]=>f
 |c::t,d::u=>(c+d)::QJ t u
theorem V5: ∀(f g:List (Fin q)) (i:Nat),pco (QJ f g) i=pco f i+pco g i
 |[],g,i=>by
  show pco g i=0+pco g i
  grind
 |c::t,[],i=>by
  show pco (c::t) i=pco (c::t) i+0
  grind
 |c::t,d::u,0=>rfl
 |c::t,d::u,i+1=>V5 t u i
theorem X9: ∀(f g:List (Fin q)),(QJ f g).length=max f.length g.length
 |[],g=>by show g.length=_;simp
 |c::t,[]=>by show(c::t).length=_;simp
 |c::t,d::u=>by
  have:=X9 t u
  show(QJ t u).length+1=_
  simp only[List.length_cons]
  omega
theorem UR (x:Fin q): ∀(f g:List (Fin q)),pev x (QJ f g)=pev x f+pev x g
 |[],g=>by
  show pev x g=0+pev x g
  grind
 |c::t,[]=>by
  show pev x (c::t)=pev x (c::t)+0
  grind
 |c::t,d::u=>by
  have ih:=UR x t u
  show(c+d)+x*pev x (QJ t u)=(c+x*pev x t)+(d+x*pev x u)
  rw[ih]
  grind
def Mq (c:Fin q)(f:List (Fin q)):List (Fin q):=f.map (c* ·)
theorem VG (c:Fin q)(f:List (Fin q)):(Mq c f).length=f.length:=by simp[Mq]
theorem Rl (c:Fin q): ∀(f:List (Fin q)) (i:Nat),pco (Mq c f) i=c*pco f i
 |[],i=>by
  show 0=c*0
  grind
 |d::t,0=>rfl
 |d::t,i+1=>Rl c t i
theorem Rm (c x:Fin q): ∀f,pev x (Mq c f)=c*pev x f
 |[]=>by
  show 0=c*0
  grind
 |d::t=>by
  have ih:=Rm c x t
  show c*d+x*pev x (Mq c t)=c*(d+x*pev x t)
  rw[ih]
  grind
theorem Mr (hq:IsP q)(xs f g:List (Fin q))(hf:f.length<=xs.length)(hg:g.length<=xs.length)(hn:xs.Nodup)(h: ∀x∈xs,pev x f=pev x g)(i:Nat):pco f i=pco g i:=by
 have hz:=QH hq xs (QJ f (Mq (-1) g)) (by rw[X9,VG];omega) hn fun x hx=>by
  rw[UR,Rm,h x hx]
  grind
 have hc:pco (QJ f (Mq (-1) g)) i=0:=by
  by_cases hi:i<(QJ f (Mq (-1) g)).length
  ·rw[QI _ _ hi]
   exact hz _ (List.getElem_mem hi)
  ·exact WH _ _ (by omega)
 rw[V5,Rl]at hc
 grind
def Yk:List (Fin q)->List (Fin q)
 |[]=>[]
 |c::t=>if Yk t=[]/\c=0 then[]else c::Yk t
theorem YD: ∀(f:List (Fin q)) (i:Nat),pco (Yk f) i=pco f i
 |[],_=>rfl
 |c::t,i=>by
  unfold Yk
  split
  ·rename_i h
   cases i with
   |zero=>rw[Ga,h.2];rfl
   |succ i=>rw[WG,<-YD t i,h.1];rfl
  ·cases i with
   |zero=>rfl
   |succ i=>rw[WG,WG];exact YD t i
theorem QK (x:Fin q)(f:List (Fin q)):pev x (Yk f)=pev x f:=Tz _ _ (YD f) x
theorem US: ∀f:List (Fin q),(Yk f).length<=f.length
 |[]=>Nat.le_refl _
 |c::t=>by
  have:=US t
  unfold Yk
  split
  ·simp
  ·simp only[List.length_cons];omega
theorem W6: ∀f:List (Fin q),Yk f=[]↔ ∀i,pco f i=0
 |[]=>⟨fun _ _=>rfl,fun _=>rfl⟩
 |c::t=>by
  have ih:=W6 t
  unfold Yk
  constructor
  ·intro h i
   split at h
   ·rename_i hc
    cases i with
    |zero=>exact hc.2
    |succ i=>exact ih.1 hc.1 i
   ·cases h
  ·intro h
   rw[if_pos ⟨ih.2 fun i=>h (i+1),h 0⟩]
theorem W7: ∀f g:List (Fin q),(∀i,pco f i=pco g i)->Yk f=Yk g
 |[],g,h=>((W6 g).2 fun i=>(h i).symm).symm
 |c::t,[],h=>(W6 (c::t)).2 h
 |c::t,d::u,h=>by
  have h0:c=d:=h 0
  have h1:=W7 t u fun i=>h (i+1)
  unfold Yk
  rw[h0,h1]
theorem VH (f:List (Fin q)):Yk (Yk f)=Yk f:=W7 _ _ (YD f)
theorem SE: ∀f:List (Fin q),Yk f≠[]->pco f ((Yk f).length-1)≠0
 |[],h=>absurd rfl h
 |c::t,h=>by
  have ih:=SE t
  unfold Yk at h ⊢
  split
  ·rename_i hc
   rw[if_pos hc]at h
   exact absurd rfl h
  ·rename_i hc
   by_cases ht:Yk t=[]
   ·rw[ht]
    intro h0
    exact hc ⟨ht,h0⟩
   ·have hl:(Yk t).length≠0:=fun e=>ht (List.eq_nil_of_length_eq_zero e)
    show pco (c::t) ((Yk t).length+1-1)≠0
    rw[show(Yk t).length+1-1=(Yk t).length-1+1 by omega,WG]
    exact ih ht
theorem QL (f:List (Fin q))(n:Nat)(hz: ∀i,n<=i->pco f i=0)(hn:n=0∨pco f (n-1)≠0):(Yk f).length=n:=by
 have h1:(Yk f).length<=n:=by
  by_cases e:Yk f=[]
  ·rw[e];exact Nat.zero_le _
  ·by_cases hl:(Yk f).length<=n
   ·exact hl
   ·exact absurd (hz ((Yk f).length-1) (by omega)) (SE f e)
 rcases hn with h0|hn
 ·omega
 ·by_cases hl:(Yk f).length<n
  ·exfalso
   apply hn
   rw[<-YD]
   exact WH _ _ (by omega)
  ·omega
def pcv:List (Fin q)->List (Fin q)->List (Fin q)
 |[],_=>[]
 |c::t,g=>QJ (Mq c g) (0::pcv t g)
theorem KS (x:Fin q): ∀f g:List (Fin q),pev x (pcv f g)=pev x f*pev x g
 |[],g=>by
  show 0=0*pev x g
  grind
 |c::t,g=>by
  have ih:=KS x t g
  show pev x (QJ (Mq c g) (0::pcv t g))=(c+x*pev x t)*pev x g
  rw[UR,Rm]
  show c*pev x g+(0+x*pev x (pcv t g))=_
  rw[ih]
  grind
theorem SF: ∀(c:Fin q) (t g:List (Fin q)),g≠[]->(pcv (c::t) g).length=t.length+g.length
 |c,[],g,hg=>by
  show(QJ (Mq c g) [0]).length=_
  rw[X9,VG]
  have:g.length≠0:=fun e=>hg (List.eq_nil_of_length_eq_zero e)
  simp only[List.length_cons,List.length_nil]
  omega
 |c,d::t,g,hg=>by
  have ih:=SF d t g hg
  show(QJ (Mq c g) (0::pcv (d::t) g)).length=_
  rw[X9,VG,List.length_cons,ih,List.length_cons]
  omega
def psm (f:Nat->Fin q):Nat->Fin q
 |0=>0
 |n+1=>psm f n+f n
theorem Xg (f g:Nat->Fin q)(n:Nat)(h: ∀i,i<n->f i=g i):psm f n=psm g n:=by
 induction n with
 |zero=>rfl
 |succ n ih=>
  show psm f n+f n=psm g n+g n
  rw[ih fun i hi=>h i (by omega),h n (by omega)]
theorem TA (f:Nat->Fin q): ∀n,psm f (n+1)=f 0+psm (fun i=>f (i+1)) n
 |0=>by
  show 0+f 0=f 0+0
  grind
 |n+1=>by
  show psm f (n+1)+f (n+1)=f 0+(psm (fun i=>f (i+1)) n+f (n+1))
  rw[TA f n]
  grind
theorem WI (f:Nat->Fin q)(n:Nat)(h: ∀i,i<n->f i=0):psm f n=0:=by
 induction n with
 |zero=>rfl
 |succ n ih=>
  show psm f n+f n=0
  rw[ih fun i hi=>h i (by omega),h n (by omega)]
  grind
theorem UT (f:Nat->Fin q)(n m:Nat)(hnm:n<=m)(h: ∀i,n<=i->i<m->f i=0):psm f m=psm f n:=by
 induction m with
 |zero=>rw[Nat.le_zero.1 hnm]
 |succ m ih=>
  by_cases e:n=m+1
  ·rw[e]
  ·show psm f m+f m=psm f n
   rw[ih (by omega) fun i h1 h2=>h i h1 (by omega),h m (by omega) (by omega)]
   grind
theorem P1 (c:Fin q)(f:Nat->Fin q): ∀n,psm (fun i=>c*f i) n=c*psm f n
 |0=>by
  show 0=c*0
  grind
 |n+1=>by
  show psm (fun i=>c*f i) n+c*f n=c*(psm f n+f n)
  rw[P1 c f n]
  grind
theorem VI: ∀(f g:List (Fin q)) (k:Nat),pco (pcv f g) k=psm (fun i=>if i<=k then pco f i*pco g (k-i)else 0) f.length
 |[],_,_=>rfl
 |c::t,g,k=>by
  show pco (QJ (Mq c g) (0::pcv t g)) k=psm _ (t.length+1)
  rw[V5,Rl,TA]
  congr 1
  cases k with
  |zero=>
   symm
   exact WI _ _ fun i _=>if_neg (by omega)
  |succ k=>
   rw[WG,VI t g k]
   refine Xg _ _ _ fun i _=>?_
   by_cases h:i<=k
   ·rw[if_pos h,if_pos (by omega),WG,show k+1-(i+1)=k-i by omega]
   ·rw[if_neg h,if_neg (by omega)]
end
section
variable {q:Nat}[NeZero q]
def V6 (f g:List (Fin q)):List (Fin q):=if f=[]∨g=[]then[]else Yk (pcv f g)
theorem Rn (x:Fin q)(f g:List (Fin q)):pev x (V6 f g)=pev x f*pev x g:=by
 unfold V6
 split
 ·rename_i h
  rcases h with h|h
  ·rw[h]
   show 0=0*pev x g
   grind
  ·rw[h]
   show 0=pev x f*0
   grind
 ·rw[QK,KS]
theorem P3 (f:List (Fin q))(k:Nat):pco (pcv f []) k=0:=by
 rw[VI]
 refine WI _ _ fun i _=>?_
 split
 ·rw[Cn]
  grind
 ·rfl
theorem UU (f g:List (Fin q))(k:Nat):pco (V6 f g) k=pco (pcv f g) k:=by
 unfold V6
 split
 ·rename_i h
  rcases h with h|h
  ·rw[h];rfl
  ·rw[h,P3];rfl
 ·exact YD _ _
theorem TB (f g:List (Fin q)):Yk (V6 f g)=V6 f g:=by
 unfold V6
 split
 ·rfl
 ·exact VH _
theorem WJ (f g:List (Fin q)):(V6 f g).length<=f.length+g.length-1:=by
 unfold V6
 split
 ·exact Nat.zero_le _
 ·rename_i h
  cases f with
  |nil=>exact absurd (.inl rfl) h
  |cons c t=>
   have hg:g≠[]:=fun e=>h (.inr e)
   have:=US (pcv (c::t) g)
   rw[SF c t g hg]at this
   simp only[List.length_cons]
   omega
def QM (f g:List (Fin q)):List (Fin q):=Yk (QJ f g)
theorem Nf (x:Fin q)(f g:List (Fin q)):pev x (QM f g)=pev x f+pev x g:=by
 unfold QM
 rw[QK,UR]
theorem Gb (f g:List (Fin q))(k:Nat):pco (QM f g) k=pco f k+pco g k:=by
 unfold QM
 rw[YD,V5]
theorem TC (f g:List (Fin q)):(QM f g).length<=max f.length g.length:=by
 have:=US (QJ f g)
 rw[X9]at this
 exact this
def plg (iv:Fin q->Fin q)(xs:Nat->Fin q)(y:Fin q)(i:Nat):Nat->List (Fin q)
 |0=>[y]
 |k+1=>if k=i then plg iv xs y i k else V6 (plg iv xs y i k) [(0-xs k)*iv (xs i-xs k),iv (xs i-xs k)]
def M7 (iv:Fin q->Fin q)(xs ys:Nat->Fin q)(n:Nat):Nat->List (Fin q)
 |0=>[]
 |i+1=>QM (M7 iv xs ys n i) (plg iv xs (ys i) i n)
theorem Ng (iv:Fin q->Fin q)(xs:Nat->Fin q)(y:Fin q)(i k:Nat)(h:k≠i)(z:Fin q):pev z (plg iv xs y i (k+1))=pev z (plg iv xs y i k)*((z-xs k)*iv (xs i-xs k)):=by
 show pev z (if k=i then _ else _)=_
 rw[if_neg h,Rn]
 show pev z (plg iv xs y i k)*((0-xs k)*iv (xs i-xs k)+z*(iv (xs i-xs k)+z*0))=_
 generalize iv (xs i-xs k)=b
 grind
theorem Ro (iv:Fin q->Fin q)(xs:Nat->Fin q)(y:Fin q)(i:Nat):plg iv xs y i (i+1)=plg iv xs y i i:=by
 show(if i=i then _ else _)=_
 rw[if_pos rfl]
theorem Ej (iv:Fin q->Fin q)(hiv: ∀a,a≠0->a*iv a=1)(xs:Nat->Fin q)(y:Fin q)(i n:Nat)(hd: ∀j,j<n->j≠i->xs j≠xs i): ∀k,k<=n->pev (xs i) (plg iv xs y i k)=y
 |0,_=>by
  show y+xs i*0=y
  grind
 |k+1,hk=>by
  have ih:=Ej iv hiv xs y i n hd k (by omega)
  by_cases e:k=i
  ·subst e
   rw[Ro]
   exact ih
  ·rw[Ng iv xs y i k e,ih]
   have h0:xs i-xs k≠0:=fun h=>hd k (by omega) e (by grind)
   rw[hiv _ h0]
   grind
theorem P4 (iv:Fin q->Fin q)(xs:Nat->Fin q)(y:Fin q)(i j:Nat)(hji:j≠i): ∀k,j<k->pev (xs j) (plg iv xs y i k)=0
 |0,h=>by omega
 |k+1,h=>by
  by_cases e:k=i
  ·subst e
   rw[Ro]
   exact P4 iv xs y k j hji k (by omega)
  ·rw[Ng iv xs y i k e]
   by_cases ej:j=k
   ·rw[ej]
    grind
   ·rw[P4 iv xs y i j hji k (by omega)]
    grind
theorem SG (iv:Fin q->Fin q)(xs:Nat->Fin q)(y:Fin q)(i:Nat): ∀k,(plg iv xs y i k).length<=if i<k then k else k+1
 |0=>by
  rw[if_neg (Nat.not_lt_zero i)]
  exact Nat.le_refl 1
 |k+1=>by
  have ih:=SG iv xs y i k
  by_cases e:k=i
  ·subst e
   rw[Ro]
   rw[if_neg (Nat.lt_irrefl k)]at ih
   rw[if_pos (Nat.lt_succ_self k)]
   exact ih
  ·show(if k=i then _ else _:List (Fin q)).length<=_
   rw[if_neg e]
   have hm:=WJ (plg iv xs y i k) [(0-xs k)*iv (xs i-xs k),iv (xs i-xs k)]
   simp only[List.length_cons,List.length_nil]at hm
   by_cases hi:i<k
   ·rw[if_pos hi]at ih
    rw[if_pos (by omega)]
    omega
   ·rw[if_neg hi]at ih
    rw[if_neg (by omega)]
    omega
theorem TD (iv:Fin q->Fin q)(xs ys:Nat->Fin q)(n:Nat): ∀m,m<=n->(M7 iv xs ys n m).length<=n
 |0,_=>Nat.zero_le _
 |i+1,h=>by
  have ih:=TD iv xs ys n i (by omega)
  have h1:=TC (M7 iv xs ys n i) (plg iv xs (ys i) i n)
  have h2:=SG iv xs (ys i) i n
  rw[if_pos (show i<n by omega)]at h2
  show(QM (M7 iv xs ys n i) (plg iv xs (ys i) i n)).length<=n
  omega
theorem KU (iv:Fin q->Fin q)(xs ys:Nat->Fin q)(n:Nat): ∀m,Yk (M7 iv xs ys n m)=M7 iv xs ys n m
 |0=>rfl
 |_+1=>VH _
theorem KV (iv:Fin q->Fin q)(hiv: ∀a,a≠0->a*iv a=1)(xs ys:Nat->Fin q)(n:Nat)(hd: ∀i j,i<n->j<n->i≠j->xs i≠xs j)(j:Nat)(hj:j<n): ∀m,m<=n->pev (xs j) (M7 iv xs ys n m)=if j<m then ys j else 0
 |0,_=>by
  rw[if_neg (Nat.not_lt_zero j)]
  rfl
 |i+1,h=>by
  have ih:=KV iv hiv xs ys n hd j hj i (by omega)
  show pev (xs j) (QM (M7 iv xs ys n i) (plg iv xs (ys i) i n))=_
  rw[Nf,ih]
  by_cases e:j=i
  ·subst e
   rw[if_neg (Nat.lt_irrefl j),if_pos (Nat.lt_succ_self j),Ej iv hiv xs (ys j) j n (fun k hk hne=>hd k j hk hj hne) n (Nat.le_refl n)]
   grind
  ·rw[P4 iv xs (ys i) i j e n hj]
   by_cases hl:j<i
   ·rw[if_pos hl,if_pos (by omega)]
    grind
   ·rw[if_neg hl,if_neg (by omega)]
    grind
theorem QN (xs:Nat->Fin q)(n:Nat)(hd: ∀i j,i<n->j<n->i≠j->xs i≠xs j):((List.range n).map xs).Nodup:=by
 rw[List.nodup_iff_pairwise_ne,List.pairwise_map]
 refine(List.nodup_range (n:=n)).imp_of_mem ?_;intro a b ha hb hab
 exact hd a b (List.mem_range.1 ha) (List.mem_range.1 hb) hab
theorem TE (hq:IsP q)(iv:Fin q->Fin q)(hiv: ∀a,a≠0->a*iv a=1)(xs ys:Nat->Fin q)(n:Nat)(hd: ∀i j,i<n->j<n->i≠j->xs i≠xs j)(f:List (Fin q))(hf:f.length<=n)(h: ∀j,j<n->pev (xs j) f=ys j):Yk f=M7 iv xs ys n n:=by
 rw[<-KU iv xs ys n n]
 refine W7 _ _ (Mr hq ((List.range n).map xs) f _ (by simpa using hf) (by simpa using TD iv xs ys n n (Nat.le_refl n)) (QN xs n hd) ?_)
 intro x hx
 obtain⟨j,hj,rfl⟩:=List.mem_map.1 hx
 have hj':=List.mem_range.1 hj
 rw[h j hj',KV iv hiv xs ys n hd j hj' n (Nat.le_refl n),if_pos hj']
end
section
variable {q:Nat}[NeZero q]
def poff (xs ys:Nat->Fin q)(n:Nat)(f:List (Fin q)):Nat:=(List.range n).countP fun j=>decide (pev (xs j) f≠ys j)
def fi (A:Nat):Fin q:=Fin.ofNat q A
theorem TF (A:Nat):(fi A:Fin q).val=A%q:=rfl
theorem Gc (A B:Nat):(fi A:Fin q)=fi B↔A%q=B%q:=⟨fun h=>congrArg Fin.val h,fun h=>Fin.ext h⟩
theorem V7 (A:Nat):(fi (A%q):Fin q)=fi A:=Fin.ext (Nat.mod_mod A q)
theorem Ms (x:Fin q):(fi x.val:Fin q)=x:=Fin.ext (Nat.mod_eq_of_lt x.isLt)
theorem TG:(fi 0:Fin q)=0:=rfl
theorem KW:(fi 1:Fin q)=1:=rfl
theorem QO (A B:Nat):(fi (A+B):Fin q)=fi A+fi B:=by
 refine Fin.ext ?_
 rw[Fin.val_add,TF,TF,TF,<-Nat.add_mod]
theorem TI (A B:Nat):(fi (A*B):Fin q)=fi A*fi B:=by
 refine Fin.ext ?_
 rw[Fin.val_mul,TF,TF,TF,<-Nat.mul_mod]
theorem Ek (A B:Nat):(fi ((A%q+(q-B%q))%q):Fin q)=fi A-fi B:=by
 have h0:0<q:=Nat.pos_of_ne_zero (NeZero.ne q)
 have hb:=Nat.mod_lt B h0
 have e:(fi A:Fin q)=fi A-fi B+fi B:=by grind
 have e2:(fi ((A%q+(q-B%q))%q):Fin q)+fi B=fi A:=by
  rw[<-V7 B,<-QO,<-V7 A,Gc,Nat.mod_add_mod,show A%q+(q-B%q)+B%q=A%q+q by omega,Nat.add_mod_right]
 grind
def fl (n:Nat)(f:Nat->Nat):List (Fin q):=(List.range n).map fun i=>fi (f i)
theorem Xx (n:Nat)(f:Nat->Nat):(fl n f:List (Fin q)).length=n:=by simp[fl]
theorem UJ (n:Nat)(f:Nat->Nat)(i:Nat)(h:i<n):pco (fl n f:List (Fin q)) i=fi (f i):=by
 rw[QI _ _ (by rw[Xx];exact h)]
 simp[fl]
theorem V8 (n:Nat)(f:Nat->Nat)(i:Nat)(h:n<=i):pco (fl n f:List (Fin q)) i=0:=WH _ _ (by rw[Xx];exact h)
theorem AH (l:List (Fin q)):fl l.length (fun i=>(pco l i).val)=l:=by
 refine List.ext_getElem (Xx _ _) fun i h1 h2=>?_
 rw[<-QI _ i h1,<-QI _ i h2,UJ _ _ _ h2,Ms]
def ppw (x:Fin q):Nat->Fin q
 |0=>1
 |n+1=>ppw x n*x
theorem QP (x:Fin q): ∀n,ppw x (n+1)=x*ppw x n
 |0=>by
  show 1*x=x*1
  grind
 |n+1=>by
  show ppw x (n+1)*x=x*(ppw x n*x)
  rw[QP x n]
  grind
theorem KX (x:Fin q): ∀f:List (Fin q),pev x f=psm (fun i=>pco f i*ppw x i) f.length
 |[]=>rfl
 |c::t=>by
  have ih:=KX x t
  show c+x*pev x t=psm _ (t.length+1)
  rw[TA,ih,<-P1]
  show c+_=c*1+_
  rw[show c*1=c by grind]
  congr 1
  refine Xg _ _ _ fun i _=>?_
  rw[WG,QP]
  grind
end
structure FO where
 ad:Nat->Nat->Nat
 mu:Nat->Nat->Nat
def yTn (F:Nat->Nat):Nat->Nat
 |0=>0
 |n+1=>if F n=0 then yTn F n else n+1
theorem TJ (F:Nat->Nat): ∀n,yTn F n<=n
 |0=>Nat.le_refl 0
 |n+1=>by
  have:=TJ F n
  unfold yTn
  split<;>omega
theorem P5 (F:Nat->Nat): ∀n i,yTn F n<=i->i<n->F i=0
 |0,i,_,h=>by omega
 |n+1,i,h,hi=>by
  unfold yTn at h
  split at h
  ·next h0=>
   by_cases e:i=n
   ·rw[e];exact h0
   ·exact P5 F n i h (by omega)
  ·omega
theorem Nh (F:Nat->Nat): ∀n,yTn F n=0∨F (yTn F n-1)≠0
 |0=>.inl rfl
 |n+1=>by
  unfold yTn
  split
  ·exact Nh F n
  ·next h=>exact .inr h
def yHv (o:FO)(F:Nat->Nat)(n x:Nat):Nat->Nat
 |0=>0
 |k+1=>o.ad (o.mu (yHv o F n x k) x) (F (n-1-k))
def yCf (n:Nat)(F:Nat->Nat)(k:Nat):Nat:=if k<n then F k else 0
theorem El {n:Nat}{F:Nat->Nat}(h: ∀i,i<n->F i<2^256)(k:Nat):yCf n F k<2^256:=by
 unfold yCf
 split
 ·next h1=>exact h k h1
 ·decide
def yCv (o:FO)(F G:Nat->Nat)(k lo:Nat):Nat->Nat
 |0=>0
 |j+1=>o.ad (yCv o F G k lo j) (o.mu (F (lo+j)) (G (k-(lo+j))))
def yTm (o:FO)(F:Nat->Nat)(k:Nat):Nat:=o.ad (F k) 0
def ySm (o:FO)(n:Nat)(F:Nat->Nat)(m:Nat)(G:Nat->Nat)(k:Nat):Nat:=o.ad (yCf n F k) (yCf m G k)
def yMl (o:FO)(n:Nat)(F:Nat->Nat)(m:Nat)(G:Nat->Nat)(k:Nat):Nat:=yCv o F G k (k+1-m) (min n (k+1)-(k+1-m))
def fO (q:Nat):FO:=⟨fun A B=>(A+B)%q,fun A B=>A*B%q⟩
def nO:FO:=⟨fun _ _=>0,fun _ _=>0⟩
section
variable {q:Nat}[NeZero q]
theorem Mt:0<q:=Nat.pos_of_ne_zero (NeZero.ne q)
theorem Em {A B:Nat}(h:(fi A:Fin q)=fi B)(hA:A<q)(hB:B<q):A=B:=by
 have:=(Gc A B).1 h
 rwa [Nat.mod_eq_of_lt hA,Nat.mod_eq_of_lt hB]at this
theorem xN {A:Nat}(hA:A<q):(fi A:Fin q)=0↔A=0:=⟨fun h=>Em (h.trans TG.symm) hA Mt,fun h=>h▸TG⟩
theorem En {A:Nat}(hA:A<q):(fi A:Fin q).val=A:=Nat.mod_eq_of_lt hA
theorem AI (x:Fin q):x.val=0↔x=0:=⟨fun h=>Fin.ext h,fun h=>by rw[h];rfl⟩
theorem AJ (n:Nat)(F:Nat->Nat)(h: ∀i,i<n->F i<q):(Yk (fl n F:List (Fin q))).length=yTn F n:=by
 refine QL _ _ (fun i hi=>?_) ?_
 ·by_cases hn:i<n
  ·rw[UJ _ _ _ hn,P5 F n i hi hn];rfl
  ·exact V8 _ _ _ (by omega)
 ·have hle:=TJ F n
  rcases Nh F n with h1|h1
  ·exact .inl h1
  ·by_cases h0:yTn F n=0
   ·exact .inl h0
   ·refine .inr ?_
    rw[UJ _ _ _ (by omega)]
    exact fun e=>h1 ((xN (h _ (by omega))).1 e)
theorem AK (n:Nat)(F:Nat->Nat)(h: ∀i,i<n->F i<q)(i:Nat)(hi:i<yTn F n):F i=(pco (Yk (fl n F:List (Fin q))) i).val:=by
 have hle:=TJ F n
 rw[YD,UJ _ _ _ (by omega),En (h _ (by omega))]
theorem Gd (n:Nat)(F:Nat->Nat)(L:List (Fin q))(h: ∀i,i<n->F i<q)(hL: ∀i,pco (fl n F:List (Fin q)) i=pco L i):
  yTn F n=(Yk L).length/\ ∀i,i<yTn F n->F i=(pco (Yk L) i).val:=by
 rw[<-W7 _ _ hL]
 exact⟨(AJ n F h).symm,AK n F h⟩
theorem KY (n:Nat)(F:Nat->Nat):(fl n (yTm (fO q) F):List (Fin q))=fl n F:=by
 unfold fl
 refine List.map_congr_left fun i _=>?_
 show fi ((F i+0)%q)=fi (F i)
 rw[V7];rfl
theorem KZ (F:Nat->Nat)(i:Nat):yTm (fO q) F i<q:=Nat.mod_lt _ Mt
theorem Eo (n:Nat)(F:Nat->Nat)(k:Nat):(fi (yCf n F k):Fin q)=pco (fl n F) k:=by
 unfold yCf
 split
 ·next h=>rw[UJ _ _ _ h]
 ·next h=>rw[V8 _ _ _ (by omega)];rfl
theorem AL (n:Nat)(F:Nat->Nat)(m:Nat)(G:Nat->Nat)(i:Nat):pco (fl (max n m) (ySm (fO q) n F m G):List (Fin q)) i=pco (QJ (fl n F) (fl m G)) i:=by
 rw[V5]
 by_cases h:i<max n m
 ·rw[UJ _ _ _ h]
  show fi ((yCf n F i+yCf m G i)%q)=_
  rw[V7,QO,Eo,Eo]
 ·rw[V8 _ _ _ (by omega),V8 _ _ _ (by omega),V8 _ _ _ (by omega)]
  grind
theorem QR (f:Nat->Fin q)(lo:Nat)(h: ∀i,i<lo->f i=0): ∀j,psm f (lo+j)=psm (fun i=>f (lo+i)) j
 |0=>WI f lo h
 |j+1=>by
  show psm f (lo+j)+f (lo+j)=psm _ j+f (lo+j)
  rw[QR f lo h j]
theorem Ep (F G:Nat->Nat)(k lo:Nat): ∀j,(fi (yCv (fO q) F G k lo j):Fin q)=psm (fun i=>fi (F (lo+i))*fi (G (k-(lo+i)))) j
 |0=>rfl
 |j+1=>by
  show fi ((yCv (fO q) F G k lo j+F (lo+j)*G (k-(lo+j))%q)%q)=_
  rw[V7,QO,V7,TI,Ep F G k lo j]
  rfl
theorem AM (F G:Nat->Nat)(k lo:Nat): ∀j,yCv (fO q) F G k lo j<q
 |0=>Mt
 |_+1=>Nat.mod_lt _ Mt
theorem AN (n:Nat)(F:Nat->Nat)(m:Nat)(G:Nat->Nat)(k:Nat):(fi (yMl (fO q) n F m G k):Fin q)=pco (pcv (fl n F) (fl m G)) k:=by
 rw[VI,Xx]
 unfold yMl
 rw[Ep]
 have hz: ∀i,i<k+1-m->(fun i=>if i<=k then pco (fl n F) i*pco (fl m G) (k-i)else(0:Fin q)) i=0:=fun i hi=>by
  show(if i<=k then _ else _)=(0:Fin q)
  split
  ·rw[V8 m G _ (by omega)];grind
  ·rfl
 have hc: ∀i,i<min n (k+1)-(k+1-m)->(fun i=>(fi (F (k+1-m+i))*fi (G (k-(k+1-m+i))):Fin q)) i=(fun i=>(fun i=>if i<=k then pco (fl n F) i*pco (fl m G) (k-i)else(0:Fin q)) (k+1-m+i)) i:=fun i hi=>by
  show _=if k+1-m+i<=k then _ else _
  rw[if_pos (by omega),UJ _ _ _ (by omega),UJ _ _ _ (by omega)]
 rw[Xg _ _ _ hc,<-QR _ _ hz]
 by_cases hlo:k+1-m<=min n (k+1)
 ·rw[show k+1-m+(min n (k+1)-(k+1-m))=min n (k+1) by omega]
  refine(UT _ _ _ (by omega) fun i h1 h2=>?_).symm
  show(if i<=k then _ else _)=(0:Fin q)
  exact if_neg (by omega)
 ·rw[show min n (k+1)-(k+1-m)=0 by omega,Nat.add_zero,WI _ _ hz,WI _ _ fun i hi=>hz i (by omega)]
theorem AO (n:Nat)(F:Nat->Nat)(m:Nat)(G:Nat->Nat)(i:Nat):pco (fl (n+m-1) (yMl (fO q) n F m G):List (Fin q)) i=pco (V6 (fl n F) (fl m G)) i:=by
 rw[UU]
 by_cases h:i<n+m-1
 ·rw[UJ _ _ _ h,AN]
 ·rw[V8 _ _ _ (by omega),VI,Xx]
  refine(WI _ _ fun j hj=>?_).symm
  show(if j<=i then _ else _)=(0:Fin q)
  split
  ·rw[V8 m G _ (by omega)];grind
  ·rfl
theorem Ge (f g f' g':List (Fin q))(h1: ∀i,pco f i=pco f' i)(h2: ∀i,pco g i=pco g' i):V6 f g=V6 f' g':=by
 rw[<-TB f g,<-TB f' g']
 refine W7 _ _ fun k=>?_
 rw[UU,UU,VI,VI]
 have hN: ∀(f g:List (Fin q)) N,f.length<=N->psm (fun i=>if i<=k then pco f i*pco g (k-i)else 0) N=psm (fun i=>if i<=k then pco f i*pco g (k-i)else 0) f.length:=fun f g N hN=>by
  refine UT _ _ _ hN fun i hi _=>?_
  show(if i<=k then _ else _)=(0:Fin q)
  split
  ·rw[WH f i hi];grind
  ·rfl
 rw[<-hN f g (max f.length f'.length) (by omega),<-hN f' g' (max f.length f'.length) (by omega)]
 refine Xg _ _ _ fun i _=>?_
 show(if i<=k then _ else _)=(if i<=k then _ else _)
 rw[h1,h2]
theorem Mu (f g:List (Fin q)):V6 (Yk f) (Yk g)=V6 f g:=Ge _ _ _ _ (YD f) (YD g)
theorem K0 (f g:List (Fin q)):Yk (QM f g)=QM f g:=VH _
theorem Er (F:Nat->Nat)(n x:Nat): ∀k,k<=n->(fi (yHv (fO q) F n x k):Fin q)=pev (fi x) ((fl n F).drop (n-k))
 |0,_=>by
  rw[List.drop_eq_nil_of_le (by rw[Xx];omega)];rfl
 |k+1,h=>by
  show fi ((yHv (fO q) F n x k*x%q+F (n-1-k))%q)=_
  have hl:n-(k+1)<(fl n F:List (Fin q)).length:=by rw[Xx];omega
  rw[V7,QO,V7,TI,Er F n x k (by omega),List.drop_eq_getElem_cons hl,<-QI _ _ hl,UJ _ _ _ (by omega),show n-(k+1)+1=n-k by omega,show n-1-k=n-(k+1) by omega]
  show _=fi _+fi x*pev (fi x) _
  grind
theorem AP (F:Nat->Nat)(n x:Nat): ∀k,yHv (fO q) F n x k<q
 |0=>Mt
 |_+1=>Nat.mod_lt _ Mt
theorem AQ (F:Nat->Nat)(n x:Nat):yHv (fO q) F n x n=(pev (fi x) (fl n F:List (Fin q))).val:=by
 have h:=Er (q:=q) F n x n (Nat.le_refl n)
 rw[Nat.sub_self,List.drop_zero]at h
 rw[<-h,En (AP F n x n)]
theorem Es (n:Nat)(F:Nat->Nat)(L:List (Fin q))(hn:n=L.length)(h: ∀i,i<n->F i=(pco L i).val):(fl n F:List (Fin q))=L:=by
 subst hn
 refine Eq.trans ?_ (AH L)
 unfold fl
 refine List.map_congr_left fun i hi=>?_
 rw[h i (by simpa using hi)]
def yDv (q m d:Nat)(B:Nat->Nat)(iv:Nat)(R0:Nat->Nat):Nat->(Nat->Nat)×(Nat->Nat)
 |0=>(R0,fun _=>0)
 |k+1=>((fun i=>if d-1-k<=i/\i<d-1-k+m then sbN ((yDv q m d B iv R0 k).1 i) (B (i-(d-1-k))*((yDv q m d B iv R0 k).1 (d-1-k+m-1)*iv%q)%q) q else(yDv q m d B iv R0 k).1 i),
  (fun i=>if i=d-1-k then(yDv q m d B iv R0 k).1 (d-1-k+m-1)*iv%q else(yDv q m d B iv R0 k).2 i))
theorem K1 (f g:Nat->Fin q)(j:Nat)(c:Fin q)(hj:g j=f j+c)(ho: ∀i,i≠j->g i=f i): ∀n,j<n->psm g n=psm f n+c
 |0,h=>by omega
 |n+1,h=>by
  show psm g n+g n=psm f n+f n+c
  by_cases e:j=n
  ·subst e
   rw[Xg g f j fun i hi=>ho i (by omega),hj]
   grind
  ·rw[K1 f g j c hj ho n (by omega),ho n (by omega)]
   grind
def tGo (xs:Nat->Fin q):Nat->List (Fin q)
 |0=>[1]
 |k+1=>V6 (tGo xs k) [0-xs k,1]
def tTh (iv:Fin q->Fin q)(xs ys:Nat->Fin q):Nat->List (Fin q)
 |0=>[]
 |k+1=>QM (tTh iv xs ys k) (V6 (tGo xs k) [(ys k-pev (xs k) (tTh iv xs ys k))*iv (pev (xs k) (tGo xs k))])
theorem Ni (xs:Nat->Fin q)(k:Nat)(z:Fin q):pev z (tGo xs (k+1))=pev z (tGo xs k)*(z-xs k):=by
 show pev z (V6 _ _)=_
 rw[Rn]
 show _*((0-xs k)+z*(1+z*0))=_
 grind
theorem Et (xs:Nat->Fin q)(j:Nat): ∀k,j<k->pev (xs j) (tGo xs k)=0
 |0,h=>by omega
 |k+1,h=>by
  rw[Ni]
  by_cases e:j=k
  ·rw[e];grind
  ·rw[Et xs j k (by omega)];grind
theorem K2 (hq:IsP q)(xs:Nat->Fin q)(z:Fin q): ∀k,(∀j,j<k->xs j≠z)->pev z (tGo xs k)≠0
 |0,_=>by
  show 1+z*0≠0
  have h2:=hq.1
  intro e
  have h1:(1:Fin q)=0:=by grind
  have:=(Gc 1 0).1 (KW.trans (h1.trans TG.symm))
  rw[Nat.mod_eq_of_lt (by omega),Nat.zero_mod]at this
  omega
 |k+1,h=>by
  rw[Ni]
  intro e
  rcases Ty hq e with e|e
  ·exact K2 hq xs z k (fun j hj=>h j (by omega)) e
  ·exact h k (by omega) (by grind)
theorem Vj (xs:Nat->Fin q): ∀k,(tGo xs k).length<=k+1
 |0=>Nat.le_refl 1
 |k+1=>by
  have h1:=WJ (tGo xs k) [0-xs k,1]
  have h2:=Vj xs k
  show(V6 (tGo xs k) [0-xs k,1]).length<=_
  simp only[List.length_cons,List.length_nil]at h1
  omega
theorem Vk (iv:Fin q->Fin q)(xs ys:Nat->Fin q): ∀k,(tTh iv xs ys k).length<=k
 |0=>Nat.le_refl 0
 |k+1=>by
  have h1:=TC (tTh iv xs ys k) (V6 (tGo xs k) [(ys k-pev (xs k) (tTh iv xs ys k))*iv (pev (xs k) (tGo xs k))])
  have h2:=WJ (tGo xs k) [(ys k-pev (xs k) (tTh iv xs ys k))*iv (pev (xs k) (tGo xs k))]
  have h3:=Vj xs k
  have h4:=Vk iv xs ys k
  show(QM _ _).length<=_
  simp only[List.length_cons,List.length_nil]at h2
  omega
theorem Gf (iv:Fin q->Fin q)(xs ys:Nat->Fin q): ∀k,Yk (tTh iv xs ys k)=tTh iv xs ys k
 |0=>rfl
 |_+1=>K0 _ _
theorem Ev (hq:IsP q)(iv:Fin q->Fin q)(hiv: ∀a,a≠0->a*iv a=1)(xs ys:Nat->Fin q)(n:Nat)(hd: ∀i j,i<n->j<n->i≠j->xs i≠xs j)(j:Nat): ∀k,k<=n->j<k->pev (xs j) (tTh iv xs ys k)=ys j
 |0,_,h=>by omega
 |k+1,hk,h=>by
  show pev (xs j) (QM _ _)=_
  rw[Nf,Rn]
  show _+_*(_+xs j*0)=_
  by_cases e:j=k
  ·subst e
   have h1:=hiv _ (K2 hq xs (xs j) j fun i hi=>hd i j (by omega) (by omega) (by omega))
   grind
  ·rw[Et xs j k (by omega),Ev hq iv hiv xs ys n hd j k (by omega) (by omega)]
   grind
theorem AR (hq:IsP q)(iv:Fin q->Fin q)(hiv: ∀a,a≠0->a*iv a=1)(xs ys:Nat->Fin q)(n:Nat)(hd: ∀i j,i<n->j<n->i≠j->xs i≠xs j):tTh iv xs ys n=M7 iv xs ys n n:=by
 rw[<-Gf]
 exact TE hq iv hiv xs ys n hd _ (Vk iv xs ys n) fun j hj=>Ev hq iv hiv xs ys n hd j n (Nat.le_refl n) hj
end
