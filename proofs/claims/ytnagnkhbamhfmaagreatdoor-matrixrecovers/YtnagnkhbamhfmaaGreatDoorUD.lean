import Derived.Test.YtnagnkhbamhfmaaGreatDoorFA
namespace Go.Proofs.YtnagnkhbamhfmaaGreatDoor
set_option linter.all false
section
variable {q:Nat}[NeZero q]
theorem TS (hq:IsP q){a b:Fin q}(h:a*b=0):a=0∨b=0:=by
 have h1:=dB0 Fin.val h;rw[Fin.val_mul]at h1;have h2:a.val*b.val%q=0:=h1;rcases TF hq (dV0 h2)with h|h
 ·exact .inl (Fin.ext (Nat.eq_zero_of_dvd_of_lt h a.isLt))
 ·exact .inr (Fin.ext (Nat.eq_zero_of_dvd_of_lt h b.isLt))
def pev (x:Fin q):List (Fin q)->Fin q
 |[]=>0
 |c::t=>c+x*pev x t
def pdv (a:Fin q):List (Fin q)->List (Fin q)
 |[]=>[]
 |[_]=>[]
 |_::d::t=>pev a (d::t)::pdv a (d::t)
theorem NX (a x:Fin q): ∀f,pev x f=(x-a)*pev x (pdv a f)+pev a f
 |[]=>by simp only[pev,pdv];grind
 |[c]=>by simp only[pev,pdv];grind
 |c::d::t=>by
  have ih:=NX a x (d::t);show c+x*pev x (d::t)=(x-a)*(pev a (d::t)+x*pev x (pdv a (d::t)))+(c+a*pev a (d::t))
  generalize pev x (d::t)=T at*;generalize pev a (d::t)=Ta at*;generalize pev x (pdv a (d::t))=G at*
  grind
theorem S4 (a:Fin q): ∀f,(pdv a f).length=f.length-1
 |[]=>rfl
 |[_]=>rfl
 |_::d::t=>by
  have ih:=S4 a (d::t);show(pdv a (d::t)).length+1=_
  rw[ih];simp
theorem NY (a:Fin q): ∀f,pev a f=0->(∀c∈pdv a f,c=0)-> ∀c∈f,c=0
 |[],_,_=>by simp
 |[c],h,_=>by
  have e:c=0:=by
   have h':c+a*0=0:=h
   grind
  simp[e]
 |c::d::t,h,hz=>by
  have h1:pev a (d::t)=0:=hz _ (by simp[pdv]);have h2:=NY a (d::t) h1 fun x hx=>hz x (by simp[pdv,hx])
  have h':c+a*pev a (d::t)=0:=h;rw[h1]at h';have e:c=0:=by grind
  intro x hx;rcases eW0.1 hx with hx|hx
  ·rw[hx,e]
  ·exact h2 x hx
theorem Pn (hq:IsP q): ∀(xs f:List (Fin q)),f.length<=xs.length->xs.Nodup->(∀x∈xs,pev x f=0)-> ∀c∈f,c=0
 |[],f,hl,_,_=>by
  have:f=[]:=aZ0 (iR0.1 hl);simp[this]
 |a::xs,f,hl,hn,hz=>by
  have ha:=hz a (by simp);have hn':=List.nodup_cons.1 hn;refine NY a f ha (Pn hq xs (pdv a f) ?_ hn'.2 fun x hx=>?_)
  ·rw[S4];simp only[bJ0]at hl;omega
  ·have hx0:=hz x (P_ _ hx);rw[NX a x f,ha]at hx0;have hx1:(x-a)*pev x (pdv a f)=0:=by grind
   rcases TS hq hx1 with h|h
   ·exact absurd (show x=a by grind) fun e=>hn'.1 (e▸hx)
   ·exact h
def pco (f:List (Fin q))(i:Nat):Fin q:=f.getD i 0
theorem B0 (i:Nat):pco ([]:List (Fin q)) i=0:=rfl
theorem FL (c:Fin q)(t:List (Fin q)):pco (c::t) 0=c:=rfl
theorem WO (c:Fin q)(t:List (Fin q))(i:Nat):pco (c::t) (i+1)=pco t i:=rfl
theorem XY (f:List (Fin q))(i:Nat)(h:f.length<=i):pco f i=0:=by
 unfold pco;rw[s_,fN0 h];rfl
theorem Po (f:List (Fin q))(i:Nat)(h:i<f.length):pco f i=f[i]:=by
 unfold pco;rw[s_,dE0 h];rfl
theorem UW (f:List (Fin q))(h: ∀i,pco f i=0)(x:Fin q):pev x f=0:=by
 induction f with
 |nil=>rfl
 |cons c t ih=>
  have h0:c=0:=h 0;have h1:=ih fun i=>h (i+1)
  show c+x*pev x t=0
  rw[h0,h1]
  grind
theorem TU: ∀(f g:List (Fin q)),(∀i,pco f i=pco g i)-> ∀x,pev x f=pev x g
 |[],g,h,x=>(UW g (fun i=>(h i).symm) x).symm
 |c::t,[],h,x=>UW (c::t) h x
 |c::t,d::u,h,x=>by
  have h0:c=d:=h 0;have h1:=TU t u (fun i=>h (i+1)) x;show c+x*pev x t=d+x*pev x u
  rw[h0,h1]
def RQ:List (Fin q)->List (Fin q)->List (Fin q)
 |[],g=>g
 |f,[]=>f
 |c::t,d::u=>(c+d)::RQ t u
theorem Uj: ∀(f g:List (Fin q)) (i:Nat),pco (RQ f g) i=pco f i+pco g i
 |[],g,i=>by
  show pco g i=0+pco g i
  grind
 |c::t,[],i=>by
  show pco (c::t) i=pco (c::t) i+0
  grind
 |c::t,d::u,0=>rfl
 |c::t,d::u,i+1=>Uj t u i
theorem Wg: ∀(f g:List (Fin q)),(RQ f g).length=max f.length g.length
 |[],g=>by show g.length=_;simp
 |c::t,[]=>by show(c::t).length=_;simp
 |c::t,d::u=>by
  have:=Wg t u;show(RQ t u).length+1=_
  simp only[bJ0];omega
theorem Tc (x:Fin q): ∀(f g:List (Fin q)),pev x (RQ f g)=pev x f+pev x g
 |[],g=>by
  show pev x g=0+pev x g
  grind
 |c::t,[]=>by
  show pev x (c::t)=pev x (c::t)+0
  grind
 |c::t,d::u=>by
  have ih:=Tc x t u;show(c+d)+x*pev x (RQ t u)=(c+x*pev x t)+(d+x*pev x u)
  rw[ih]
  grind
def Ly (c:Fin q)(f:List (Fin q)):List (Fin q):=f.map (c* ·)
theorem VU (c:Fin q)(f:List (Fin q)):(Ly c f).length=f.length:=by simp[Ly]
theorem RS (c:Fin q): ∀(f:List (Fin q)) (i:Nat),pco (Ly c f) i=c*pco f i
 |[],i=>by
  show 0=c*0
  grind
 |d::t,0=>rfl
 |d::t,i+1=>RS c t i
theorem RU (c x:Fin q): ∀f,pev x (Ly c f)=c*pev x f
 |[]=>by
  show 0=c*0
  grind
 |d::t=>by
  have ih:=RU c x t;show c*d+x*pev x (Ly c t)=c*(d+x*pev x t)
  rw[ih]
  grind
theorem Lz (hq:IsP q)(xs f g:List (Fin q))(hf:f.length<=xs.length)(hg:g.length<=xs.length)(hn:xs.Nodup)(h: ∀x∈xs,pev x f=pev x g)(i:Nat):pco f i=pco g i:=by
 have hz:=Pn hq xs (RQ f (Ly (-1) g)) (by rw[Wg,VU];omega) hn fun x hx=>by
  rw[Tc,RU,h x hx]
  grind
 have hc:pco (RQ f (Ly (-1) g)) i=0:=by
  by_cases hi:i<(RQ f (Ly (-1) g)).length
  ·rw[Po _ _ hi];exact hz _ (List.getElem_mem hi)
  ·exact XY _ _ (by omega)
 rw[Uj,RS]at hc
 grind
def Yn:List (Fin q)->List (Fin q)
 |[]=>[]
 |c::t=>if Yn t=[]/\c=0 then[]else c::Yn t
theorem YK: ∀(f:List (Fin q)) (i:Nat),pco (Yn f) i=pco f i
 |[],_=>rfl
 |c::t,i=>by
  unfold Yn
  split
  ·rename_i h
   cases i with
   |zero=>rw[FL,h.2];rfl
   |succ i=>rw[WO,<-YK t i,h.1];rfl
  ·cases i with
   |zero=>rfl
   |succ i=>rw[WO,WO];exact YK t i
theorem Pp (x:Fin q)(f:List (Fin q)):pev x (Yn f)=pev x f:=TU _ _ (YK f) x
theorem Td: ∀f:List (Fin q),(Yn f).length<=f.length
 |[]=>e_ _
 |c::t=>by
  have:=Td t;unfold Yn
  split
  ·simp
  ·simp only[bJ0];omega
theorem Vf: ∀f:List (Fin q),Yn f=[]↔ ∀i,pco f i=0
 |[]=>⟨fun _ _=>rfl,fun _=>rfl⟩
 |c::t=>by
  have ih:=Vf t;unfold Yn;constructor
  ·intro h i
   split at h
   ·rename_i hc
    cases i with
    |zero=>exact hc.2
    |succ i=>exact ih.1 hc.1 i
   ·cases h
  ·intro h;rw[i_ ⟨ih.2 fun i=>h (i+1),h 0⟩]
theorem Vg: ∀f g:List (Fin q),(∀i,pco f i=pco g i)->Yn f=Yn g
 |[],g,h=>((Vf g).2 fun i=>(h i).symm).symm
 |c::t,[],h=>(Vf (c::t)).2 h
 |c::t,d::u,h=>by
  have h0:c=d:=h 0;have h1:=Vg t u fun i=>h (i+1)
  unfold Yn;rw[h0,h1]
theorem VV (f:List (Fin q)):Yn (Yn f)=Yn f:=Vg _ _ (YK f)
theorem S5: ∀f:List (Fin q),Yn f≠[]->pco f ((Yn f).length-1)≠0
 |[],h=>absurd rfl h
 |c::t,h=>by
  have ih:=S5 t;unfold Yn at h ⊢
  split
  ·rename_i hc
   rw[i_ hc]at h;exact absurd rfl h
  ·rename_i hc
   by_cases ht:Yn t=[]
   ·rw[ht];intro h0;exact hc ⟨ht,h0⟩
   ·have hl:(Yn t).length≠0:=fun e=>ht (aZ0 e)
    show pco (c::t) ((Yn t).length+1-1)≠0
    rw[show(Yn t).length+1-1=(Yn t).length-1+1 by omega,WO];exact ih ht
theorem Pq (f:List (Fin q))(n:Nat)(hz: ∀i,n<=i->pco f i=0)(hn:n=0∨pco f (n-1)≠0):(Yn f).length=n:=by
 have h1:(Yn f).length<=n:=by
  by_cases e:Yn f=[]
  ·rw[e];exact dS0 _
  ·by_cases hl:(Yn f).length<=n
   ·exact hl
   ·exact absurd (hz ((Yn f).length-1) (by omega)) (S5 f e)
 rcases hn with h0|hn
 ·omega
 ·by_cases hl:(Yn f).length<n
  ·exfalso;apply hn;rw[<-YK];exact XY _ _ (by omega)
  ·omega
def pcv:List (Fin q)->List (Fin q)->List (Fin q)
 |[],_=>[]
 |c::t,g=>RQ (Ly c g) (0::pcv t g)
theorem J4 (x:Fin q): ∀f g:List (Fin q),pev x (pcv f g)=pev x f*pev x g
 |[],g=>by
  show 0=0*pev x g
  grind
 |c::t,g=>by
  have ih:=J4 x t g;show pev x (RQ (Ly c g) (0::pcv t g))=(c+x*pev x t)*pev x g
  rw[Tc,RU];show c*pev x g+(0+x*pev x (pcv t g))=_
  rw[ih]
  grind
theorem S6: ∀(c:Fin q) (t g:List (Fin q)),g≠[]->(pcv (c::t) g).length=t.length+g.length
 |c,[],g,hg=>by
  show(RQ (Ly c g) [0]).length=_
  rw[Wg,VU];have:g.length≠0:=fun e=>hg (aZ0 e)
  simp only[bJ0,eN0];omega
 |c,d::t,g,hg=>by
  have ih:=S6 d t g hg;show(RQ (Ly c g) (0::pcv (d::t) g)).length=_
  rw[Wg,VU,bJ0,ih,bJ0];omega
def psm (f:Nat->Fin q):Nat->Fin q
 |0=>0
 |n+1=>psm f n+f n
theorem Xd (f g:Nat->Fin q)(n:Nat)(h: ∀i,i<n->f i=g i):psm f n=psm g n:=by
 induction n with
 |zero=>rfl
 |succ n ih=>
  show psm f n+f n=psm g n+g n
  rw[ih fun i hi=>h i (by omega),h n (by omega)]
theorem TV (f:Nat->Fin q): ∀n,psm f (n+1)=f 0+psm (fun i=>f (i+1)) n
 |0=>by
  show 0+f 0=f 0+0
  grind
 |n+1=>by
  show psm f (n+1)+f (n+1)=f 0+(psm (fun i=>f (i+1)) n+f (n+1))
  rw[TV f n]
  grind
theorem Wp (f:Nat->Fin q)(n:Nat)(h: ∀i,i<n->f i=0):psm f n=0:=by
 induction n with
 |zero=>rfl
 |succ n ih=>
  show psm f n+f n=0
  rw[ih fun i hi=>h i (by omega),h n (by omega)]
  grind
theorem Te (f:Nat->Fin q)(n m:Nat)(hnm:n<=m)(h: ∀i,n<=i->i<m->f i=0):psm f m=psm f n:=by
 induction m with
 |zero=>rw[iR0.1 hnm]
 |succ m ih=>
  by_cases e:n=m+1
  ·rw[e]
  ·show psm f m+f m=psm f n
   rw[ih (by omega) fun i h1 h2=>h i h1 (by omega),h m (by omega) (by omega)]
   grind
theorem OK (c:Fin q)(f:Nat->Fin q): ∀n,psm (fun i=>c*f i) n=c*psm f n
 |0=>by
  show 0=c*0
  grind
 |n+1=>by
  show psm (fun i=>c*f i) n+c*f n=c*(psm f n+f n)
  rw[OK c f n]
  grind
theorem Vh: ∀(f g:List (Fin q)) (k:Nat),pco (pcv f g) k=psm (fun i=>if i<=k then pco f i*pco g (k-i)else 0) f.length
 |[],_,_=>rfl
 |c::t,g,k=>by
  show pco (RQ (Ly c g) (0::pcv t g)) k=psm _ (t.length+1)
  rw[Uj,RS,TV]
  congr 1
  cases k with
  |zero=>
   symm
   exact Wp _ _ fun i _=>j_ (by omega)
  |succ k=>
   rw[WO,Vh t g k];refine Xd _ _ _ fun i _=>?_
   by_cases h:i<=k
   ·rw[i_ h,i_ (by omega),WO,show k+1-(i+1)=k-i by omega]
   ·rw[j_ h,j_ (by omega)]
end
section
variable {q:Nat}[NeZero q]
def Vi (f g:List (Fin q)):List (Fin q):=if f=[]∨g=[]then[]else Yn (pcv f g)
theorem RV (x:Fin q)(f g:List (Fin q)):pev x (Vi f g)=pev x f*pev x g:=by
 unfold Vi
 split
 ·rename_i h
  rcases h with h|h
  ·rw[h];show 0=0*pev x g
   grind
  ·rw[h];show 0=pev x f*0
   grind
 ·rw[Pp,J4]
theorem OL (f:List (Fin q))(k:Nat):pco (pcv f []) k=0:=by
 rw[Vh];refine Wp _ _ fun i _=>?_
 split
 ·rw[B0]
  grind
 ·rfl
theorem Uk (f g:List (Fin q))(k:Nat):pco (Vi f g) k=pco (pcv f g) k:=by
 unfold Vi
 split
 ·rename_i h
  rcases h with h|h
  ·rw[h];rfl
  ·rw[h,OL];rfl
 ·exact YK _ _
theorem Ul (f g:List (Fin q)):Yn (Vi f g)=Vi f g:=by
 unfold Vi
 split
 ·rfl
 ·exact VV _
theorem WP (f g:List (Fin q)):(Vi f g).length<=f.length+g.length-1:=by
 unfold Vi
 split
 ·exact dS0 _
 ·rename_i h
  cases f with
  |nil=>exact absurd (.inl rfl) h
  |cons c t=>
   have hg:g≠[]:=fun e=>h (.inr e)
   have:=Td (pcv (c::t) g);rw[S6 c t g hg]at this;simp only[bJ0];omega
def Qq (f g:List (Fin q)):List (Fin q):=Yn (RQ f g)
theorem NZ (x:Fin q)(f g:List (Fin q)):pev x (Qq f g)=pev x f+pev x g:=by
 unfold Qq;rw[Pp,Tc]
theorem FM (f g:List (Fin q))(k:Nat):pco (Qq f g) k=pco f k+pco g k:=by
 unfold Qq;rw[YK,Uj]
theorem TW (f g:List (Fin q)):(Qq f g).length<=max f.length g.length:=by
 have:=Td (RQ f g);rw[Wg]at this;exact this
def plg (iv:Fin q->Fin q)(xs:Nat->Fin q)(y:Fin q)(i:Nat):Nat->List (Fin q)
 |0=>[y]
 |k+1=>if k=i then plg iv xs y i k else Vi (plg iv xs y i k) [(0-xs k)*iv (xs i-xs k),iv (xs i-xs k)]
def Qr (iv:Fin q->Fin q)(xs ys:Nat->Fin q)(n:Nat):Nat->List (Fin q)
 |0=>[]
 |i+1=>Qq (Qr iv xs ys n i) (plg iv xs (ys i) i n)
theorem N0 (iv:Fin q->Fin q)(xs:Nat->Fin q)(y:Fin q)(i k:Nat)(h:k≠i)(z:Fin q):pev z (plg iv xs y i (k+1))=pev z (plg iv xs y i k)*((z-xs k)*iv (xs i-xs k)):=by
 show pev z (if k=i then _ else _)=_
 rw[j_ h,RV];show pev z (plg iv xs y i k)*((0-xs k)*iv (xs i-xs k)+z*(iv (xs i-xs k)+z*0))=_
 generalize iv (xs i-xs k)=b
 grind
theorem RW (iv:Fin q->Fin q)(xs:Nat->Fin q)(y:Fin q)(i:Nat):plg iv xs y i (i+1)=plg iv xs y i i:=by
 show(if i=i then _ else _)=_
 rw[i_ rfl]
theorem DH (iv:Fin q->Fin q)(hiv: ∀a,a≠0->a*iv a=1)(xs:Nat->Fin q)(y:Fin q)(i n:Nat)(hd: ∀j,j<n->j≠i->xs j≠xs i): ∀k,k<=n->pev (xs i) (plg iv xs y i k)=y
 |0,_=>by
  show y+xs i*0=y
  grind
 |k+1,hk=>by
  have ih:=DH iv hiv xs y i n hd k (by omega);by_cases e:k=i
  ·subst e;rw[RW];exact ih
  ·rw[N0 iv xs y i k e,ih];have h0:xs i-xs k≠0:=fun h=>hd k (by omega) e (by grind)
   rw[hiv _ h0]
   grind
theorem OM (iv:Fin q->Fin q)(xs:Nat->Fin q)(y:Fin q)(i j:Nat)(hji:j≠i): ∀k,j<k->pev (xs j) (plg iv xs y i k)=0
 |0,h=>by omega
 |k+1,h=>by
  by_cases e:k=i
  ·subst e;rw[RW];exact OM iv xs y k j hji k (by omega)
  ·rw[N0 iv xs y i k e];by_cases ej:j=k
   ·rw[ej]
    grind
   ·rw[OM iv xs y i j hji k (by omega)]
    grind
theorem Vv (iv:Fin q->Fin q)(xs:Nat->Fin q)(y:Fin q)(i:Nat): ∀k,(plg iv xs y i k).length<=if i<k then k else k+1
 |0=>by
  rw[j_ (cW0 i)];exact e_ 1
 |k+1=>by
  have ih:=Vv iv xs y i k;by_cases e:k=i
  ·subst e;rw[RW];rw[j_ (eX0 k)]at ih;rw[i_ (hC0 k)];exact ih
  ·show(if k=i then _ else _:List (Fin q)).length<=_
   rw[j_ e];have hm:=WP (plg iv xs y i k) [(0-xs k)*iv (xs i-xs k),iv (xs i-xs k)];simp only[bJ0,eN0]at hm;by_cases hi:i<k
   ·rw[i_ hi]at ih;rw[i_ (by omega)];omega
   ·rw[j_ hi]at ih;rw[j_ (by omega)];omega
theorem WQ (iv:Fin q->Fin q)(xs ys:Nat->Fin q)(n:Nat): ∀m,m<=n->(Qr iv xs ys n m).length<=n
 |0,_=>dS0 _
 |i+1,h=>by
  have ih:=WQ iv xs ys n i (by omega);have h1:=TW (Qr iv xs ys n i) (plg iv xs (ys i) i n);have h2:=Vv iv xs (ys i) i n;rw[i_ (show i<n by omega)]at h2;show(Qq (Qr iv xs ys n i) (plg iv xs (ys i) i n)).length<=n
  omega
theorem J5 (iv:Fin q->Fin q)(xs ys:Nat->Fin q)(n:Nat): ∀m,Yn (Qr iv xs ys n m)=Qr iv xs ys n m
 |0=>rfl
 |_+1=>VV _
theorem ON (iv:Fin q->Fin q)(hiv: ∀a,a≠0->a*iv a=1)(xs ys:Nat->Fin q)(n:Nat)(hd: ∀i j,i<n->j<n->i≠j->xs i≠xs j)(j:Nat)(hj:j<n): ∀m,m<=n->pev (xs j) (Qr iv xs ys n m)=if j<m then ys j else 0
 |0,_=>by
  rw[j_ (cW0 j)];rfl
 |i+1,h=>by
  have ih:=ON iv hiv xs ys n hd j hj i (by omega);show pev (xs j) (Qq (Qr iv xs ys n i) (plg iv xs (ys i) i n))=_
  rw[NZ,ih];by_cases e:j=i
  ·subst e;rw[j_ (eX0 j),i_ (hC0 j),DH iv hiv xs (ys j) j n (fun k hk hne=>hd k j hk hj hne) n (e_ n)]
   grind
  ·rw[OM iv xs (ys i) i j e n hj];by_cases hl:j<i
   ·rw[i_ hl,i_ (by omega)]
    grind
   ·rw[j_ hl,j_ (by omega)]
    grind
theorem Pr (xs:Nat->Fin q)(n:Nat)(hd: ∀i j,i<n->j<n->i≠j->xs i≠xs j):((List.range n).map xs).Nodup:=by
 rw[List.nodup_iff_pairwise_ne,List.pairwise_map];refine(List.nodup_range (n:=n)).imp_of_mem ?_;intro a b ha hb hab;exact hd a b (fD0.1 ha) (fD0.1 hb) hab
theorem TX (hq:IsP q)(iv:Fin q->Fin q)(hiv: ∀a,a≠0->a*iv a=1)(xs ys:Nat->Fin q)(n:Nat)(hd: ∀i j,i<n->j<n->i≠j->xs i≠xs j)(f:List (Fin q))(hf:f.length<=n)(h: ∀j,j<n->pev (xs j) f=ys j):Yn f=Qr iv xs ys n n:=by
 rw[<-J5 iv xs ys n n];refine Vg _ _ (Lz hq ((List.range n).map xs) f _ (by simpa using hf) (by simpa using WQ iv xs ys n n (e_ n)) (Pr xs n hd) ?_);intro x hx;obtain⟨j,hj,rfl⟩:=fG0.1 hx;have hj':=fD0.1 hj;rw[h j hj',ON iv hiv xs ys n hd j hj' n (e_ n),i_ hj']
end
section
variable {q:Nat}[NeZero q]
def poff (xs ys:Nat->Fin q)(n:Nat)(f:List (Fin q)):Nat:=(List.range n).countP fun j=>decide (pev (xs j) f≠ys j)
def fi (A:Nat):Fin q:=Fin.ofNat q A
theorem TY (A:Nat):(fi A:Fin q).val=A%q:=rfl
theorem FN (A B:Nat):(fi A:Fin q)=fi B↔A%q=B%q:=⟨fun h=>dB0 Fin.val h,fun h=>Fin.ext h⟩
theorem WS (A:Nat):(fi (A%q):Fin q)=fi A:=Fin.ext (dQ0 A q)
theorem TZ (x:Fin q):(fi x.val:Fin q)=x:=Fin.ext (g_ x.isLt)
theorem T0:(fi 0:Fin q)=0:=rfl
theorem J6:(fi 1:Fin q)=1:=rfl
theorem S7 (A B:Nat):(fi (A+B):Fin q)=fi A+fi B:=by
 refine Fin.ext ?_;rw[Fin.val_add,TY,TY,TY,<-eV0]
theorem Um (A B:Nat):(fi (A*B):Fin q)=fi A*fi B:=by
 refine Fin.ext ?_;rw[Fin.val_mul,TY,TY,TY,<-aN0]
theorem N2 (A B:Nat):(fi ((A%q+(q-B%q))%q):Fin q)=fi A-fi B:=by
 have h0:0<q:=Nat.pos_of_ne_zero (NeZero.ne q);have hb:=n_ B h0;have e:(fi A:Fin q)=fi A-fi B+fi B:=by grind
 have e2:(fi ((A%q+(q-B%q))%q):Fin q)+fi B=fi A:=by
  rw[<-WS B,<-S7,<-WS A,FN,Nat.mod_add_mod,show A%q+(q-B%q)+B%q=A%q+q by omega,Nat.add_mod_right]
 grind
def fl (n:Nat)(f:Nat->Nat):List (Fin q):=(List.range n).map fun i=>fi (f i)
theorem YL (n:Nat)(f:Nat->Nat):(fl n f:List (Fin q)).length=n:=by simp[fl]
theorem Wu (n:Nat)(f:Nat->Nat)(i:Nat)(h:i<n):pco (fl n f:List (Fin q)) i=fi (f i):=by
 rw[Po _ _ (by rw[YL];exact h)];simp[fl]
theorem Vj (n:Nat)(f:Nat->Nat)(i:Nat)(h:n<=i):pco (fl n f:List (Fin q)) i=0:=XY _ _ (by rw[YL];exact h)
theorem J7 (l:List (Fin q)):fl l.length (fun i=>(pco l i).val)=l:=by
 refine List.ext_getElem (YL _ _) fun i h1 h2=>?_
 rw[<-Po _ i h1,<-Po _ i h2,Wu _ _ _ h2,TZ]
def ppw (x:Fin q):Nat->Fin q
 |0=>1
 |n+1=>ppw x n*x
theorem Ps (x:Fin q): ∀n,ppw x (n+1)=x*ppw x n
 |0=>by
  show 1*x=x*1
  grind
 |n+1=>by
  show ppw x (n+1)*x=x*(ppw x n*x)
  rw[Ps x n]
  grind
theorem J8 (x:Fin q): ∀f:List (Fin q),pev x f=psm (fun i=>pco f i*ppw x i) f.length
 |[]=>rfl
 |c::t=>by
  have ih:=J8 x t;show c+x*pev x t=psm _ (t.length+1)
  rw[TV,ih,<-OK];show c+_=c*1+_
  rw[show c*1=c by grind]
  congr 1
  refine Xd _ _ _ fun i _=>?_
  rw[WO,Ps]
  grind
end
structure FO where
 ad:Nat->Nat->Nat
 mu:Nat->Nat->Nat
def yTn (F:Nat->Nat):Nat->Nat
 |0=>0
 |n+1=>if F n=0 then yTn F n else n+1
theorem Un (F:Nat->Nat): ∀n,yTn F n<=n
 |0=>e_ 0
 |n+1=>by
  have:=Un F n;unfold yTn
  split<;>omega
theorem OP (F:Nat->Nat): ∀n i,yTn F n<=i->i<n->F i=0
 |0,i,_,h=>by omega
 |n+1,i,h,hi=>by
  unfold yTn at h
  split at h
  ·next h0=>
   by_cases e:i=n
   ·rw[e];exact h0
   ·exact OP F n i h (by omega)
  ·omega
theorem N4 (F:Nat->Nat): ∀n,yTn F n=0∨F (yTn F n-1)≠0
 |0=>.inl rfl
 |n+1=>by
  unfold yTn
  split
  ·exact N4 F n
  ·next h=>exact .inr h
def yHv (o:FO)(F:Nat->Nat)(n x:Nat):Nat->Nat
 |0=>0
 |k+1=>o.ad (o.mu (yHv o F n x k) x) (F (n-1-k))
def yCf (n:Nat)(F:Nat->Nat)(k:Nat):Nat:=if k<n then F k else 0
theorem DI {n:Nat}{F:Nat->Nat}(h: ∀i,i<n->F i<2^256)(k:Nat):yCf n F k<2^256:=by
 unfold yCf
 split
 ·next h1=>exact h k h1
 ·decide
def yCv (o:FO)(F G:Nat->Nat)(k lo:Nat):Nat->Nat
 |0=>0
 |j+1=>o.ad (yCv o F G k lo j) (o.mu (F (lo+j)) (G (k-(lo+j))))
def yTm (o:FO)(F:Nat->Nat)(k:Nat):Nat:=o.ad (F k) 0
def ySm (o:FO)(n:Nat)(F:Nat->Nat)(m:Nat)(G:Nat->Nat)(k:Nat):Nat:=o.ad (yCf n F k) (yCf m G k)
def yMl (o:FO)(n:Nat)(F:Nat->Nat)(m:Nat)(G:Nat->Nat)(k:Nat):Nat:=yCv o F G k (k+1-m) (min n (k+1)-(k+1-m))
def fO (q:Nat):FO:=⟨fun A B=>(A+B)%q,fun A B=>A*B%q⟩
def nO:FO:=⟨fun _ _=>0,fun _ _=>0⟩
section
variable {q:Nat}[NeZero q]
theorem LA:0<q:=Nat.pos_of_ne_zero (NeZero.ne q)
theorem DJ {A B:Nat}(h:(fi A:Fin q)=fi B)(hA:A<q)(hB:B<q):A=B:=by
 have:=(FN A B).1 h
 rwa [g_ hA,g_ hB]at this
theorem ue {A:Nat}(hA:A<q):(fi A:Fin q)=0↔A=0:=⟨fun h=>DJ (h.trans T0.symm) hA LA,fun h=>h▸T0⟩
theorem Uo {A:Nat}(hA:A<q):(fi A:Fin q).val=A:=g_ hA
theorem yB (x:Fin q):x.val=0↔x=0:=⟨fun h=>Fin.ext h,fun h=>by rw[h];rfl⟩
theorem yC (n:Nat)(F:Nat->Nat)(h: ∀i,i<n->F i<q):(Yn (fl n F:List (Fin q))).length=yTn F n:=by
 refine Pq _ _ (fun i hi=>?_) ?_
 ·by_cases hn:i<n
  ·rw[Wu _ _ _ hn,OP F n i hi hn];rfl
  ·exact Vj _ _ _ (by omega)
 ·have hle:=Un F n;rcases N4 F n with h1|h1
  ·exact .inl h1
  ·by_cases h0:yTn F n=0
   ·exact .inl h0
   ·refine .inr ?_;rw[Wu _ _ _ (by omega)];exact fun e=>h1 ((ue (h _ (by omega))).1 e)
theorem yD (n:Nat)(F:Nat->Nat)(h: ∀i,i<n->F i<q)(i:Nat)(hi:i<yTn F n):F i=(pco (Yn (fl n F:List (Fin q))) i).val:=by
 have hle:=Un F n;rw[YK,Wu _ _ _ (by omega),Uo (h _ (by omega))]
theorem LB (n:Nat)(F:Nat->Nat)(L:List (Fin q))(h: ∀i,i<n->F i<q)(hL: ∀i,pco (fl n F:List (Fin q)) i=pco L i):
  yTn F n=(Yn L).length/\ ∀i,i<yTn F n->F i=(pco (Yn L) i).val:=by
 rw[<-Vg _ _ hL];exact⟨(yC n F h).symm,yD n F h⟩
theorem J9 (n:Nat)(F:Nat->Nat):(fl n (yTm (fO q) F):List (Fin q))=fl n F:=by
 unfold fl;refine List.map_congr_left fun i _=>?_
 show fi ((F i+0)%q)=fi (F i)
 rw[WS];rfl
theorem Ia (F:Nat->Nat)(i:Nat):yTm (fO q) F i<q:=n_ _ LA
theorem DK (n:Nat)(F:Nat->Nat)(k:Nat):(fi (yCf n F k):Fin q)=pco (fl n F) k:=by
 unfold yCf
 split
 ·next h=>rw[Wu _ _ _ h]
 ·next h=>rw[Vj _ _ _ (by omega)];rfl
theorem DM (n:Nat)(F:Nat->Nat)(m:Nat)(G:Nat->Nat)(i:Nat):pco (fl (max n m) (ySm (fO q) n F m G):List (Fin q)) i=pco (RQ (fl n F) (fl m G)) i:=by
 rw[Uj];by_cases h:i<max n m
 ·rw[Wu _ _ _ h];show fi ((yCf n F i+yCf m G i)%q)=_
  rw[WS,S7,DK,DK]
 ·rw[Vj _ _ _ (by omega),Vj _ _ _ (by omega),Vj _ _ _ (by omega)]
  grind
theorem Pt (f:Nat->Fin q)(lo:Nat)(h: ∀i,i<lo->f i=0): ∀j,psm f (lo+j)=psm (fun i=>f (lo+i)) j
 |0=>Wp f lo h
 |j+1=>by
  show psm f (lo+j)+f (lo+j)=psm _ j+f (lo+j)
  rw[Pt f lo h j]
theorem DN (F G:Nat->Nat)(k lo:Nat): ∀j,(fi (yCv (fO q) F G k lo j):Fin q)=psm (fun i=>fi (F (lo+i))*fi (G (k-(lo+i)))) j
 |0=>rfl
 |j+1=>by
  show fi ((yCv (fO q) F G k lo j+F (lo+j)*G (k-(lo+j))%q)%q)=_
  rw[WS,S7,WS,Um,DN F G k lo j];rfl
theorem yE (F G:Nat->Nat)(k lo:Nat): ∀j,yCv (fO q) F G k lo j<q
 |0=>LA
 |_+1=>n_ _ LA
theorem yF (n:Nat)(F:Nat->Nat)(m:Nat)(G:Nat->Nat)(k:Nat):(fi (yMl (fO q) n F m G k):Fin q)=pco (pcv (fl n F) (fl m G)) k:=by
 rw[Vh,YL];unfold yMl;rw[DN]
 have hz: ∀i,i<k+1-m->(fun i=>if i<=k then pco (fl n F) i*pco (fl m G) (k-i)else(0:Fin q)) i=0:=fun i hi=>by
  show(if i<=k then _ else _)=(0:Fin q)
  split
  ·rw[Vj m G _ (by omega)];grind
  ·rfl
 have hc: ∀i,i<min n (k+1)-(k+1-m)->(fun i=>(fi (F (k+1-m+i))*fi (G (k-(k+1-m+i))):Fin q)) i=(fun i=>(fun i=>if i<=k then pco (fl n F) i*pco (fl m G) (k-i)else(0:Fin q)) (k+1-m+i)) i:=fun i hi=>by
  show _=if k+1-m+i<=k then _ else _
  rw[i_ (by omega),Wu _ _ _ (by omega),Wu _ _ _ (by omega)]
 rw[Xd _ _ _ hc,<-Pt _ _ hz];by_cases hlo:k+1-m<=min n (k+1)
 ·rw[show k+1-m+(min n (k+1)-(k+1-m))=min n (k+1) by omega];refine(Te _ _ _ (by omega) fun i h1 h2=>?_).symm;show(if i<=k then _ else _)=(0:Fin q)
  exact j_ (by omega)
 ·rw[show min n (k+1)-(k+1-m)=0 by omega,bM0,Wp _ _ hz,Wp _ _ fun i hi=>hz i (by omega)]
theorem yG (n:Nat)(F:Nat->Nat)(m:Nat)(G:Nat->Nat)(i:Nat):pco (fl (n+m-1) (yMl (fO q) n F m G):List (Fin q)) i=pco (Vi (fl n F) (fl m G)) i:=by
 rw[Uk];by_cases h:i<n+m-1
 ·rw[Wu _ _ _ h,yF]
 ·rw[Vj _ _ _ (by omega),Vh,YL];refine(Wp _ _ fun j hj=>?_).symm;show(if j<=i then _ else _)=(0:Fin q)
  split
  ·rw[Vj m G _ (by omega)];grind
  ·rfl
theorem FP (f g f' g':List (Fin q))(h1: ∀i,pco f i=pco f' i)(h2: ∀i,pco g i=pco g' i):Vi f g=Vi f' g':=by
 rw[<-Ul f g,<-Ul f' g'];refine Vg _ _ fun k=>?_
 rw[Uk,Uk,Vh,Vh]
 have hN: ∀(f g:List (Fin q)) N,f.length<=N->psm (fun i=>if i<=k then pco f i*pco g (k-i)else 0) N=psm (fun i=>if i<=k then pco f i*pco g (k-i)else 0) f.length:=fun f g N hN=>by
  refine Te _ _ _ hN fun i hi _=>?_
  show(if i<=k then _ else _)=(0:Fin q)
  split
  ·rw[XY f i hi];grind
  ·rfl
 rw[<-hN f g (max f.length f'.length) (by omega),<-hN f' g' (max f.length f'.length) (by omega)];refine Xd _ _ _ fun i _=>?_
 show(if i<=k then _ else _)=(if i<=k then _ else _)
 rw[h1,h2]
theorem LC (f g:List (Fin q)):Vi (Yn f) (Yn g)=Vi f g:=FP _ _ _ _ (YK f) (YK g)
theorem Ib (f g:List (Fin q)):Yn (Qq f g)=Qq f g:=VV _
theorem DO (F:Nat->Nat)(n x:Nat): ∀k,k<=n->(fi (yHv (fO q) F n x k):Fin q)=pev (fi x) ((fl n F).drop (n-k))
 |0,_=>by
  rw[List.drop_eq_nil_of_le (by rw[YL];omega)];rfl
 |k+1,h=>by
  show fi ((yHv (fO q) F n x k*x%q+F (n-1-k))%q)=_
  have hl:n-(k+1)<(fl n F:List (Fin q)).length:=by rw[YL];omega
  rw[WS,S7,WS,Um,DO F n x k (by omega),List.drop_eq_getElem_cons hl,<-Po _ _ hl,Wu _ _ _ (by omega),show n-(k+1)+1=n-k by omega,show n-1-k=n-(k+1) by omega];show _=fi _+fi x*pev (fi x) _
  grind
theorem yH (F:Nat->Nat)(n x:Nat): ∀k,yHv (fO q) F n x k<q
 |0=>LA
 |_+1=>n_ _ LA
theorem yI (F:Nat->Nat)(n x:Nat):yHv (fO q) F n x n=(pev (fi x) (fl n F:List (Fin q))).val:=by
 have h:=DO (q:=q) F n x n (e_ n);rw[fK0,List.drop_zero]at h;rw[<-h,Uo (yH F n x n)]
theorem DP (n:Nat)(F:Nat->Nat)(L:List (Fin q))(hn:n=L.length)(h: ∀i,i<n->F i=(pco L i).val):(fl n F:List (Fin q))=L:=by
 subst hn;refine Eq.trans ?_ (J7 L);unfold fl;refine List.map_congr_left fun i hi=>?_
 rw[h i (by simpa using hi)]
def yDv (q m d:Nat)(B:Nat->Nat)(iv:Nat)(R0:Nat->Nat):Nat->(Nat->Nat)×(Nat->Nat)
 |0=>(R0,fun _=>0)
 |k+1=>((fun i=>if d-1-k<=i/\i<d-1-k+m then sbN ((yDv q m d B iv R0 k).1 i) (B (i-(d-1-k))*((yDv q m d B iv R0 k).1 (d-1-k+m-1)*iv%q)%q) q else(yDv q m d B iv R0 k).1 i),
  (fun i=>if i=d-1-k then(yDv q m d B iv R0 k).1 (d-1-k+m-1)*iv%q else(yDv q m d B iv R0 k).2 i))
theorem Ic (f g:Nat->Fin q)(j:Nat)(c:Fin q)(hj:g j=f j+c)(ho: ∀i,i≠j->g i=f i): ∀n,j<n->psm g n=psm f n+c
 |0,h=>by omega
 |n+1,h=>by
  show psm g n+g n=psm f n+f n+c
  by_cases e:j=n
  ·subst e;rw[Xd g f j fun i hi=>ho i (by omega),hj]
   grind
  ·rw[Ic f g j c hj ho n (by omega),ho n (by omega)]
   grind
def tGo (xs:Nat->Fin q):Nat->List (Fin q)
 |0=>[1]
 |k+1=>Vi (tGo xs k) [0-xs k,1]
def tTh (iv:Fin q->Fin q)(xs ys:Nat->Fin q):Nat->List (Fin q)
 |0=>[]
 |k+1=>Qq (tTh iv xs ys k) (Vi (tGo xs k) [(ys k-pev (xs k) (tTh iv xs ys k))*iv (pev (xs k) (tGo xs k))])
theorem N5 (xs:Nat->Fin q)(k:Nat)(z:Fin q):pev z (tGo xs (k+1))=pev z (tGo xs k)*(z-xs k):=by
 show pev z (Vi _ _)=_
 rw[RV];show _*((0-xs k)+z*(1+z*0))=_
 grind
theorem DQ (xs:Nat->Fin q)(j:Nat): ∀k,j<k->pev (xs j) (tGo xs k)=0
 |0,h=>by omega
 |k+1,h=>by
  rw[N5];by_cases e:j=k
  ·rw[e];grind
  ·rw[DQ xs j k (by omega)];grind
theorem Ie (hq:IsP q)(xs:Nat->Fin q)(z:Fin q): ∀k,(∀j,j<k->xs j≠z)->pev z (tGo xs k)≠0
 |0,_=>by
  show 1+z*0≠0
  have h2:=hq.1;intro e;have h1:(1:Fin q)=0:=by grind
  have:=(FN 1 0).1 (J6.trans (h1.trans T0.symm));rw[g_ (by omega),eE0]at this;omega
 |k+1,h=>by
  rw[N5];intro e;rcases TS hq e with e|e
  ·exact Ie hq xs z k (fun j hj=>h j (by omega)) e
  ·exact h k (by omega) (by grind)
theorem Vw (xs:Nat->Fin q): ∀k,(tGo xs k).length<=k+1
 |0=>e_ 1
 |k+1=>by
  have h1:=WP (tGo xs k) [0-xs k,1];have h2:=Vw xs k;show(Vi (tGo xs k) [0-xs k,1]).length<=_
  simp only[bJ0,eN0]at h1;omega
theorem Vx (iv:Fin q->Fin q)(xs ys:Nat->Fin q): ∀k,(tTh iv xs ys k).length<=k
 |0=>e_ 0
 |k+1=>by
  have h1:=TW (tTh iv xs ys k) (Vi (tGo xs k) [(ys k-pev (xs k) (tTh iv xs ys k))*iv (pev (xs k) (tGo xs k))]);have h2:=WP (tGo xs k) [(ys k-pev (xs k) (tTh iv xs ys k))*iv (pev (xs k) (tGo xs k))];have h3:=Vw xs k;have h4:=Vx iv xs ys k;show(Qq _ _).length<=_
  simp only[bJ0,eN0]at h2;omega
theorem FQ (iv:Fin q->Fin q)(xs ys:Nat->Fin q): ∀k,Yn (tTh iv xs ys k)=tTh iv xs ys k
 |0=>rfl
 |_+1=>Ib _ _
theorem DR (hq:IsP q)(iv:Fin q->Fin q)(hiv: ∀a,a≠0->a*iv a=1)(xs ys:Nat->Fin q)(n:Nat)(hd: ∀i j,i<n->j<n->i≠j->xs i≠xs j)(j:Nat): ∀k,k<=n->j<k->pev (xs j) (tTh iv xs ys k)=ys j
 |0,_,h=>by omega
 |k+1,hk,h=>by
  show pev (xs j) (Qq _ _)=_
  rw[NZ,RV];show _+_*(_+xs j*0)=_
  by_cases e:j=k
  ·subst e;have h1:=hiv _ (Ie hq xs (xs j) j fun i hi=>hd i j (by omega) (by omega) (by omega))
   grind
  ·rw[DQ xs j k (by omega),DR hq iv hiv xs ys n hd j k (by omega) (by omega)]
   grind
theorem yJ (hq:IsP q)(iv:Fin q->Fin q)(hiv: ∀a,a≠0->a*iv a=1)(xs ys:Nat->Fin q)(n:Nat)(hd: ∀i j,i<n->j<n->i≠j->xs i≠xs j):tTh iv xs ys n=Qr iv xs ys n n:=by
 rw[<-FQ];exact TX hq iv hiv xs ys n hd _ (Vx iv xs ys n) fun j hj=>DR hq iv hiv xs ys n hd j n (e_ n) hj
end
