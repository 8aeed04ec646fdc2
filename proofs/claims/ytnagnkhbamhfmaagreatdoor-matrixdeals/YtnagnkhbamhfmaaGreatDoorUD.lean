import Derived.Test.YtnagnkhbamhfmaaGreatDoorFA
namespace Go.Proofs.YtnagnkhbamhfmaaGreatDoor
set_option linter.all false
section
variable {q:Nat}[NeZero q]
theorem TQ (hq:IsP q){a b:Fin q}(h:a*b=0):a=0∨b=0:=by
 have h1:=cY0 Fin.val h;rw[Fin.val_mul]at h1;have h2:a.val*b.val%q=0:=h1;rcases TD hq (dQ0 h2)with h|h
 ·exact .inl (Fin.ext (Nat.eq_zero_of_dvd_of_lt h a.isLt))
 ·exact .inr (Fin.ext (Nat.eq_zero_of_dvd_of_lt h b.isLt))
def pev (x:Fin q):List (Fin q)->Fin q
 |[]=>0
 |c::t=>c+x*pev x t
def pdv (a:Fin q):List (Fin q)->List (Fin q)
 |[]=>[]
 |[_]=>[]
 |_::d::t=>pev a (d::t)::pdv a (d::t)
theorem Ny (a x:Fin q): ∀f,pev x f=(x-a)*pev x (pdv a f)+pev a f
 |[]=>by simp only[pev,pdv];grind
 |[c]=>by simp only[pev,pdv];grind
 |c::d::t=>by
  have ih:=Ny a x (d::t);show c+x*pev x (d::t)=(x-a)*(pev a (d::t)+x*pev x (pdv a (d::t)))+(c+a*pev a (d::t))
  generalize pev x (d::t)=T at*;generalize pev a (d::t)=Ta at*;generalize pev x (pdv a (d::t))=G at*
  grind
theorem SW (a:Fin q): ∀f,(pdv a f).length=f.length-1
 |[]=>rfl
 |[_]=>rfl
 |_::d::t=>by
  have ih:=SW a (d::t);show(pdv a (d::t)).length+1=_
  rw[ih];simp
theorem Nz (a:Fin q): ∀f,pev a f=0->(∀c∈pdv a f,c=0)-> ∀c∈f,c=0
 |[],_,_=>by simp
 |[c],h,_=>by
  have e:c=0:=by
   have h':c+a*0=0:=h
   grind
  simp[e]
 |c::d::t,h,hz=>by
  have h1:pev a (d::t)=0:=hz _ (by simp[pdv]);have h2:=Nz a (d::t) h1 fun x hx=>hz x (by simp[pdv,hx])
  have h':c+a*pev a (d::t)=0:=h;rw[h1]at h';have e:c=0:=by grind
  intro x hx;rcases eS0.1 hx with hx|hx
  ·rw[hx,e]
  ·exact h2 x hx
theorem QV (hq:IsP q): ∀(xs f:List (Fin q)),f.length<=xs.length->xs.Nodup->(∀x∈xs,pev x f=0)-> ∀c∈f,c=0
 |[],f,hl,_,_=>by
  have:f=[]:=bK0 (iN0.1 hl);simp[this]
 |a::xs,f,hl,hn,hz=>by
  have ha:=hz a (by simp);have hn':=List.nodup_cons.1 hn;refine Nz a f ha (QV hq xs (pdv a f) ?_ hn'.2 fun x hx=>?_)
  ·rw[SW];simp only[bB0]at hl;omega
  ·have hx0:=hz x (K_ _ hx);rw[Ny a x f,ha]at hx0;have hx1:(x-a)*pev x (pdv a f)=0:=by grind
   rcases TQ hq hx1 with h|h
   ·exact absurd (show x=a by grind) fun e=>hn'.1 (e▸hx)
   ·exact h
def pco (f:List (Fin q))(i:Nat):Fin q:=f.getD i 0
theorem Bj (i:Nat):pco ([]:List (Fin q)) i=0:=rfl
theorem GT (c:Fin q)(t:List (Fin q)):pco (c::t) 0=c:=rfl
theorem WN (c:Fin q)(t:List (Fin q))(i:Nat):pco (c::t) (i+1)=pco t i:=rfl
theorem Wp (f:List (Fin q))(i:Nat)(h:f.length<=i):pco f i=0:=by
 unfold pco;rw[u_,gS0 h];rfl
theorem QX (f:List (Fin q))(i:Nat)(h:i<f.length):pco f i=f[i]:=by
 unfold pco;rw[u_,cQ0 h];rfl
theorem UT (f:List (Fin q))(h: ∀i,pco f i=0)(x:Fin q):pev x f=0:=by
 induction f with
 |nil=>rfl
 |cons c t ih=>
  have h0:c=0:=h 0;have h1:=ih fun i=>h (i+1)
  show c+x*pev x t=0
  rw[h0,h1]
  grind
theorem TR: ∀(f g:List (Fin q)),(∀i,pco f i=pco g i)-> ∀x,pev x f=pev x g
 |[],g,h,x=>(UT g (fun i=>(h i).symm) x).symm
 |c::t,[],h,x=>UT (c::t) h x
 |c::t,d::u,h,x=>by
  have h0:c=d:=h 0;have h1:=TR t u (fun i=>h (i+1)) x;show c+x*pev x t=d+x*pev x u
  rw[h0,h1]
def QY:List (Fin q)->List (Fin q)->List (Fin q)
 |[],g=>g
 |f,[]=>f
 |c::t,d::u=>(c+d)::QY t u
theorem Ul: ∀(f g:List (Fin q)) (i:Nat),pco (QY f g) i=pco f i+pco g i
 |[],g,i=>by
  show pco g i=0+pco g i
  grind
 |c::t,[],i=>by
  show pco (c::t) i=pco (c::t) i+0
  grind
 |c::t,d::u,0=>rfl
 |c::t,d::u,i+1=>Ul t u i
theorem Wc: ∀(f g:List (Fin q)),(QY f g).length=max f.length g.length
 |[],g=>by show g.length=_;simp
 |c::t,[]=>by show(c::t).length=_;simp
 |c::t,d::u=>by
  have:=Wc t u;show(QY t u).length+1=_
  simp only[bB0];omega
theorem U9 (x:Fin q): ∀(f g:List (Fin q)),pev x (QY f g)=pev x f+pev x g
 |[],g=>by
  show pev x g=0+pev x g
  grind
 |c::t,[]=>by
  show pev x (c::t)=pev x (c::t)+0
  grind
 |c::t,d::u=>by
  have ih:=U9 x t u;show(c+d)+x*pev x (QY t u)=(c+x*pev x t)+(d+x*pev x u)
  rw[ih]
  grind
def MW (c:Fin q)(f:List (Fin q)):List (Fin q):=f.map (c* ·)
theorem VT (c:Fin q)(f:List (Fin q)):(MW c f).length=f.length:=by simp[MW]
theorem RJ (c:Fin q): ∀(f:List (Fin q)) (i:Nat),pco (MW c f) i=c*pco f i
 |[],i=>by
  show 0=c*0
  grind
 |d::t,0=>rfl
 |d::t,i+1=>RJ c t i
theorem RK (c x:Fin q): ∀f,pev x (MW c f)=c*pev x f
 |[]=>by
  show 0=c*0
  grind
 |d::t=>by
  have ih:=RK c x t;show c*d+x*pev x (MW c t)=c*(d+x*pev x t)
  rw[ih]
  grind
theorem MY (hq:IsP q)(xs f g:List (Fin q))(hf:f.length<=xs.length)(hg:g.length<=xs.length)(hn:xs.Nodup)(h: ∀x∈xs,pev x f=pev x g)(i:Nat):pco f i=pco g i:=by
 have hz:=QV hq xs (QY f (MW (-1) g)) (by rw[Wc,VT];omega) hn fun x hx=>by
  rw[U9,RK,h x hx]
  grind
 have hc:pco (QY f (MW (-1) g)) i=0:=by
  by_cases hi:i<(QY f (MW (-1) g)).length
  ·rw[QX _ _ hi];exact hz _ (List.getElem_mem hi)
  ·exact Wp _ _ (by omega)
 rw[Ul,RJ]at hc
 grind
def Yk:List (Fin q)->List (Fin q)
 |[]=>[]
 |c::t=>if Yk t=[]/\c=0 then[]else c::Yk t
theorem YC: ∀(f:List (Fin q)) (i:Nat),pco (Yk f) i=pco f i
 |[],_=>rfl
 |c::t,i=>by
  unfold Yk
  split
  ·rename_i h
   cases i with
   |zero=>rw[GT,h.2];rfl
   |succ i=>rw[WN,<-YC t i,h.1];rfl
  ·cases i with
   |zero=>rfl
   |succ i=>rw[WN,WN];exact YC t i
theorem QZ (x:Fin q)(f:List (Fin q)):pev x (Yk f)=pev x f:=TR _ _ (YC f) x
theorem Tb: ∀f:List (Fin q),(Yk f).length<=f.length
 |[]=>c_ _
 |c::t=>by
  have:=Tb t;unfold Yk
  split
  ·simp
  ·simp only[bB0];omega
theorem Vi: ∀f:List (Fin q),Yk f=[]↔ ∀i,pco f i=0
 |[]=>⟨fun _ _=>rfl,fun _=>rfl⟩
 |c::t=>by
  have ih:=Vi t;unfold Yk;constructor
  ·intro h i
   split at h
   ·rename_i hc
    cases i with
    |zero=>exact hc.2
    |succ i=>exact ih.1 hc.1 i
   ·cases h
  ·intro h;rw[j_ ⟨ih.2 fun i=>h (i+1),h 0⟩]
theorem Vj: ∀f g:List (Fin q),(∀i,pco f i=pco g i)->Yk f=Yk g
 |[],g,h=>((Vi g).2 fun i=>(h i).symm).symm
 |c::t,[],h=>(Vi (c::t)).2 h
 |c::t,d::u,h=>by
  have h0:c=d:=h 0;have h1:=Vj t u fun i=>h (i+1)
  unfold Yk;rw[h0,h1]
theorem VU (f:List (Fin q)):Yk (Yk f)=Yk f:=Vj _ _ (YC f)
theorem SY: ∀f:List (Fin q),Yk f≠[]->pco f ((Yk f).length-1)≠0
 |[],h=>absurd rfl h
 |c::t,h=>by
  have ih:=SY t;unfold Yk at h ⊢
  split
  ·rename_i hc
   rw[j_ hc]at h;exact absurd rfl h
  ·rename_i hc
   by_cases ht:Yk t=[]
   ·rw[ht];intro h0;exact hc ⟨ht,h0⟩
   ·have hl:(Yk t).length≠0:=fun e=>ht (bK0 e)
    show pco (c::t) ((Yk t).length+1-1)≠0
    rw[show(Yk t).length+1-1=(Yk t).length-1+1 by omega,WN];exact ih ht
theorem Q0 (f:List (Fin q))(n:Nat)(hz: ∀i,n<=i->pco f i=0)(hn:n=0∨pco f (n-1)≠0):(Yk f).length=n:=by
 have h1:(Yk f).length<=n:=by
  by_cases e:Yk f=[]
  ·rw[e];exact eU0 _
  ·by_cases hl:(Yk f).length<=n
   ·exact hl
   ·exact absurd (hz ((Yk f).length-1) (by omega)) (SY f e)
 rcases hn with h0|hn
 ·omega
 ·by_cases hl:(Yk f).length<n
  ·exfalso;apply hn;rw[<-YC];exact Wp _ _ (by omega)
  ·omega
def pcv:List (Fin q)->List (Fin q)->List (Fin q)
 |[],_=>[]
 |c::t,g=>QY (MW c g) (0::pcv t g)
theorem Jv (x:Fin q): ∀f g:List (Fin q),pev x (pcv f g)=pev x f*pev x g
 |[],g=>by
  show 0=0*pev x g
  grind
 |c::t,g=>by
  have ih:=Jv x t g;show pev x (QY (MW c g) (0::pcv t g))=(c+x*pev x t)*pev x g
  rw[U9,RK];show c*pev x g+(0+x*pev x (pcv t g))=_
  rw[ih]
  grind
theorem SZ: ∀(c:Fin q) (t g:List (Fin q)),g≠[]->(pcv (c::t) g).length=t.length+g.length
 |c,[],g,hg=>by
  show(QY (MW c g) [0]).length=_
  rw[Wc,VT];have:g.length≠0:=fun e=>hg (bK0 e)
  simp only[bB0,eJ0];omega
 |c,d::t,g,hg=>by
  have ih:=SZ d t g hg;show(QY (MW c g) (0::pcv (d::t) g)).length=_
  rw[Wc,VT,bB0,ih,bB0];omega
def psm (f:Nat->Fin q):Nat->Fin q
 |0=>0
 |n+1=>psm f n+f n
theorem Y1 (f g:Nat->Fin q)(n:Nat)(h: ∀i,i<n->f i=g i):psm f n=psm g n:=by
 induction n with
 |zero=>rfl
 |succ n ih=>
  show psm f n+f n=psm g n+g n
  rw[ih fun i hi=>h i (by omega),h n (by omega)]
theorem TS (f:Nat->Fin q): ∀n,psm f (n+1)=f 0+psm (fun i=>f (i+1)) n
 |0=>by
  show 0+f 0=f 0+0
  grind
 |n+1=>by
  show psm f (n+1)+f (n+1)=f 0+(psm (fun i=>f (i+1)) n+f (n+1))
  rw[TS f n]
  grind
theorem WO (f:Nat->Fin q)(n:Nat)(h: ∀i,i<n->f i=0):psm f n=0:=by
 induction n with
 |zero=>rfl
 |succ n ih=>
  show psm f n+f n=0
  rw[ih fun i hi=>h i (by omega),h n (by omega)]
  grind
theorem Tc (f:Nat->Fin q)(n m:Nat)(hnm:n<=m)(h: ∀i,n<=i->i<m->f i=0):psm f m=psm f n:=by
 induction m with
 |zero=>rw[iN0.1 hnm]
 |succ m ih=>
  by_cases e:n=m+1
  ·rw[e]
  ·show psm f m+f m=psm f n
   rw[ih (by omega) fun i h1 h2=>h i h1 (by omega),h m (by omega) (by omega)]
   grind
theorem Ok (c:Fin q)(f:Nat->Fin q): ∀n,psm (fun i=>c*f i) n=c*psm f n
 |0=>by
  show 0=c*0
  grind
 |n+1=>by
  show psm (fun i=>c*f i) n+c*f n=c*(psm f n+f n)
  rw[Ok c f n]
  grind
theorem VV: ∀(f g:List (Fin q)) (k:Nat),pco (pcv f g) k=psm (fun i=>if i<=k then pco f i*pco g (k-i)else 0) f.length
 |[],_,_=>rfl
 |c::t,g,k=>by
  show pco (QY (MW c g) (0::pcv t g)) k=psm _ (t.length+1)
  rw[Ul,RJ,TS]
  congr 1
  cases k with
  |zero=>
   symm
   exact WO _ _ fun i _=>i_ (by omega)
  |succ k=>
   rw[WN,VV t g k];refine Y1 _ _ _ fun i _=>?_
   by_cases h:i<=k
   ·rw[j_ h,j_ (by omega),WN,show k+1-(i+1)=k-i by omega]
   ·rw[i_ h,i_ (by omega)]
end
section
variable {q:Nat}[NeZero q]
def Um (f g:List (Fin q)):List (Fin q):=if f=[]∨g=[]then[]else Yk (pcv f g)
theorem RL (x:Fin q)(f g:List (Fin q)):pev x (Um f g)=pev x f*pev x g:=by
 unfold Um
 split
 ·rename_i h
  rcases h with h|h
  ·rw[h];show 0=0*pev x g
   grind
  ·rw[h];show 0=pev x f*0
   grind
 ·rw[QZ,Jv]
theorem Ol (f:List (Fin q))(k:Nat):pco (pcv f []) k=0:=by
 rw[VV];refine WO _ _ fun i _=>?_
 split
 ·rw[Bj]
  grind
 ·rfl
theorem Td (f g:List (Fin q))(k:Nat):pco (Um f g) k=pco (pcv f g) k:=by
 unfold Um
 split
 ·rename_i h
  rcases h with h|h
  ·rw[h];rfl
  ·rw[h,Ol];rfl
 ·exact YC _ _
theorem TU (f g:List (Fin q)):Yk (Um f g)=Um f g:=by
 unfold Um
 split
 ·rfl
 ·exact VU _
theorem WP (f g:List (Fin q)):(Um f g).length<=f.length+g.length-1:=by
 unfold Um
 split
 ·exact eU0 _
 ·rename_i h
  cases f with
  |nil=>exact absurd (.inl rfl) h
  |cons c t=>
   have hg:g≠[]:=fun e=>h (.inr e)
   have:=Tb (pcv (c::t) g);rw[SZ c t g hg]at this;simp only[bB0];omega
def Q3 (f g:List (Fin q)):List (Fin q):=Yk (QY f g)
theorem NA (x:Fin q)(f g:List (Fin q)):pev x (Q3 f g)=pev x f+pev x g:=by
 unfold Q3;rw[QZ,U9]
theorem GU (f g:List (Fin q))(k:Nat):pco (Q3 f g) k=pco f k+pco g k:=by
 unfold Q3;rw[YC,Ul]
theorem TV (f g:List (Fin q)):(Q3 f g).length<=max f.length g.length:=by
 have:=Tb (QY f g);rw[Wc]at this;exact this
def plg (iv:Fin q->Fin q)(xs:Nat->Fin q)(y:Fin q)(i:Nat):Nat->List (Fin q)
 |0=>[y]
 |k+1=>if k=i then plg iv xs y i k else Um (plg iv xs y i k) [(0-xs k)*iv (xs i-xs k),iv (xs i-xs k)]
def LC (iv:Fin q->Fin q)(xs ys:Nat->Fin q)(n:Nat):Nat->List (Fin q)
 |0=>[]
 |i+1=>Q3 (LC iv xs ys n i) (plg iv xs (ys i) i n)
theorem NB (iv:Fin q->Fin q)(xs:Nat->Fin q)(y:Fin q)(i k:Nat)(h:k≠i)(z:Fin q):pev z (plg iv xs y i (k+1))=pev z (plg iv xs y i k)*((z-xs k)*iv (xs i-xs k)):=by
 show pev z (if k=i then _ else _)=_
 rw[i_ h,RL];show pev z (plg iv xs y i k)*((0-xs k)*iv (xs i-xs k)+z*(iv (xs i-xs k)+z*0))=_
 generalize iv (xs i-xs k)=b
 grind
theorem RM (iv:Fin q->Fin q)(xs:Nat->Fin q)(y:Fin q)(i:Nat):plg iv xs y i (i+1)=plg iv xs y i i:=by
 show(if i=i then _ else _)=_
 rw[j_ rfl]
theorem EP (iv:Fin q->Fin q)(hiv: ∀a,a≠0->a*iv a=1)(xs:Nat->Fin q)(y:Fin q)(i n:Nat)(hd: ∀j,j<n->j≠i->xs j≠xs i): ∀k,k<=n->pev (xs i) (plg iv xs y i k)=y
 |0,_=>by
  show y+xs i*0=y
  grind
 |k+1,hk=>by
  have ih:=EP iv hiv xs y i n hd k (by omega);by_cases e:k=i
  ·subst e;rw[RM];exact ih
  ·rw[NB iv xs y i k e,ih];have h0:xs i-xs k≠0:=fun h=>hd k (by omega) e (by grind)
   rw[hiv _ h0]
   grind
theorem Om (iv:Fin q->Fin q)(xs:Nat->Fin q)(y:Fin q)(i j:Nat)(hji:j≠i): ∀k,j<k->pev (xs j) (plg iv xs y i k)=0
 |0,h=>by omega
 |k+1,h=>by
  by_cases e:k=i
  ·subst e;rw[RM];exact Om iv xs y k j hji k (by omega)
  ·rw[NB iv xs y i k e];by_cases ej:j=k
   ·rw[ej]
    grind
   ·rw[Om iv xs y i j hji k (by omega)]
    grind
theorem S0 (iv:Fin q->Fin q)(xs:Nat->Fin q)(y:Fin q)(i:Nat): ∀k,(plg iv xs y i k).length<=if i<k then k else k+1
 |0=>by
  rw[i_ (gC0 i)];exact c_ 1
 |k+1=>by
  have ih:=S0 iv xs y i k;by_cases e:k=i
  ·subst e;rw[RM];rw[i_ (dB0 k)]at ih;rw[j_ (Nat.lt_succ_self k)];exact ih
  ·show(if k=i then _ else _:List (Fin q)).length<=_
   rw[i_ e];have hm:=WP (plg iv xs y i k) [(0-xs k)*iv (xs i-xs k),iv (xs i-xs k)];simp only[bB0,eJ0]at hm;by_cases hi:i<k
   ·rw[j_ hi]at ih;rw[j_ (by omega)];omega
   ·rw[i_ hi]at ih;rw[i_ (by omega)];omega
theorem TW (iv:Fin q->Fin q)(xs ys:Nat->Fin q)(n:Nat): ∀m,m<=n->(LC iv xs ys n m).length<=n
 |0,_=>eU0 _
 |i+1,h=>by
  have ih:=TW iv xs ys n i (by omega);have h1:=TV (LC iv xs ys n i) (plg iv xs (ys i) i n);have h2:=S0 iv xs (ys i) i n;rw[j_ (show i<n by omega)]at h2;show(Q3 (LC iv xs ys n i) (plg iv xs (ys i) i n)).length<=n
  omega
theorem Jw (iv:Fin q->Fin q)(xs ys:Nat->Fin q)(n:Nat): ∀m,Yk (LC iv xs ys n m)=LC iv xs ys n m
 |0=>rfl
 |_+1=>VU _
theorem Jx (iv:Fin q->Fin q)(hiv: ∀a,a≠0->a*iv a=1)(xs ys:Nat->Fin q)(n:Nat)(hd: ∀i j,i<n->j<n->i≠j->xs i≠xs j)(j:Nat)(hj:j<n): ∀m,m<=n->pev (xs j) (LC iv xs ys n m)=if j<m then ys j else 0
 |0,_=>by
  rw[i_ (gC0 j)];rfl
 |i+1,h=>by
  have ih:=Jx iv hiv xs ys n hd j hj i (by omega);show pev (xs j) (Q3 (LC iv xs ys n i) (plg iv xs (ys i) i n))=_
  rw[NA,ih];by_cases e:j=i
  ·subst e;rw[i_ (dB0 j),j_ (Nat.lt_succ_self j),EP iv hiv xs (ys j) j n (fun k hk hne=>hd k j hk hj hne) n (c_ n)]
   grind
  ·rw[Om iv xs (ys i) i j e n hj];by_cases hl:j<i
   ·rw[j_ hl,j_ (by omega)]
    grind
   ·rw[i_ hl,i_ (by omega)]
    grind
theorem Q4 (xs:Nat->Fin q)(n:Nat)(hd: ∀i j,i<n->j<n->i≠j->xs i≠xs j):((List.range n).map xs).Nodup:=by
 rw[List.nodup_iff_pairwise_ne,List.pairwise_map];refine(List.nodup_range (n:=n)).imp_of_mem ?_;intro a b ha hb hab;exact hd a b (eX0.1 ha) (eX0.1 hb) hab
theorem TX (hq:IsP q)(iv:Fin q->Fin q)(hiv: ∀a,a≠0->a*iv a=1)(xs ys:Nat->Fin q)(n:Nat)(hd: ∀i j,i<n->j<n->i≠j->xs i≠xs j)(f:List (Fin q))(hf:f.length<=n)(h: ∀j,j<n->pev (xs j) f=ys j):Yk f=LC iv xs ys n n:=by
 rw[<-Jw iv xs ys n n];refine Vj _ _ (MY hq ((List.range n).map xs) f _ (by simpa using hf) (by simpa using TW iv xs ys n n (c_ n)) (Q4 xs n hd) ?_);intro x hx;obtain⟨j,hj,rfl⟩:=eZ0.1 hx;have hj':=eX0.1 hj;rw[h j hj',Jx iv hiv xs ys n hd j hj' n (c_ n),j_ hj']
end
section
variable {q:Nat}[NeZero q]
def poff (xs ys:Nat->Fin q)(n:Nat)(f:List (Fin q)):Nat:=(List.range n).countP fun j=>decide (pev (xs j) f≠ys j)
def fi (A:Nat):Fin q:=Fin.ofNat q A
theorem TY (A:Nat):(fi A:Fin q).val=A%q:=rfl
theorem GV (A B:Nat):(fi A:Fin q)=fi B↔A%q=B%q:=⟨fun h=>cY0 Fin.val h,fun h=>Fin.ext h⟩
theorem WU (A:Nat):(fi (A%q):Fin q)=fi A:=Fin.ext (dM0 A q)
theorem On (x:Fin q):(fi x.val:Fin q)=x:=Fin.ext (g_ x.isLt)
theorem TZ:(fi 0:Fin q)=0:=rfl
theorem Jy:(fi 1:Fin q)=1:=rfl
theorem S3 (A B:Nat):(fi (A+B):Fin q)=fi A+fi B:=by
 refine Fin.ext ?_;rw[Fin.val_add,TY,TY,TY,<-eR0]
theorem Un (A B:Nat):(fi (A*B):Fin q)=fi A*fi B:=by
 refine Fin.ext ?_;rw[Fin.val_mul,TY,TY,TY,<-aH0]
theorem EQ (A B:Nat):(fi ((A%q+(q-B%q))%q):Fin q)=fi A-fi B:=by
 have h0:0<q:=Nat.pos_of_ne_zero (NeZero.ne q);have hb:=m_ B h0;have e:(fi A:Fin q)=fi A-fi B+fi B:=by grind
 have e2:(fi ((A%q+(q-B%q))%q):Fin q)+fi B=fi A:=by
  rw[<-WU B,<-S3,<-WU A,GV,Nat.mod_add_mod,show A%q+(q-B%q)+B%q=A%q+q by omega,Nat.add_mod_right]
 grind
def fl (n:Nat)(f:Nat->Nat):List (Fin q):=(List.range n).map fun i=>fi (f i)
theorem Y3 (n:Nat)(f:Nat->Nat):(fl n f:List (Fin q)).length=n:=by simp[fl]
theorem UJ (n:Nat)(f:Nat->Nat)(i:Nat)(h:i<n):pco (fl n f:List (Fin q)) i=fi (f i):=by
 rw[QX _ _ (by rw[Y3];exact h)];simp[fl]
theorem Uo (n:Nat)(f:Nat->Nat)(i:Nat)(h:n<=i):pco (fl n f:List (Fin q)) i=0:=Wp _ _ (by rw[Y3];exact h)
theorem zA (l:List (Fin q)):fl l.length (fun i=>(pco l i).val)=l:=by
 refine List.ext_getElem (Y3 _ _) fun i h1 h2=>?_
 rw[<-QX _ i h1,<-QX _ i h2,UJ _ _ _ h2,On]
def ppw (x:Fin q):Nat->Fin q
 |0=>1
 |n+1=>ppw x n*x
theorem Q5 (x:Fin q): ∀n,ppw x (n+1)=x*ppw x n
 |0=>by
  show 1*x=x*1
  grind
 |n+1=>by
  show ppw x (n+1)*x=x*(ppw x n*x)
  rw[Q5 x n]
  grind
theorem Oo (x:Fin q): ∀f:List (Fin q),pev x f=psm (fun i=>pco f i*ppw x i) f.length
 |[]=>rfl
 |c::t=>by
  have ih:=Oo x t;show c+x*pev x t=psm _ (t.length+1)
  rw[TS,ih,<-Ok];show c+_=c*1+_
  rw[show c*1=c by grind]
  congr 1
  refine Y1 _ _ _ fun i _=>?_
  rw[WN,Q5]
  grind
end
structure FO where
 ad:Nat->Nat->Nat
 mu:Nat->Nat->Nat
def yTn (F:Nat->Nat):Nat->Nat
 |0=>0
 |n+1=>if F n=0 then yTn F n else n+1
theorem T0 (F:Nat->Nat): ∀n,yTn F n<=n
 |0=>c_ 0
 |n+1=>by
  have:=T0 F n;unfold yTn
  split<;>omega
theorem Oq (F:Nat->Nat): ∀n i,yTn F n<=i->i<n->F i=0
 |0,i,_,h=>by omega
 |n+1,i,h,hi=>by
  unfold yTn at h
  split at h
  ·next h0=>
   by_cases e:i=n
   ·rw[e];exact h0
   ·exact Oq F n i h (by omega)
  ·omega
theorem NC (F:Nat->Nat): ∀n,yTn F n=0∨F (yTn F n-1)≠0
 |0=>.inl rfl
 |n+1=>by
  unfold yTn
  split
  ·exact NC F n
  ·next h=>exact .inr h
def yHv (o:FO)(F:Nat->Nat)(n x:Nat):Nat->Nat
 |0=>0
 |k+1=>o.ad (o.mu (yHv o F n x k) x) (F (n-1-k))
def yCf (n:Nat)(F:Nat->Nat)(k:Nat):Nat:=if k<n then F k else 0
theorem ER {n:Nat}{F:Nat->Nat}(h: ∀i,i<n->F i<2^256)(k:Nat):yCf n F k<2^256:=by
 unfold yCf
 split
 ·next h1=>exact h k h1
 ·decide
def yCv (o:FO)(F G:Nat->Nat)(k lo:Nat):Nat->Nat
 |0=>0
 |j+1=>o.ad (yCv o F G k lo j) (o.mu (F (lo+j)) (G (k-(lo+j))))
def yTm (o:FO)(F:Nat->Nat)(k:Nat):Nat:=o.ad (F k) 0
def ySm (o:FO)(n:Nat)(F:Nat->Nat)(m:Nat)(G:Nat->Nat)(k:Nat):Nat:=o.ad (yCf n F k) (yCf m G k)
def yMl (o:FO)(n:Nat)(F:Nat->Nat)(m:Nat)(G:Nat->Nat)(k:Nat):Nat:=yCv o F G k (k+1-m) (min n (k+1)-(k+1-m))
def fO (q:Nat):FO:=⟨fun A B=>(A+B)%q,fun A B=>A*B%q⟩
def nO:FO:=⟨fun _ _=>0,fun _ _=>0⟩
section
variable {q:Nat}[NeZero q]
theorem MZ:0<q:=Nat.pos_of_ne_zero (NeZero.ne q)
theorem ES {A B:Nat}(h:(fi A:Fin q)=fi B)(hA:A<q)(hB:B<q):A=B:=by
 have:=(GV A B).1 h
 rwa [g_ hA,g_ hB]at this
theorem wV {A:Nat}(hA:A<q):(fi A:Fin q)=0↔A=0:=⟨fun h=>ES (h.trans TZ.symm) hA MZ,fun h=>h▸TZ⟩
theorem Jz {A:Nat}(hA:A<q):(fi A:Fin q).val=A:=g_ hA
theorem zB (x:Fin q):x.val=0↔x=0:=⟨fun h=>Fin.ext h,fun h=>by rw[h];rfl⟩
theorem zC (n:Nat)(F:Nat->Nat)(h: ∀i,i<n->F i<q):(Yk (fl n F:List (Fin q))).length=yTn F n:=by
 refine Q0 _ _ (fun i hi=>?_) ?_
 ·by_cases hn:i<n
  ·rw[UJ _ _ _ hn,Oq F n i hi hn];rfl
  ·exact Uo _ _ _ (by omega)
 ·have hle:=T0 F n;rcases NC F n with h1|h1
  ·exact .inl h1
  ·by_cases h0:yTn F n=0
   ·exact .inl h0
   ·refine .inr ?_;rw[UJ _ _ _ (by omega)];exact fun e=>h1 ((wV (h _ (by omega))).1 e)
theorem zD (n:Nat)(F:Nat->Nat)(h: ∀i,i<n->F i<q)(i:Nat)(hi:i<yTn F n):F i=(pco (Yk (fl n F:List (Fin q))) i).val:=by
 have hle:=T0 F n;rw[YC,UJ _ _ _ (by omega),Jz (h _ (by omega))]
theorem GW (n:Nat)(F:Nat->Nat)(L:List (Fin q))(h: ∀i,i<n->F i<q)(hL: ∀i,pco (fl n F:List (Fin q)) i=pco L i):
  yTn F n=(Yk L).length/\ ∀i,i<yTn F n->F i=(pco (Yk L) i).val:=by
 rw[<-Vj _ _ hL];exact⟨(zC n F h).symm,zD n F h⟩
theorem JA (n:Nat)(F:Nat->Nat):(fl n (yTm (fO q) F):List (Fin q))=fl n F:=by
 unfold fl;refine List.map_congr_left fun i _=>?_
 show fi ((F i+0)%q)=fi (F i)
 rw[WU];rfl
theorem JB (F:Nat->Nat)(i:Nat):yTm (fO q) F i<q:=m_ _ MZ
theorem ET (n:Nat)(F:Nat->Nat)(k:Nat):(fi (yCf n F k):Fin q)=pco (fl n F) k:=by
 unfold yCf
 split
 ·next h=>rw[UJ _ _ _ h]
 ·next h=>rw[Uo _ _ _ (by omega)];rfl
theorem zE (n:Nat)(F:Nat->Nat)(m:Nat)(G:Nat->Nat)(i:Nat):pco (fl (max n m) (ySm (fO q) n F m G):List (Fin q)) i=pco (QY (fl n F) (fl m G)) i:=by
 rw[Ul];by_cases h:i<max n m
 ·rw[UJ _ _ _ h];show fi ((yCf n F i+yCf m G i)%q)=_
  rw[WU,S3,ET,ET]
 ·rw[Uo _ _ _ (by omega),Uo _ _ _ (by omega),Uo _ _ _ (by omega)]
  grind
theorem Q6 (f:Nat->Fin q)(lo:Nat)(h: ∀i,i<lo->f i=0): ∀j,psm f (lo+j)=psm (fun i=>f (lo+i)) j
 |0=>WO f lo h
 |j+1=>by
  show psm f (lo+j)+f (lo+j)=psm _ j+f (lo+j)
  rw[Q6 f lo h j]
theorem EU (F G:Nat->Nat)(k lo:Nat): ∀j,(fi (yCv (fO q) F G k lo j):Fin q)=psm (fun i=>fi (F (lo+i))*fi (G (k-(lo+i)))) j
 |0=>rfl
 |j+1=>by
  show fi ((yCv (fO q) F G k lo j+F (lo+j)*G (k-(lo+j))%q)%q)=_
  rw[WU,S3,WU,Un,EU F G k lo j];rfl
theorem zF (F G:Nat->Nat)(k lo:Nat): ∀j,yCv (fO q) F G k lo j<q
 |0=>MZ
 |_+1=>m_ _ MZ
theorem zG (n:Nat)(F:Nat->Nat)(m:Nat)(G:Nat->Nat)(k:Nat):(fi (yMl (fO q) n F m G k):Fin q)=pco (pcv (fl n F) (fl m G)) k:=by
 rw[VV,Y3];unfold yMl;rw[EU]
 have hz: ∀i,i<k+1-m->(fun i=>if i<=k then pco (fl n F) i*pco (fl m G) (k-i)else(0:Fin q)) i=0:=fun i hi=>by
  show(if i<=k then _ else _)=(0:Fin q)
  split
  ·rw[Uo m G _ (by omega)];grind
  ·rfl
 have hc: ∀i,i<min n (k+1)-(k+1-m)->(fun i=>(fi (F (k+1-m+i))*fi (G (k-(k+1-m+i))):Fin q)) i=(fun i=>(fun i=>if i<=k then pco (fl n F) i*pco (fl m G) (k-i)else(0:Fin q)) (k+1-m+i)) i:=fun i hi=>by
  show _=if k+1-m+i<=k then _ else _
  rw[j_ (by omega),UJ _ _ _ (by omega),UJ _ _ _ (by omega)]
 rw[Y1 _ _ _ hc,<-Q6 _ _ hz];by_cases hlo:k+1-m<=min n (k+1)
 ·rw[show k+1-m+(min n (k+1)-(k+1-m))=min n (k+1) by omega];refine(Tc _ _ _ (by omega) fun i h1 h2=>?_).symm;show(if i<=k then _ else _)=(0:Fin q)
  exact i_ (by omega)
 ·rw[show min n (k+1)-(k+1-m)=0 by omega,cC0,WO _ _ hz,WO _ _ fun i hi=>hz i (by omega)]
theorem zH (n:Nat)(F:Nat->Nat)(m:Nat)(G:Nat->Nat)(i:Nat):pco (fl (n+m-1) (yMl (fO q) n F m G):List (Fin q)) i=pco (Um (fl n F) (fl m G)) i:=by
 rw[Td];by_cases h:i<n+m-1
 ·rw[UJ _ _ _ h,zG]
 ·rw[Uo _ _ _ (by omega),VV,Y3];refine(WO _ _ fun j hj=>?_).symm;show(if j<=i then _ else _)=(0:Fin q)
  split
  ·rw[Uo m G _ (by omega)];grind
  ·rfl
theorem GX (f g f' g':List (Fin q))(h1: ∀i,pco f i=pco f' i)(h2: ∀i,pco g i=pco g' i):Um f g=Um f' g':=by
 rw[<-TU f g,<-TU f' g'];refine Vj _ _ fun k=>?_
 rw[Td,Td,VV,VV]
 have hN: ∀(f g:List (Fin q)) N,f.length<=N->psm (fun i=>if i<=k then pco f i*pco g (k-i)else 0) N=psm (fun i=>if i<=k then pco f i*pco g (k-i)else 0) f.length:=fun f g N hN=>by
  refine Tc _ _ _ hN fun i hi _=>?_
  show(if i<=k then _ else _)=(0:Fin q)
  split
  ·rw[Wp f i hi];grind
  ·rfl
 rw[<-hN f g (max f.length f'.length) (by omega),<-hN f' g' (max f.length f'.length) (by omega)];refine Y1 _ _ _ fun i _=>?_
 show(if i<=k then _ else _)=(if i<=k then _ else _)
 rw[h1,h2]
theorem M0 (f g:List (Fin q)):Um (Yk f) (Yk g)=Um f g:=GX _ _ _ _ (YC f) (YC g)
theorem JC (f g:List (Fin q)):Yk (Q3 f g)=Q3 f g:=VU _
theorem EX (F:Nat->Nat)(n x:Nat): ∀k,k<=n->(fi (yHv (fO q) F n x k):Fin q)=pev (fi x) ((fl n F).drop (n-k))
 |0,_=>by
  rw[List.drop_eq_nil_of_le (by rw[Y3];omega)];rfl
 |k+1,h=>by
  show fi ((yHv (fO q) F n x k*x%q+F (n-1-k))%q)=_
  have hl:n-(k+1)<(fl n F:List (Fin q)).length:=by rw[Y3];omega
  rw[WU,S3,WU,Un,EX F n x k (by omega),List.drop_eq_getElem_cons hl,<-QX _ _ hl,UJ _ _ _ (by omega),show n-(k+1)+1=n-k by omega,show n-1-k=n-(k+1) by omega];show _=fi _+fi x*pev (fi x) _
  grind
theorem zI (F:Nat->Nat)(n x:Nat): ∀k,yHv (fO q) F n x k<q
 |0=>MZ
 |_+1=>m_ _ MZ
theorem zJ (F:Nat->Nat)(n x:Nat):yHv (fO q) F n x n=(pev (fi x) (fl n F:List (Fin q))).val:=by
 have h:=EX (q:=q) F n x n (c_ n);rw[fR0,List.drop_zero]at h;rw[<-h,Jz (zI F n x n)]
theorem EY (n:Nat)(F:Nat->Nat)(L:List (Fin q))(hn:n=L.length)(h: ∀i,i<n->F i=(pco L i).val):(fl n F:List (Fin q))=L:=by
 subst hn;refine Eq.trans ?_ (zA L);unfold fl;refine List.map_congr_left fun i hi=>?_
 rw[h i (by simpa using hi)]
def yDv (q m d:Nat)(B:Nat->Nat)(iv:Nat)(R0:Nat->Nat):Nat->(Nat->Nat)×(Nat->Nat)
 |0=>(R0,fun _=>0)
 |k+1=>((fun i=>if d-1-k<=i/\i<d-1-k+m then sbN ((yDv q m d B iv R0 k).1 i) (B (i-(d-1-k))*((yDv q m d B iv R0 k).1 (d-1-k+m-1)*iv%q)%q) q else(yDv q m d B iv R0 k).1 i),
  (fun i=>if i=d-1-k then(yDv q m d B iv R0 k).1 (d-1-k+m-1)*iv%q else(yDv q m d B iv R0 k).2 i))
theorem JD (f g:Nat->Fin q)(j:Nat)(c:Fin q)(hj:g j=f j+c)(ho: ∀i,i≠j->g i=f i): ∀n,j<n->psm g n=psm f n+c
 |0,h=>by omega
 |n+1,h=>by
  show psm g n+g n=psm f n+f n+c
  by_cases e:j=n
  ·subst e;rw[Y1 g f j fun i hi=>ho i (by omega),hj]
   grind
  ·rw[JD f g j c hj ho n (by omega),ho n (by omega)]
   grind
def tGo (xs:Nat->Fin q):Nat->List (Fin q)
 |0=>[1]
 |k+1=>Um (tGo xs k) [0-xs k,1]
def tTh (iv:Fin q->Fin q)(xs ys:Nat->Fin q):Nat->List (Fin q)
 |0=>[]
 |k+1=>Q3 (tTh iv xs ys k) (Um (tGo xs k) [(ys k-pev (xs k) (tTh iv xs ys k))*iv (pev (xs k) (tGo xs k))])
theorem ND (xs:Nat->Fin q)(k:Nat)(z:Fin q):pev z (tGo xs (k+1))=pev z (tGo xs k)*(z-xs k):=by
 show pev z (Um _ _)=_
 rw[RL];show _*((0-xs k)+z*(1+z*0))=_
 grind
theorem EZ (xs:Nat->Fin q)(j:Nat): ∀k,j<k->pev (xs j) (tGo xs k)=0
 |0,h=>by omega
 |k+1,h=>by
  rw[ND];by_cases e:j=k
  ·rw[e];grind
  ·rw[EZ xs j k (by omega)];grind
theorem JE (hq:IsP q)(xs:Nat->Fin q)(z:Fin q): ∀k,(∀j,j<k->xs j≠z)->pev z (tGo xs k)≠0
 |0,_=>by
  show 1+z*0≠0
  have h2:=hq.1;intro e;have h1:(1:Fin q)=0:=by grind
  have:=(GV 1 0).1 (Jy.trans (h1.trans TZ.symm));rw[g_ (by omega),eN0]at this;omega
 |k+1,h=>by
  rw[ND];intro e;rcases TQ hq e with e|e
  ·exact JE hq xs z k (fun j hj=>h j (by omega)) e
  ·exact h k (by omega) (by grind)
theorem Vu (xs:Nat->Fin q): ∀k,(tGo xs k).length<=k+1
 |0=>c_ 1
 |k+1=>by
  have h1:=WP (tGo xs k) [0-xs k,1];have h2:=Vu xs k;show(Um (tGo xs k) [0-xs k,1]).length<=_
  simp only[bB0,eJ0]at h1;omega
theorem Vv (iv:Fin q->Fin q)(xs ys:Nat->Fin q): ∀k,(tTh iv xs ys k).length<=k
 |0=>c_ 0
 |k+1=>by
  have h1:=TV (tTh iv xs ys k) (Um (tGo xs k) [(ys k-pev (xs k) (tTh iv xs ys k))*iv (pev (xs k) (tGo xs k))]);have h2:=WP (tGo xs k) [(ys k-pev (xs k) (tTh iv xs ys k))*iv (pev (xs k) (tGo xs k))];have h3:=Vu xs k;have h4:=Vv iv xs ys k;show(Q3 _ _).length<=_
  simp only[bB0,eJ0]at h2;omega
theorem GY (iv:Fin q->Fin q)(xs ys:Nat->Fin q): ∀k,Yk (tTh iv xs ys k)=tTh iv xs ys k
 |0=>rfl
 |_+1=>JC _ _
theorem E0 (hq:IsP q)(iv:Fin q->Fin q)(hiv: ∀a,a≠0->a*iv a=1)(xs ys:Nat->Fin q)(n:Nat)(hd: ∀i j,i<n->j<n->i≠j->xs i≠xs j)(j:Nat): ∀k,k<=n->j<k->pev (xs j) (tTh iv xs ys k)=ys j
 |0,_,h=>by omega
 |k+1,hk,h=>by
  show pev (xs j) (Q3 _ _)=_
  rw[NA,RL];show _+_*(_+xs j*0)=_
  by_cases e:j=k
  ·subst e;have h1:=hiv _ (JE hq xs (xs j) j fun i hi=>hd i j (by omega) (by omega) (by omega))
   grind
  ·rw[EZ xs j k (by omega),E0 hq iv hiv xs ys n hd j k (by omega) (by omega)]
   grind
theorem zL (hq:IsP q)(iv:Fin q->Fin q)(hiv: ∀a,a≠0->a*iv a=1)(xs ys:Nat->Fin q)(n:Nat)(hd: ∀i j,i<n->j<n->i≠j->xs i≠xs j):tTh iv xs ys n=LC iv xs ys n n:=by
 rw[<-GY];exact TX hq iv hiv xs ys n hd _ (Vv iv xs ys n) fun j hj=>E0 hq iv hiv xs ys n hd j n (c_ n) hj
end
end Go.Proofs.YtnagnkhbamhfmaaGreatDoor
