import Derived.Test.YtijgjbbihgjkmaaGreatDoorFA
namespace Go.Proofs.YtijgjbbihgjkmaaGreatDoor
set_option linter.unusedVariables false
set_option linter.unusedSectionVars false
section
variable {q:Nat}[NeZero q]
theorem fq_mul_zero (hq:IsP q){a b:Fin q}(h:a*b=0):a=0∨b=0:=by
 have h1:=congrArg Fin.val h
 rw[Fin.val_mul]at h1
 have h2:a.val*b.val%q=0:=h1
 rcases isP_mul hq (Nat.dvd_of_mod_eq_zero h2)with h|h
 ·exact .inl (Fin.ext (Nat.eq_zero_of_dvd_of_lt h a.isLt))
 ·exact .inr (Fin.ext (Nat.eq_zero_of_dvd_of_lt h b.isLt))
def pev (x:Fin q):List (Fin q)->Fin q
 |[]=>0
 |c::t=>c+x*pev x t
def pdv (a:Fin q):List (Fin q)->List (Fin q)
 |[]=>[]
 |[_]=>[]
 |_::d::t=>pev a (d::t)::pdv a (d::t)
theorem pdv_spec (a x:Fin q): ∀f,pev x f=(x-a)*pev x (pdv a f)+pev a f
 |[]=>by simp only[pev,pdv];grind
 |[c]=>by simp only[pev,pdv];grind
 |c::d::t=>by
  have ih:=pdv_spec a x (d::t)
  show c+x*pev x (d::t)=(x-a)*(pev a (d::t)+x*pev x (pdv a (d::t)))+(c+a*pev a (d::t))
  generalize pev x (d::t)=T at*
  generalize pev a (d::t)=Ta at*
  generalize pev x (pdv a (d::t))=G at*
  grind
theorem pdv_length (a:Fin q): ∀f,(pdv a f).length=f.length-1
 |[]=>rfl
 |[_]=>rfl
 |_::d::t=>by
  have ih:=pdv_length a (d::t)
  show(pdv a (d::t)).length+1=_
  rw[ih]
  simp
theorem pdv_zero (a:Fin q): ∀f,pev a f=0->(∀c∈pdv a f,c=0)-> ∀c∈f,c=0
 |[],_,_=>by simp
 |[c],h,_=>by
  have e:c=0:=by
   have h':c+a*0=0:=h
   grind
  simp[e]
 |c::d::t,h,hz=>by
  have h1:pev a (d::t)=0:=hz _ (by simp[pdv])
  have h2:=pdv_zero a (d::t) h1 fun x hx=>hz x (by simp[pdv,hx])
  have h':c+a*pev a (d::t)=0:=h
  rw[h1]at h'
  have e:c=0:=by grind
  intro x hx
  rcases List.mem_cons.1 hx with hx|hx
  ·rw[hx,e]
  ·exact h2 x hx
theorem pev_roots (hq:IsP q): ∀(xs f:List (Fin q)),f.length<=xs.length->xs.Nodup->(∀x∈xs,pev x f=0)-> ∀c∈f,c=0
 |[],f,hl,_,_=>by
  have:f=[]:=List.eq_nil_of_length_eq_zero (Nat.le_zero.1 hl)
  simp[this]
 |a::xs,f,hl,hn,hz=>by
  have ha:=hz a (by simp)
  have hn':=List.nodup_cons.1 hn
  refine pdv_zero a f ha (pev_roots hq xs (pdv a f) ?_ hn'.2 fun x hx=>?_)
  ·rw[pdv_length]
   simp only[List.length_cons]at hl
   omega
  ·have hx0:=hz x (List.mem_cons_of_mem _ hx)
   rw[pdv_spec a x f,ha]at hx0
   have hx1:(x-a)*pev x (pdv a f)=0:=by grind
   rcases fq_mul_zero hq hx1 with h|h
   ·exact absurd (show x=a by grind) fun e=>hn'.1 (e▸hx)
   ·exact h
def pco (f:List (Fin q))(i:Nat):Fin q:=f.getD i 0
theorem pco_nil (i:Nat):pco ([]:List (Fin q)) i=0:=rfl
theorem pco_zero (c:Fin q)(t:List (Fin q)):pco (c::t) 0=c:=rfl
theorem pco_succ (c:Fin q)(t:List (Fin q))(i:Nat):pco (c::t) (i+1)=pco t i:=rfl
theorem pco_out (f:List (Fin q))(i:Nat)(h:f.length<=i):pco f i=0:=by
 unfold pco
 rw[List.getD_eq_getElem?_getD,List.getElem?_eq_none h]
 rfl
theorem pco_in (f:List (Fin q))(i:Nat)(h:i<f.length):pco f i=f[i]:=by
 unfold pco
 rw[List.getD_eq_getElem?_getD,List.getElem?_eq_getElem h]
 rfl
theorem pco_all_zero (f:List (Fin q))(h: ∀i,pco f i=0)(x:Fin q):pev x f=0:=by
 induction f with
 |nil=>rfl
 |cons c t ih=>
  have h0:c=0:=h 0
  have h1:=ih fun i=>h (i+1)
  show c+x*pev x t=0
  rw[h0,h1]
  grind
theorem pev_congr: ∀(f g:List (Fin q)),(∀i,pco f i=pco g i)-> ∀x,pev x f=pev x g
 |[],g,h,x=>(pco_all_zero g (fun i=>(h i).symm) x).symm
 |c::t,[],h,x=>pco_all_zero (c::t) h x
 |c::t,d::u,h,x=>by
  have h0:c=d:=h 0
  have h1:=pev_congr t u (fun i=>h (i+1)) x
  show c+x*pev x t=d+x*pev x u
  rw[h0,h1]
def padd:List (Fin q)->List (Fin q)->List (Fin q)
 |[],g=>g
 |f,[]=>f
 |c::t,d::u=>(c+d)::padd t u
theorem pco_padd: ∀(f g:List (Fin q)) (i:Nat),pco (padd f g) i=pco f i+pco g i
 |[],g,i=>by
  show pco g i=0+pco g i
  grind
 |c::t,[],i=>by
  show pco (c::t) i=pco (c::t) i+0
  grind
 |c::t,d::u,0=>rfl
 |c::t,d::u,i+1=>pco_padd t u i
theorem padd_length: ∀(f g:List (Fin q)),(padd f g).length=max f.length g.length
 |[],g=>by show g.length=_;simp
 |c::t,[]=>by show(c::t).length=_;simp
 |c::t,d::u=>by
  have:=padd_length t u
  show(padd t u).length+1=_
  simp only[List.length_cons]
  omega
theorem pev_padd (x:Fin q): ∀(f g:List (Fin q)),pev x (padd f g)=pev x f+pev x g
 |[],g=>by
  show pev x g=0+pev x g
  grind
 |c::t,[]=>by
  show pev x (c::t)=pev x (c::t)+0
  grind
 |c::t,d::u=>by
  have ih:=pev_padd x t u
  show(c+d)+x*pev x (padd t u)=(c+x*pev x t)+(d+x*pev x u)
  rw[ih]
  grind
def pscl (c:Fin q)(f:List (Fin q)):List (Fin q):=f.map (c* ·)
theorem pscl_length (c:Fin q)(f:List (Fin q)):(pscl c f).length=f.length:=by simp[pscl]
theorem pco_pscl (c:Fin q): ∀(f:List (Fin q)) (i:Nat),pco (pscl c f) i=c*pco f i
 |[],i=>by
  show 0=c*0
  grind
 |d::t,0=>rfl
 |d::t,i+1=>pco_pscl c t i
theorem pev_pscl (c x:Fin q): ∀f,pev x (pscl c f)=c*pev x f
 |[]=>by
  show 0=c*0
  grind
 |d::t=>by
  have ih:=pev_pscl c x t
  show c*d+x*pev x (pscl c t)=c*(d+x*pev x t)
  rw[ih]
  grind
theorem pev_unique (hq:IsP q)(xs f g:List (Fin q))(hf:f.length<=xs.length)(hg:g.length<=xs.length)(hn:xs.Nodup)(h: ∀x∈xs,pev x f=pev x g)(i:Nat):pco f i=pco g i:=by
 have hz:=pev_roots hq xs (padd f (pscl (-1) g)) (by rw[padd_length,pscl_length];omega) hn fun x hx=>by
  rw[pev_padd,pev_pscl,h x hx]
  grind
 have hc:pco (padd f (pscl (-1) g)) i=0:=by
  by_cases hi:i<(padd f (pscl (-1) g)).length
  ·rw[pco_in _ _ hi]
   exact hz _ (List.getElem_mem hi)
  ·exact pco_out _ _ (by omega)
 rw[pco_padd,pco_pscl]at hc
 grind
def ptrim:List (Fin q)->List (Fin q)
 |[]=>[]
 |c::t=>if ptrim t=[]/\c=0 then[]else c::ptrim t
theorem pco_ptrim: ∀(f:List (Fin q)) (i:Nat),pco (ptrim f) i=pco f i
 |[],_=>rfl
 |c::t,i=>by
  unfold ptrim
  split
  ·rename_i h
   cases i with
   |zero=>rw[pco_zero,h.2];rfl
   |succ i=>rw[pco_succ,<-pco_ptrim t i,h.1];rfl
  ·cases i with
   |zero=>rfl
   |succ i=>rw[pco_succ,pco_succ];exact pco_ptrim t i
theorem pev_ptrim (x:Fin q)(f:List (Fin q)):pev x (ptrim f)=pev x f:=pev_congr _ _ (pco_ptrim f) x
theorem ptrim_le: ∀f:List (Fin q),(ptrim f).length<=f.length
 |[]=>Nat.le_refl _
 |c::t=>by
  have:=ptrim_le t
  unfold ptrim
  split
  ·simp
  ·simp only[List.length_cons];omega
theorem ptrim_eq_nil: ∀f:List (Fin q),ptrim f=[]↔ ∀i,pco f i=0
 |[]=>⟨fun _ _=>rfl,fun _=>rfl⟩
 |c::t=>by
  have ih:=ptrim_eq_nil t
  unfold ptrim
  constructor
  ·intro h i
   split at h
   ·rename_i hc
    cases i with
    |zero=>exact hc.2
    |succ i=>exact ih.1 hc.1 i
   ·cases h
  ·intro h
   rw[if_pos ⟨ih.2 fun i=>h (i+1),h 0⟩]
theorem ptrim_ext: ∀f g:List (Fin q),(∀i,pco f i=pco g i)->ptrim f=ptrim g
 |[],g,h=>((ptrim_eq_nil g).2 fun i=>(h i).symm).symm
 |c::t,[],h=>(ptrim_eq_nil (c::t)).2 h
 |c::t,d::u,h=>by
  have h0:c=d:=h 0
  have h1:=ptrim_ext t u fun i=>h (i+1)
  unfold ptrim
  rw[h0,h1]
theorem ptrim_ptrim (f:List (Fin q)):ptrim (ptrim f)=ptrim f:=ptrim_ext _ _ (pco_ptrim f)
theorem ptrim_last: ∀f:List (Fin q),ptrim f≠[]->pco f ((ptrim f).length-1)≠0
 |[],h=>absurd rfl h
 |c::t,h=>by
  have ih:=ptrim_last t
  unfold ptrim at h ⊢
  split
  ·rename_i hc
   rw[if_pos hc]at h
   exact absurd rfl h
  ·rename_i hc
   by_cases ht:ptrim t=[]
   ·rw[ht]
    intro h0
    exact hc ⟨ht,h0⟩
   ·have hl:(ptrim t).length≠0:=fun e=>ht (List.eq_nil_of_length_eq_zero e)
    show pco (c::t) ((ptrim t).length+1-1)≠0
    rw[show(ptrim t).length+1-1=(ptrim t).length-1+1 by omega,pco_succ]
    exact ih ht
theorem ptrim_length (f:List (Fin q))(n:Nat)(hz: ∀i,n<=i->pco f i=0)(hn:n=0∨pco f (n-1)≠0):(ptrim f).length=n:=by
 have h1:(ptrim f).length<=n:=by
  by_cases e:ptrim f=[]
  ·rw[e];exact Nat.zero_le _
  ·by_cases hl:(ptrim f).length<=n
   ·exact hl
   ·exact absurd (hz ((ptrim f).length-1) (by omega)) (ptrim_last f e)
 rcases hn with h0|hn
 ·omega
 ·by_cases hl:(ptrim f).length<n
  ·exfalso
   apply hn
   rw[<-pco_ptrim]
   exact pco_out _ _ (by omega)
  ·omega
def pcv:List (Fin q)->List (Fin q)->List (Fin q)
 |[],_=>[]
 |c::t,g=>padd (pscl c g) (0::pcv t g)
theorem pev_pcv (x:Fin q): ∀f g:List (Fin q),pev x (pcv f g)=pev x f*pev x g
 |[],g=>by
  show 0=0*pev x g
  grind
 |c::t,g=>by
  have ih:=pev_pcv x t g
  show pev x (padd (pscl c g) (0::pcv t g))=(c+x*pev x t)*pev x g
  rw[pev_padd,pev_pscl]
  show c*pev x g+(0+x*pev x (pcv t g))=_
  rw[ih]
  grind
theorem pcv_length: ∀(c:Fin q) (t g:List (Fin q)),g≠[]->(pcv (c::t) g).length=t.length+g.length
 |c,[],g,hg=>by
  show(padd (pscl c g) [0]).length=_
  rw[padd_length,pscl_length]
  have:g.length≠0:=fun e=>hg (List.eq_nil_of_length_eq_zero e)
  simp only[List.length_cons,List.length_nil]
  omega
 |c,d::t,g,hg=>by
  have ih:=pcv_length d t g hg
  show(padd (pscl c g) (0::pcv (d::t) g)).length=_
  rw[padd_length,pscl_length,List.length_cons,ih,List.length_cons]
  omega
def psm (f:Nat->Fin q):Nat->Fin q
 |0=>0
 |n+1=>psm f n+f n
theorem psm_congr (f g:Nat->Fin q)(n:Nat)(h: ∀i,i<n->f i=g i):psm f n=psm g n:=by
 induction n with
 |zero=>rfl
 |succ n ih=>
  show psm f n+f n=psm g n+g n
  rw[ih fun i hi=>h i (by omega),h n (by omega)]
theorem psm_first (f:Nat->Fin q): ∀n,psm f (n+1)=f 0+psm (fun i=>f (i+1)) n
 |0=>by
  show 0+f 0=f 0+0
  grind
 |n+1=>by
  show psm f (n+1)+f (n+1)=f 0+(psm (fun i=>f (i+1)) n+f (n+1))
  rw[psm_first f n]
  grind
theorem psm_zero (f:Nat->Fin q)(n:Nat)(h: ∀i,i<n->f i=0):psm f n=0:=by
 induction n with
 |zero=>rfl
 |succ n ih=>
  show psm f n+f n=0
  rw[ih fun i hi=>h i (by omega),h n (by omega)]
  grind
theorem psm_more (f:Nat->Fin q)(n m:Nat)(hnm:n<=m)(h: ∀i,n<=i->i<m->f i=0):psm f m=psm f n:=by
 induction m with
 |zero=>rw[Nat.le_zero.1 hnm]
 |succ m ih=>
  by_cases e:n=m+1
  ·rw[e]
  ·show psm f m+f m=psm f n
   rw[ih (by omega) fun i h1 h2=>h i h1 (by omega),h m (by omega) (by omega)]
   grind
theorem psm_mul (c:Fin q)(f:Nat->Fin q): ∀n,psm (fun i=>c*f i) n=c*psm f n
 |0=>by
  show 0=c*0
  grind
 |n+1=>by
  show psm (fun i=>c*f i) n+c*f n=c*(psm f n+f n)
  rw[psm_mul c f n]
  grind
theorem pco_pcv: ∀(f g:List (Fin q)) (k:Nat),pco (pcv f g) k=psm (fun i=>if i<=k then pco f i*pco g (k-i)else 0) f.length
 |[],_,_=>rfl
 |c::t,g,k=>by
  show pco (padd (pscl c g) (0::pcv t g)) k=psm _ (t.length+1)
  rw[pco_padd,pco_pscl,psm_first]
  congr 1
  cases k with
  |zero=>
   symm
   exact psm_zero _ _ fun i _=>if_neg (by omega)
  |succ k=>
   rw[pco_succ,pco_pcv t g k]
   refine psm_congr _ _ _ fun i _=>?_
   by_cases h:i<=k
   ·rw[if_pos h,if_pos (by omega),pco_succ,show k+1-(i+1)=k-i by omega]
   ·rw[if_neg h,if_neg (by omega)]
end
section
variable {q:Nat}[NeZero q]
def pmul (f g:List (Fin q)):List (Fin q):=if f=[]∨g=[]then[]else ptrim (pcv f g)
theorem pev_pmul (x:Fin q)(f g:List (Fin q)):pev x (pmul f g)=pev x f*pev x g:=by
 unfold pmul
 split
 ·rename_i h
  rcases h with h|h
  ·rw[h]
   show 0=0*pev x g
   grind
  ·rw[h]
   show 0=pev x f*0
   grind
 ·rw[pev_ptrim,pev_pcv]
theorem pco_pcv_nil (f:List (Fin q))(k:Nat):pco (pcv f []) k=0:=by
 rw[pco_pcv]
 refine psm_zero _ _ fun i _=>?_
 split
 ·rw[pco_nil]
  grind
 ·rfl
theorem pco_pmul (f g:List (Fin q))(k:Nat):pco (pmul f g) k=pco (pcv f g) k:=by
 unfold pmul
 split
 ·rename_i h
  rcases h with h|h
  ·rw[h];rfl
  ·rw[h,pco_pcv_nil];rfl
 ·exact pco_ptrim _ _
theorem pmul_trim (f g:List (Fin q)):ptrim (pmul f g)=pmul f g:=by
 unfold pmul
 split
 ·rfl
 ·exact ptrim_ptrim _
theorem pmul_length (f g:List (Fin q)):(pmul f g).length<=f.length+g.length-1:=by
 unfold pmul
 split
 ·exact Nat.zero_le _
 ·rename_i h
  cases f with
  |nil=>exact absurd (.inl rfl) h
  |cons c t=>
   have hg:g≠[]:=fun e=>h (.inr e)
   have:=ptrim_le (pcv (c::t) g)
   rw[pcv_length c t g hg]at this
   simp only[List.length_cons]
   omega
def psum (f g:List (Fin q)):List (Fin q):=ptrim (padd f g)
theorem pev_psum (x:Fin q)(f g:List (Fin q)):pev x (psum f g)=pev x f+pev x g:=by
 unfold psum
 rw[pev_ptrim,pev_padd]
theorem pco_psum (f g:List (Fin q))(k:Nat):pco (psum f g) k=pco f k+pco g k:=by
 unfold psum
 rw[pco_ptrim,pco_padd]
theorem psum_length (f g:List (Fin q)):(psum f g).length<=max f.length g.length:=by
 have:=ptrim_le (padd f g)
 rw[padd_length]at this
 exact this
def plg (iv:Fin q->Fin q)(xs:Nat->Fin q)(y:Fin q)(i:Nat):Nat->List (Fin q)
 |0=>[y]
 |k+1=>if k=i then plg iv xs y i k else pmul (plg iv xs y i k) [(0-xs k)*iv (xs i-xs k),iv (xs i-xs k)]
def pthr (iv:Fin q->Fin q)(xs ys:Nat->Fin q)(n:Nat):Nat->List (Fin q)
 |0=>[]
 |i+1=>psum (pthr iv xs ys n i) (plg iv xs (ys i) i n)
theorem plg_step (iv:Fin q->Fin q)(xs:Nat->Fin q)(y:Fin q)(i k:Nat)(h:k≠i)(z:Fin q):pev z (plg iv xs y i (k+1))=pev z (plg iv xs y i k)*((z-xs k)*iv (xs i-xs k)):=by
 show pev z (if k=i then _ else _)=_
 rw[if_neg h,pev_pmul]
 show pev z (plg iv xs y i k)*((0-xs k)*iv (xs i-xs k)+z*(iv (xs i-xs k)+z*0))=_
 generalize iv (xs i-xs k)=b
 grind
theorem plg_same (iv:Fin q->Fin q)(xs:Nat->Fin q)(y:Fin q)(i:Nat):plg iv xs y i (i+1)=plg iv xs y i i:=by
 show(if i=i then _ else _)=_
 rw[if_pos rfl]
theorem plg_at (iv:Fin q->Fin q)(hiv: ∀a,a≠0->a*iv a=1)(xs:Nat->Fin q)(y:Fin q)(i n:Nat)(hd: ∀j,j<n->j≠i->xs j≠xs i): ∀k,k<=n->pev (xs i) (plg iv xs y i k)=y
 |0,_=>by
  show y+xs i*0=y
  grind
 |k+1,hk=>by
  have ih:=plg_at iv hiv xs y i n hd k (by omega)
  by_cases e:k=i
  ·subst e
   rw[plg_same]
   exact ih
  ·rw[plg_step iv xs y i k e,ih]
   have h0:xs i-xs k≠0:=fun h=>hd k (by omega) e (by grind)
   rw[hiv _ h0]
   grind
theorem plg_off (iv:Fin q->Fin q)(xs:Nat->Fin q)(y:Fin q)(i j:Nat)(hji:j≠i): ∀k,j<k->pev (xs j) (plg iv xs y i k)=0
 |0,h=>by omega
 |k+1,h=>by
  by_cases e:k=i
  ·subst e
   rw[plg_same]
   exact plg_off iv xs y k j hji k (by omega)
  ·rw[plg_step iv xs y i k e]
   by_cases ej:j=k
   ·rw[ej]
    grind
   ·rw[plg_off iv xs y i j hji k (by omega)]
    grind
theorem plg_length (iv:Fin q->Fin q)(xs:Nat->Fin q)(y:Fin q)(i:Nat): ∀k,(plg iv xs y i k).length<=if i<k then k else k+1
 |0=>by
  rw[if_neg (Nat.not_lt_zero i)]
  exact Nat.le_refl 1
 |k+1=>by
  have ih:=plg_length iv xs y i k
  by_cases e:k=i
  ·subst e
   rw[plg_same]
   rw[if_neg (Nat.lt_irrefl k)]at ih
   rw[if_pos (Nat.lt_succ_self k)]
   exact ih
  ·show(if k=i then _ else _:List (Fin q)).length<=_
   rw[if_neg e]
   have hm:=pmul_length (plg iv xs y i k) [(0-xs k)*iv (xs i-xs k),iv (xs i-xs k)]
   simp only[List.length_cons,List.length_nil]at hm
   by_cases hi:i<k
   ·rw[if_pos hi]at ih
    rw[if_pos (by omega)]
    omega
   ·rw[if_neg hi]at ih
    rw[if_neg (by omega)]
    omega
theorem pthr_length (iv:Fin q->Fin q)(xs ys:Nat->Fin q)(n:Nat): ∀m,m<=n->(pthr iv xs ys n m).length<=n
 |0,_=>Nat.zero_le _
 |i+1,h=>by
  have ih:=pthr_length iv xs ys n i (by omega)
  have h1:=psum_length (pthr iv xs ys n i) (plg iv xs (ys i) i n)
  have h2:=plg_length iv xs (ys i) i n
  rw[if_pos (show i<n by omega)]at h2
  show(psum (pthr iv xs ys n i) (plg iv xs (ys i) i n)).length<=n
  omega
theorem pthr_trim (iv:Fin q->Fin q)(xs ys:Nat->Fin q)(n:Nat): ∀m,ptrim (pthr iv xs ys n m)=pthr iv xs ys n m
 |0=>rfl
 |_+1=>ptrim_ptrim _
theorem pthr_at (iv:Fin q->Fin q)(hiv: ∀a,a≠0->a*iv a=1)(xs ys:Nat->Fin q)(n:Nat)(hd: ∀i j,i<n->j<n->i≠j->xs i≠xs j)(j:Nat)(hj:j<n): ∀m,m<=n->pev (xs j) (pthr iv xs ys n m)=if j<m then ys j else 0
 |0,_=>by
  rw[if_neg (Nat.not_lt_zero j)]
  rfl
 |i+1,h=>by
  have ih:=pthr_at iv hiv xs ys n hd j hj i (by omega)
  show pev (xs j) (psum (pthr iv xs ys n i) (plg iv xs (ys i) i n))=_
  rw[pev_psum,ih]
  by_cases e:j=i
  ·subst e
   rw[if_neg (Nat.lt_irrefl j),if_pos (Nat.lt_succ_self j),plg_at iv hiv xs (ys j) j n (fun k hk hne=>hd k j hk hj hne) n (Nat.le_refl n)]
   grind
  ·rw[plg_off iv xs (ys i) i j e n hj]
   by_cases hl:j<i
   ·rw[if_pos hl,if_pos (by omega)]
    grind
   ·rw[if_neg hl,if_neg (by omega)]
    grind
theorem nodup_places (xs:Nat->Fin q)(n:Nat)(hd: ∀i j,i<n->j<n->i≠j->xs i≠xs j):((List.range n).map xs).Nodup:=by
 rw[List.nodup_iff_pairwise_ne,List.pairwise_map]
 refine(List.nodup_range (n:=n)).imp_of_mem ?_;intro a b ha hb hab
 exact hd a b (List.mem_range.1 ha) (List.mem_range.1 hb) hab
theorem pthr_unique (hq:IsP q)(iv:Fin q->Fin q)(hiv: ∀a,a≠0->a*iv a=1)(xs ys:Nat->Fin q)(n:Nat)(hd: ∀i j,i<n->j<n->i≠j->xs i≠xs j)(f:List (Fin q))(hf:f.length<=n)(h: ∀j,j<n->pev (xs j) f=ys j):ptrim f=pthr iv xs ys n n:=by
 rw[<-pthr_trim iv xs ys n n]
 refine ptrim_ext _ _ (pev_unique hq ((List.range n).map xs) f _ (by simpa using hf) (by simpa using pthr_length iv xs ys n n (Nat.le_refl n)) (nodup_places xs n hd) ?_)
 intro x hx
 obtain⟨j,hj,rfl⟩:=List.mem_map.1 hx
 have hj':=List.mem_range.1 hj
 rw[h j hj',pthr_at iv hiv xs ys n hd j hj' n (Nat.le_refl n),if_pos hj']
end
section
variable {q:Nat}[NeZero q]
def poff (xs ys:Nat->Fin q)(n:Nat)(f:List (Fin q)):Nat:=(List.range n).countP fun j=>decide (pev (xs j) f≠ys j)
def fi (A:Nat):Fin q:=Fin.ofNat q A
theorem fi_val (A:Nat):(fi A:Fin q).val=A%q:=rfl
theorem fi_eq (A B:Nat):(fi A:Fin q)=fi B↔A%q=B%q:=⟨fun h=>congrArg Fin.val h,fun h=>Fin.ext h⟩
theorem fi_mod (A:Nat):(fi (A%q):Fin q)=fi A:=Fin.ext (Nat.mod_mod A q)
theorem fi_of (x:Fin q):(fi x.val:Fin q)=x:=Fin.ext (Nat.mod_eq_of_lt x.isLt)
theorem fi_zero:(fi 0:Fin q)=0:=rfl
theorem fi_one:(fi 1:Fin q)=1:=rfl
theorem fi_add (A B:Nat):(fi (A+B):Fin q)=fi A+fi B:=by
 refine Fin.ext ?_
 rw[Fin.val_add,fi_val,fi_val,fi_val,<-Nat.add_mod]
theorem fi_mul (A B:Nat):(fi (A*B):Fin q)=fi A*fi B:=by
 refine Fin.ext ?_
 rw[Fin.val_mul,fi_val,fi_val,fi_val,<-Nat.mul_mod]
theorem fi_sub (A B:Nat):(fi ((A%q+(q-B%q))%q):Fin q)=fi A-fi B:=by
 have h0:0<q:=Nat.pos_of_ne_zero (NeZero.ne q)
 have hb:=Nat.mod_lt B h0
 have e:(fi A:Fin q)=fi A-fi B+fi B:=by grind
 have e2:(fi ((A%q+(q-B%q))%q):Fin q)+fi B=fi A:=by
  rw[<-fi_mod B,<-fi_add,<-fi_mod A,fi_eq,Nat.mod_add_mod,show A%q+(q-B%q)+B%q=A%q+q by omega,Nat.add_mod_right]
 grind
def fl (n:Nat)(f:Nat->Nat):List (Fin q):=(List.range n).map fun i=>fi (f i)
theorem fl_length (n:Nat)(f:Nat->Nat):(fl n f:List (Fin q)).length=n:=by simp[fl]
theorem fl_co (n:Nat)(f:Nat->Nat)(i:Nat)(h:i<n):pco (fl n f:List (Fin q)) i=fi (f i):=by
 rw[pco_in _ _ (by rw[fl_length];exact h)]
 simp[fl]
theorem fl_out (n:Nat)(f:Nat->Nat)(i:Nat)(h:n<=i):pco (fl n f:List (Fin q)) i=0:=pco_out _ _ (by rw[fl_length];exact h)
theorem fl_of (l:List (Fin q)):fl l.length (fun i=>(pco l i).val)=l:=by
 refine List.ext_getElem (fl_length _ _) fun i h1 h2=>?_
 rw[<-pco_in _ i h1,<-pco_in _ i h2,fl_co _ _ _ h2,fi_of]
def ppw (x:Fin q):Nat->Fin q
 |0=>1
 |n+1=>ppw x n*x
theorem ppw_first (x:Fin q): ∀n,ppw x (n+1)=x*ppw x n
 |0=>by
  show 1*x=x*1
  grind
 |n+1=>by
  show ppw x (n+1)*x=x*(ppw x n*x)
  rw[ppw_first x n]
  grind
theorem pev_sum (x:Fin q): ∀f:List (Fin q),pev x f=psm (fun i=>pco f i*ppw x i) f.length
 |[]=>rfl
 |c::t=>by
  have ih:=pev_sum x t
  show c+x*pev x t=psm _ (t.length+1)
  rw[psm_first,ih,<-psm_mul]
  show c+_=c*1+_
  rw[show c*1=c by grind]
  congr 1
  refine psm_congr _ _ _ fun i _=>?_
  rw[pco_succ,ppw_first]
  grind
end
structure FO where
 ad:Nat->Nat->Nat
 mu:Nat->Nat->Nat
def yTn (F:Nat->Nat):Nat->Nat
 |0=>0
 |n+1=>if F n=0 then yTn F n else n+1
theorem yTn_le (F:Nat->Nat): ∀n,yTn F n<=n
 |0=>Nat.le_refl 0
 |n+1=>by
  have:=yTn_le F n
  unfold yTn
  split<;>omega
theorem yTn_out (F:Nat->Nat): ∀n i,yTn F n<=i->i<n->F i=0
 |0,i,_,h=>by omega
 |n+1,i,h,hi=>by
  unfold yTn at h
  split at h
  ·next h0=>
   by_cases e:i=n
   ·rw[e];exact h0
   ·exact yTn_out F n i h (by omega)
  ·omega
theorem yTn_last (F:Nat->Nat): ∀n,yTn F n=0∨F (yTn F n-1)≠0
 |0=>.inl rfl
 |n+1=>by
  unfold yTn
  split
  ·exact yTn_last F n
  ·next h=>exact .inr h
def yHv (o:FO)(F:Nat->Nat)(n x:Nat):Nat->Nat
 |0=>0
 |k+1=>o.ad (o.mu (yHv o F n x k) x) (F (n-1-k))
def yCf (n:Nat)(F:Nat->Nat)(k:Nat):Nat:=if k<n then F k else 0
theorem yCf_lt {n:Nat}{F:Nat->Nat}(h: ∀i,i<n->F i<2^256)(k:Nat):yCf n F k<2^256:=by
 unfold yCf
 split
 ·next h1=>exact h k h1
 ·decide
def yCv (o:FO)(F G:Nat->Nat)(k lo:Nat):Nat->Nat
 |0=>0
 |j+1=>o.ad (yCv o F G k lo j) (o.mu (F (lo+j)) (G (k-(lo+j))))
def yTm (o:FO)(F:Nat->Nat)(k:Nat):Nat:=o.ad (F k) 0
def ySm (o:FO)(n:Nat)(F:Nat->Nat)(m:Nat)(G:Nat->Nat)(k:Nat):Nat:=o.ad (yCf n F k) (yCf m G k)
def yMl (o:FO)(n:Nat)(F:Nat->Nat)(m:Nat)(G:Nat->Nat)(k:Nat):Nat:=yCv o F G k (k+1-m) (min n (k+1)-(k+1-m))
def fO (q:Nat):FO:=⟨fun A B=>(A+B)%q,fun A B=>A*B%q⟩
def nO:FO:=⟨fun _ _=>0,fun _ _=>0⟩
section
variable {q:Nat}[NeZero q]
theorem q_pos:0<q:=Nat.pos_of_ne_zero (NeZero.ne q)
theorem fi_inj {A B:Nat}(h:(fi A:Fin q)=fi B)(hA:A<q)(hB:B<q):A=B:=by
 have:=(fi_eq A B).1 h
 rwa [Nat.mod_eq_of_lt hA,Nat.mod_eq_of_lt hB]at this
theorem fi_z {A:Nat}(hA:A<q):(fi A:Fin q)=0↔A=0:=⟨fun h=>fi_inj (h.trans fi_zero.symm) hA q_pos,fun h=>h▸fi_zero⟩
theorem val_fi {A:Nat}(hA:A<q):(fi A:Fin q).val=A:=Nat.mod_eq_of_lt hA
theorem val_z (x:Fin q):x.val=0↔x=0:=⟨fun h=>Fin.ext h,fun h=>by rw[h];rfl⟩
theorem tn_len (n:Nat)(F:Nat->Nat)(h: ∀i,i<n->F i<q):(ptrim (fl n F:List (Fin q))).length=yTn F n:=by
 refine ptrim_length _ _ (fun i hi=>?_) ?_
 ·by_cases hn:i<n
  ·rw[fl_co _ _ _ hn,yTn_out F n i hi hn];rfl
  ·exact fl_out _ _ _ (by omega)
 ·have hle:=yTn_le F n
  rcases yTn_last F n with h1|h1
  ·exact .inl h1
  ·by_cases h0:yTn F n=0
   ·exact .inl h0
   ·refine .inr ?_
    rw[fl_co _ _ _ (by omega)]
    exact fun e=>h1 ((fi_z (h _ (by omega))).1 e)
theorem tn_val (n:Nat)(F:Nat->Nat)(h: ∀i,i<n->F i<q)(i:Nat)(hi:i<yTn F n):F i=(pco (ptrim (fl n F:List (Fin q))) i).val:=by
 have hle:=yTn_le F n
 rw[pco_ptrim,fl_co _ _ _ (by omega),val_fi (h _ (by omega))]
theorem tn_of (n:Nat)(F:Nat->Nat)(L:List (Fin q))(h: ∀i,i<n->F i<q)(hL: ∀i,pco (fl n F:List (Fin q)) i=pco L i):
  yTn F n=(ptrim L).length/\ ∀i,i<yTn F n->F i=(pco (ptrim L) i).val:=by
 rw[<-ptrim_ext _ _ hL]
 exact⟨(tn_len n F h).symm,tn_val n F h⟩
theorem yTm_of (n:Nat)(F:Nat->Nat):(fl n (yTm (fO q) F):List (Fin q))=fl n F:=by
 unfold fl
 refine List.map_congr_left fun i _=>?_
 show fi ((F i+0)%q)=fi (F i)
 rw[fi_mod];rfl
theorem yTm_lt (F:Nat->Nat)(i:Nat):yTm (fO q) F i<q:=Nat.mod_lt _ q_pos
theorem yCf_fi (n:Nat)(F:Nat->Nat)(k:Nat):(fi (yCf n F k):Fin q)=pco (fl n F) k:=by
 unfold yCf
 split
 ·next h=>rw[fl_co _ _ _ h]
 ·next h=>rw[fl_out _ _ _ (by omega)];rfl
theorem ySm_of (n:Nat)(F:Nat->Nat)(m:Nat)(G:Nat->Nat)(i:Nat):pco (fl (max n m) (ySm (fO q) n F m G):List (Fin q)) i=pco (padd (fl n F) (fl m G)) i:=by
 rw[pco_padd]
 by_cases h:i<max n m
 ·rw[fl_co _ _ _ h]
  show fi ((yCf n F i+yCf m G i)%q)=_
  rw[fi_mod,fi_add,yCf_fi,yCf_fi]
 ·rw[fl_out _ _ _ (by omega),fl_out _ _ _ (by omega),fl_out _ _ _ (by omega)]
  grind
theorem psm_shift (f:Nat->Fin q)(lo:Nat)(h: ∀i,i<lo->f i=0): ∀j,psm f (lo+j)=psm (fun i=>f (lo+i)) j
 |0=>psm_zero f lo h
 |j+1=>by
  show psm f (lo+j)+f (lo+j)=psm _ j+f (lo+j)
  rw[psm_shift f lo h j]
theorem yCv_fi (F G:Nat->Nat)(k lo:Nat): ∀j,(fi (yCv (fO q) F G k lo j):Fin q)=psm (fun i=>fi (F (lo+i))*fi (G (k-(lo+i)))) j
 |0=>rfl
 |j+1=>by
  show fi ((yCv (fO q) F G k lo j+F (lo+j)*G (k-(lo+j))%q)%q)=_
  rw[fi_mod,fi_add,fi_mod,fi_mul,yCv_fi F G k lo j]
  rfl
theorem yCv_lt (F G:Nat->Nat)(k lo:Nat): ∀j,yCv (fO q) F G k lo j<q
 |0=>q_pos
 |_+1=>Nat.mod_lt _ q_pos
theorem yMl_fi (n:Nat)(F:Nat->Nat)(m:Nat)(G:Nat->Nat)(k:Nat):(fi (yMl (fO q) n F m G k):Fin q)=pco (pcv (fl n F) (fl m G)) k:=by
 rw[pco_pcv,fl_length]
 unfold yMl
 rw[yCv_fi]
 have hz: ∀i,i<k+1-m->(fun i=>if i<=k then pco (fl n F) i*pco (fl m G) (k-i)else(0:Fin q)) i=0:=fun i hi=>by
  show(if i<=k then _ else _)=(0:Fin q)
  split
  ·rw[fl_out m G _ (by omega)];grind
  ·rfl
 have hc: ∀i,i<min n (k+1)-(k+1-m)->(fun i=>(fi (F (k+1-m+i))*fi (G (k-(k+1-m+i))):Fin q)) i=(fun i=>(fun i=>if i<=k then pco (fl n F) i*pco (fl m G) (k-i)else(0:Fin q)) (k+1-m+i)) i:=fun i hi=>by
  show _=if k+1-m+i<=k then _ else _
  rw[if_pos (by omega),fl_co _ _ _ (by omega),fl_co _ _ _ (by omega)]
 rw[psm_congr _ _ _ hc,<-psm_shift _ _ hz]
 by_cases hlo:k+1-m<=min n (k+1)
 ·rw[show k+1-m+(min n (k+1)-(k+1-m))=min n (k+1) by omega]
  refine(psm_more _ _ _ (by omega) fun i h1 h2=>?_).symm
  show(if i<=k then _ else _)=(0:Fin q)
  exact if_neg (by omega)
 ·rw[show min n (k+1)-(k+1-m)=0 by omega,Nat.add_zero,psm_zero _ _ hz,psm_zero _ _ fun i hi=>hz i (by omega)]
theorem yMl_of (n:Nat)(F:Nat->Nat)(m:Nat)(G:Nat->Nat)(i:Nat):pco (fl (n+m-1) (yMl (fO q) n F m G):List (Fin q)) i=pco (pmul (fl n F) (fl m G)) i:=by
 rw[pco_pmul]
 by_cases h:i<n+m-1
 ·rw[fl_co _ _ _ h,yMl_fi]
 ·rw[fl_out _ _ _ (by omega),pco_pcv,fl_length]
  refine(psm_zero _ _ fun j hj=>?_).symm
  show(if j<=i then _ else _)=(0:Fin q)
  split
  ·rw[fl_out m G _ (by omega)];grind
  ·rfl
theorem pmul_ext (f g f' g':List (Fin q))(h1: ∀i,pco f i=pco f' i)(h2: ∀i,pco g i=pco g' i):pmul f g=pmul f' g':=by
 rw[<-pmul_trim f g,<-pmul_trim f' g']
 refine ptrim_ext _ _ fun k=>?_
 rw[pco_pmul,pco_pmul,pco_pcv,pco_pcv]
 have hN: ∀(f g:List (Fin q)) N,f.length<=N->psm (fun i=>if i<=k then pco f i*pco g (k-i)else 0) N=psm (fun i=>if i<=k then pco f i*pco g (k-i)else 0) f.length:=fun f g N hN=>by
  refine psm_more _ _ _ hN fun i hi _=>?_
  show(if i<=k then _ else _)=(0:Fin q)
  split
  ·rw[pco_out f i hi];grind
  ·rfl
 rw[<-hN f g (max f.length f'.length) (by omega),<-hN f' g' (max f.length f'.length) (by omega)]
 refine psm_congr _ _ _ fun i _=>?_
 show(if i<=k then _ else _)=(if i<=k then _ else _)
 rw[h1,h2]
theorem pmul_trims (f g:List (Fin q)):pmul (ptrim f) (ptrim g)=pmul f g:=pmul_ext _ _ _ _ (pco_ptrim f) (pco_ptrim g)
theorem psum_trim (f g:List (Fin q)):ptrim (psum f g)=psum f g:=ptrim_ptrim _
theorem yHv_fi (F:Nat->Nat)(n x:Nat): ∀k,k<=n->(fi (yHv (fO q) F n x k):Fin q)=pev (fi x) ((fl n F).drop (n-k))
 |0,_=>by
  rw[List.drop_eq_nil_of_le (by rw[fl_length];omega)];rfl
 |k+1,h=>by
  show fi ((yHv (fO q) F n x k*x%q+F (n-1-k))%q)=_
  have hl:n-(k+1)<(fl n F:List (Fin q)).length:=by rw[fl_length];omega
  rw[fi_mod,fi_add,fi_mod,fi_mul,yHv_fi F n x k (by omega),List.drop_eq_getElem_cons hl,<-pco_in _ _ hl,fl_co _ _ _ (by omega),show n-(k+1)+1=n-k by omega,show n-1-k=n-(k+1) by omega]
  show _=fi _+fi x*pev (fi x) _
  grind
theorem yHv_lt (F:Nat->Nat)(n x:Nat): ∀k,yHv (fO q) F n x k<q
 |0=>q_pos
 |_+1=>Nat.mod_lt _ q_pos
theorem yHv_of (F:Nat->Nat)(n x:Nat):yHv (fO q) F n x n=(pev (fi x) (fl n F:List (Fin q))).val:=by
 have h:=yHv_fi (q:=q) F n x n (Nat.le_refl n)
 rw[Nat.sub_self,List.drop_zero]at h
 rw[<-h,val_fi (yHv_lt F n x n)]
theorem fl_pco (n:Nat)(F:Nat->Nat)(L:List (Fin q))(hn:n=L.length)(h: ∀i,i<n->F i=(pco L i).val):(fl n F:List (Fin q))=L:=by
 subst hn
 refine Eq.trans ?_ (fl_of L)
 unfold fl
 refine List.map_congr_left fun i hi=>?_
 rw[h i (by simpa using hi)]
def yDv (q m d:Nat)(B:Nat->Nat)(iv:Nat)(R0:Nat->Nat):Nat->(Nat->Nat)×(Nat->Nat)
 |0=>(R0,fun _=>0)
 |k+1=>((fun i=>if d-1-k<=i/\i<d-1-k+m then sbN ((yDv q m d B iv R0 k).1 i) (B (i-(d-1-k))*((yDv q m d B iv R0 k).1 (d-1-k+m-1)*iv%q)%q) q else(yDv q m d B iv R0 k).1 i),
  (fun i=>if i=d-1-k then(yDv q m d B iv R0 k).1 (d-1-k+m-1)*iv%q else(yDv q m d B iv R0 k).2 i))
theorem psm_one (f g:Nat->Fin q)(j:Nat)(c:Fin q)(hj:g j=f j+c)(ho: ∀i,i≠j->g i=f i): ∀n,j<n->psm g n=psm f n+c
 |0,h=>by omega
 |n+1,h=>by
  show psm g n+g n=psm f n+f n+c
  by_cases e:j=n
  ·subst e
   rw[psm_congr g f j fun i hi=>ho i (by omega),hj]
   grind
  ·rw[psm_one f g j c hj ho n (by omega),ho n (by omega)]
   grind
def tGo (xs:Nat->Fin q):Nat->List (Fin q)
 |0=>[1]
 |k+1=>pmul (tGo xs k) [0-xs k,1]
def tTh (iv:Fin q->Fin q)(xs ys:Nat->Fin q):Nat->List (Fin q)
 |0=>[]
 |k+1=>psum (tTh iv xs ys k) (pmul (tGo xs k) [(ys k-pev (xs k) (tTh iv xs ys k))*iv (pev (xs k) (tGo xs k))])
theorem tGo_step (xs:Nat->Fin q)(k:Nat)(z:Fin q):pev z (tGo xs (k+1))=pev z (tGo xs k)*(z-xs k):=by
 show pev z (pmul _ _)=_
 rw[pev_pmul]
 show _*((0-xs k)+z*(1+z*0))=_
 grind
theorem tGo_at (xs:Nat->Fin q)(j:Nat): ∀k,j<k->pev (xs j) (tGo xs k)=0
 |0,h=>by omega
 |k+1,h=>by
  rw[tGo_step]
  by_cases e:j=k
  ·rw[e];grind
  ·rw[tGo_at xs j k (by omega)];grind
theorem tGo_nz (hq:IsP q)(xs:Nat->Fin q)(z:Fin q): ∀k,(∀j,j<k->xs j≠z)->pev z (tGo xs k)≠0
 |0,_=>by
  show 1+z*0≠0
  have h2:=hq.1
  intro e
  have h1:(1:Fin q)=0:=by grind
  have:=(fi_eq 1 0).1 (fi_one.trans (h1.trans fi_zero.symm))
  rw[Nat.mod_eq_of_lt (by omega),Nat.zero_mod]at this
  omega
 |k+1,h=>by
  rw[tGo_step]
  intro e
  rcases fq_mul_zero hq e with e|e
  ·exact tGo_nz hq xs z k (fun j hj=>h j (by omega)) e
  ·exact h k (by omega) (by grind)
theorem tGo_length (xs:Nat->Fin q): ∀k,(tGo xs k).length<=k+1
 |0=>Nat.le_refl 1
 |k+1=>by
  have h1:=pmul_length (tGo xs k) [0-xs k,1]
  have h2:=tGo_length xs k
  show(pmul (tGo xs k) [0-xs k,1]).length<=_
  simp only[List.length_cons,List.length_nil]at h1
  omega
theorem tTh_length (iv:Fin q->Fin q)(xs ys:Nat->Fin q): ∀k,(tTh iv xs ys k).length<=k
 |0=>Nat.le_refl 0
 |k+1=>by
  have h1:=psum_length (tTh iv xs ys k) (pmul (tGo xs k) [(ys k-pev (xs k) (tTh iv xs ys k))*iv (pev (xs k) (tGo xs k))])
  have h2:=pmul_length (tGo xs k) [(ys k-pev (xs k) (tTh iv xs ys k))*iv (pev (xs k) (tGo xs k))]
  have h3:=tGo_length xs k
  have h4:=tTh_length iv xs ys k
  show(psum _ _).length<=_
  simp only[List.length_cons,List.length_nil]at h2
  omega
theorem tTh_trim (iv:Fin q->Fin q)(xs ys:Nat->Fin q): ∀k,ptrim (tTh iv xs ys k)=tTh iv xs ys k
 |0=>rfl
 |_+1=>psum_trim _ _
theorem tTh_at (hq:IsP q)(iv:Fin q->Fin q)(hiv: ∀a,a≠0->a*iv a=1)(xs ys:Nat->Fin q)(n:Nat)(hd: ∀i j,i<n->j<n->i≠j->xs i≠xs j)(j:Nat): ∀k,k<=n->j<k->pev (xs j) (tTh iv xs ys k)=ys j
 |0,_,h=>by omega
 |k+1,hk,h=>by
  show pev (xs j) (psum _ _)=_
  rw[pev_psum,pev_pmul]
  show _+_*(_+xs j*0)=_
  by_cases e:j=k
  ·subst e
   have h1:=hiv _ (tGo_nz hq xs (xs j) j fun i hi=>hd i j (by omega) (by omega) (by omega))
   grind
  ·rw[tGo_at xs j k (by omega),tTh_at hq iv hiv xs ys n hd j k (by omega) (by omega)]
   grind
theorem tTh_is (hq:IsP q)(iv:Fin q->Fin q)(hiv: ∀a,a≠0->a*iv a=1)(xs ys:Nat->Fin q)(n:Nat)(hd: ∀i j,i<n->j<n->i≠j->xs i≠xs j):tTh iv xs ys n=pthr iv xs ys n n:=by
 rw[<-tTh_trim]
 exact pthr_unique hq iv hiv xs ys n hd _ (tTh_length iv xs ys n) fun j hj=>tTh_at hq iv hiv xs ys n hd j n (Nat.le_refl n) hj
end
end Go.Proofs.YtijgjbbihgjkmaaGreatDoor
