import Derived.Test.YtighhihgmkcabaaGreatFA
namespace Go.Proofs.YtighhihgmkcabaaGreat
set_option linter.unusedVariables false
set_option linter.unusedSectionVars false
section
variable {q:Nat}[NeZero q]
theorem fq_mul_zero (hq:IsP q){a b:Fin q}(h:a*b=0):a=0∨b=0:=by
 have h1:=congrArg Fin.val h
 rw[Fin.val_mul]at h1
 have h2:a.val*b.val%q=0:=h1
 rcases isP_mul hq (Nat.dvd_of_mod_eq_zero h2)with h|h
 ·exact .inl (Fin.ext (Nat.eq_zero_of_dvd_of_lt h a.isLt))
 ·exact .inr (Fin.ext (Nat.eq_zero_of_dvd_of_lt h b.isLt))
def pev (x:Fin q):List (Fin q)->Fin q
 |[]=>0
 |c::t=>c+x*pev x t
def pdv (a:Fin q):List (Fin q)->List (Fin q)
 |[]=>[]
 |[_]=>[]
 |_::d::t=>pev a (d::t)::pdv a (d::t)
theorem pdv_spec (a x:Fin q): ∀f,pev x f=(x-a)*pev x (pdv a f)+pev a f
 |[]=>by simp only[pev,pdv];grind
 |[c]=>by simp only[pev,pdv];grind
 |c::d::t=>by
  have ih:=pdv_spec a x (d::t)
  show c+x*pev x (d::t)=(x-a)*(pev a (d::t)+x*pev x (pdv a (d::t)))+(c+a*pev a (d::t))
  generalize pev x (d::t)=T at*
  generalize pev a (d::t)=Ta at*
  generalize pev x (pdv a (d::t))=G at*
  grind
theorem pdv_length (a:Fin q): ∀f,(pdv a f).length=f.length-1
 |[]=>rfl
 |[_]=>rfl
 |_::d::t=>by
  have ih:=pdv_length a (d::t)
  show(pdv a (d::t)).length+1=_
  rw[ih]
  simp
theorem pdv_zero (a:Fin q): ∀f,pev a f=0->(∀c∈pdv a f,c=0)-> ∀c∈f,c=0
 |[],_,_=>by simp
 |[c],h,_=>by
  have e:c=0:=by
   have h':c+a*0=0:=h
   grind
  simp[e]
 |c::d::t,h,hz=>by
  have h1:pev a (d::t)=0:=hz _ (by simp[pdv])
  have h2:=pdv_zero a (d::t) h1 fun x hx=>hz x (by simp[pdv,hx])
  have h':c+a*pev a (d::t)=0:=h
  rw[h1]at h'
  have e:c=0:=by grind
  intro x hx
  rcases List.mem_cons.1 hx with hx|hx
  ·rw[hx,e]
  ·exact h2 x hx
theorem pev_roots (hq:IsP q): ∀(xs f:List (Fin q)),f.length<=xs.length->xs.Nodup->(∀x∈xs,pev x f=0)-> ∀c∈f,c=0
 |[],f,hl,_,_=>by
  have:f=[]:=List.eq_nil_of_length_eq_zero (Nat.le_zero.1 hl)
  simp[this]
 |a::xs,f,hl,hn,hz=>by
  have ha:=hz a (by simp)
  have hn':=List.nodup_cons.1 hn
  refine pdv_zero a f ha (pev_roots hq xs (pdv a f) ?_ hn'.2 fun x hx=>?_)
  ·rw[pdv_length]
   simp only[List.length_cons]at hl
   omega
  ·have hx0:=hz x (List.mem_cons_of_mem _ hx)
   rw[pdv_spec a x f,ha]at hx0
   have hx1:(x-a)*pev x (pdv a f)=0:=by grind
   rcases fq_mul_zero hq hx1 with h|h
   ·exact absurd (show x=a by grind) fun e=>hn'.1 (e▸hx)
   ·exact h
def pco (f:List (Fin q))(i:Nat):Fin q:=f.getD i 0
theorem pco_nil (i:Nat):pco ([]:List (Fin q)) i=0:=rfl
theorem pco_zero (c:Fin q)(t:List (Fin q)):pco (c::t) 0=c:=rfl
theorem pco_succ (c:Fin q)(t:List (Fin q))(i:Nat):pco (c::t) (i+1)=pco t i:=rfl
theorem pco_out (f:List (Fin q))(i:Nat)(h:f.length<=i):pco f i=0:=by
 unfold pco
 rw[List.getD_eq_getElem?_getD,List.getElem?_eq_none h]
 rfl
theorem pco_in (f:List (Fin q))(i:Nat)(h:i<f.length):pco f i=f[i]:=by
 unfold pco
 rw[List.getD_eq_getElem?_getD,List.getElem?_eq_getElem h]
 rfl
theorem pco_all_zero (f:List (Fin q))(h: ∀i,pco f i=0)(x:Fin q):pev x f=0:=by
 induction f with
 |nil=>rfl
 |cons c t ih=>
  have h0:c=0:=h 0
  have h1:=ih fun i=>h (i+1)
  show c+x*pev x t=0
  rw[h0,h1]
  grind
theorem pev_congr: ∀(f g:List (Fin q)),(∀i,pco f i=pco g i)-> ∀x,pev x f=pev x g
 |[],g,h,x=>(pco_all_zero g (fun i=>(h i).symm) x).symm
 |c::t,[],h,x=>pco_all_zero (c::t) h x
 |c::t,d::u,h,x=>by
  have h0:c=d:=h 0
  have h1:=pev_congr t u (fun i=>h (i+1)) x
  show c+x*pev x t=d+x*pev x u
  rw[h0,h1]
def padd:List (Fin q)->List (Fin q)->List (Fin q)
 |[],g=>g
 |f,[]=>f
 |c::t,d::u=>(c+d)::padd t u
theorem pco_padd: ∀(f g:List (Fin q)) (i:Nat),pco (padd f g) i=pco f i+pco g i
 |[],g,i=>by
  show pco g i=0+pco g i
  grind
 |c::t,[],i=>by
  show pco (c::t) i=pco (c::t) i+0
  grind
 |c::t,d::u,0=>rfl
 |c::t,d::u,i+1=>pco_padd t u i
theorem padd_length: ∀(f g:List (Fin q)),(padd f g).length=max f.length g.length
 |[],g=>by show g.length=_;simp
 |c::t,[]=>by show(c::t).length=_;simp
 |c::t,d::u=>by
  have:=padd_length t u
  show(padd t u).length+1=_
  simp only[List.length_cons]
  omega
theorem pev_padd (x:Fin q): ∀(f g:List (Fin q)),pev x (padd f g)=pev x f+pev x g
 |[],g=>by
  show pev x g=0+pev x g
  grind
 |c::t,[]=>by
  show pev x (c::t)=pev x (c::t)+0
  grind
 |c::t,d::u=>by
  have ih:=pev_padd x t u
  show(c+d)+x*pev x (padd t u)=(c+x*pev x t)+(d+x*pev x u)
  rw[ih]
  grind
def pscl (c:Fin q)(f:List (Fin q)):List (Fin q):=f.map (c* ·)
theorem pscl_length (c:Fin q)(f:List (Fin q)):(pscl c f).length=f.length:=by simp[pscl]
theorem pco_pscl (c:Fin q): ∀(f:List (Fin q)) (i:Nat),pco (pscl c f) i=c*pco f i
 |[],i=>by
  show 0=c*0
  grind
 |d::t,0=>rfl
 |d::t,i+1=>pco_pscl c t i
theorem pev_pscl (c x:Fin q): ∀f,pev x (pscl c f)=c*pev x f
 |[]=>by
  show 0=c*0
  grind
 |d::t=>by
  have ih:=pev_pscl c x t
  show c*d+x*pev x (pscl c t)=c*(d+x*pev x t)
  rw[ih]
  grind
theorem pev_unique (hq:IsP q)(xs f g:List (Fin q))(hf:f.length<=xs.length)(hg:g.length<=xs.length)(hn:xs.Nodup)(h: ∀x∈xs,pev x f=pev x g)(i:Nat):pco f i=pco g i:=by
 have hz:=pev_roots hq xs (padd f (pscl (-1) g)) (by rw[padd_length,pscl_length];omega) hn fun x hx=>by
  rw[pev_padd,pev_pscl,h x hx]
  grind
 have hc:pco (padd f (pscl (-1) g)) i=0:=by
  by_cases hi:i<(padd f (pscl (-1) g)).length
  ·rw[pco_in _ _ hi]
   exact hz _ (List.getElem_mem hi)
  ·exact pco_out _ _ (by omega)
 rw[pco_padd,pco_pscl]at hc
 grind
def ptrim:List (Fin q)->List (Fin q)
 |[]=>[]
 |c::t=>if ptrim t=[]/\c=0 then[]else c::ptrim t
theorem pco_ptrim: ∀(f:List (Fin q)) (i:Nat),pco (ptrim f) i=pco f i
 |[],_=>rfl
 |c::t,i=>by
  unfold ptrim
  split
  ·rename_i h
   cases i with
   |zero=>rw[pco_zero,h.2];rfl
   |succ i=>rw[pco_succ,<-pco_ptrim t i,h.1];rfl
  ·cases i with
   |zero=>rfl
   |succ i=>rw[pco_succ,pco_succ];exact pco_ptrim t i
theorem pev_ptrim (x:Fin q)(f:List (Fin q)):pev x (ptrim f)=pev x f:=pev_congr _ _ (pco_ptrim f) x
theorem ptrim_le: ∀f:List (Fin q),(ptrim f).length<=f.length
 |[]=>Nat.le_refl _
 |c::t=>by
  have:=ptrim_le t
  unfold ptrim
  split
  ·simp
  ·simp only[List.length_cons];omega
theorem ptrim_eq_nil: ∀f:List (Fin q),ptrim f=[]↔ ∀i,pco f i=0
 |[]=>⟨fun _ _=>rfl,fun _=>rfl⟩
 |c::t=>by
  have ih:=ptrim_eq_nil t
  unfold ptrim
  constructor
  ·intro h i
   split at h
   ·rename_i hc
    cases i with
    |zero=>exact hc.2
    |succ i=>exact ih.1 hc.1 i
   ·cases h
  ·intro h
   rw[if_pos ⟨ih.2 fun i=>h (i+1),h 0⟩]
theorem ptrim_ext: ∀f g:List (Fin q),(∀i,pco f i=pco g i)->ptrim f=ptrim g
 |[],g,h=>((ptrim_eq_nil g).2 fun i=>(h i).symm).symm
 |c::t,[],h=>(ptrim_eq_nil (c::t)).2 h
 |c::t,d::u,h=>by
  have h0:c=d:=h 0
  have h1:=ptrim_ext t u fun i=>h (i+1)
  unfold ptrim
  rw[h0,h1]
theorem ptrim_ptrim (f:List (Fin q)):ptrim (ptrim f)=ptrim f:=ptrim_ext _ _ (pco_ptrim f)
theorem ptrim_last: ∀f:List (Fin q),ptrim f≠[]->pco f ((ptrim f).length-1)≠0
 |[],h=>absurd rfl h
 |c::t,h=>by
  have ih:=ptrim_last t
  unfold ptrim at h ⊢
  split
  ·rename_i hc
   rw[if_pos hc]at h
   exact absurd rfl h
  ·rename_i hc
   by_cases ht:ptrim t=[]
   ·rw[ht]
    intro h0
    exact hc ⟨ht,h0⟩
   ·have hl:(ptrim t).length≠0:=fun e=>ht (List.eq_nil_of_length_eq_zero e)
    show pco (c::t) ((ptrim t).length+1-1)≠0
    rw[show(ptrim t).length+1-1=(ptrim t).length-1+1 by omega,pco_succ]
    exact ih ht
theorem ptrim_length (f:List (Fin q))(n:Nat)(hz: ∀i,n<=i->pco f i=0)(hn:n=0∨pco f (n-1)≠0):(ptrim f).length=n:=by
 have h1:(ptrim f).length<=n:=by
  by_cases e:ptrim f=[]
  ·rw[e];exact Nat.zero_le _
  ·by_cases hl:(ptrim f).length<=n
   ·exact hl
   ·exact absurd (hz ((ptrim f).length-1) (by omega)) (ptrim_last f e)
 rcases hn with h0|hn
 ·omega
 ·by_cases hl:(ptrim f).length<n
  ·exfalso
   apply hn
   rw[<-pco_ptrim]
   exact pco_out _ _ (by omega)
  ·omega
theorem ptrim_take (f:List (Fin q)):ptrim f=f.take (ptrim f).length:=by
 induction f with
 |nil=>rfl
 |cons c t ih=>
  unfold ptrim
  split
  ·rfl
  ·show c::ptrim t=c::t.take (ptrim t).length
   rw[<-ih]
def pcv:List (Fin q)->List (Fin q)->List (Fin q)
 |[],_=>[]
 |c::t,g=>padd (pscl c g) (0::pcv t g)
theorem pev_pcv (x:Fin q): ∀f g:List (Fin q),pev x (pcv f g)=pev x f*pev x g
 |[],g=>by
  show 0=0*pev x g
  grind
 |c::t,g=>by
  have ih:=pev_pcv x t g
  show pev x (padd (pscl c g) (0::pcv t g))=(c+x*pev x t)*pev x g
  rw[pev_padd,pev_pscl]
  show c*pev x g+(0+x*pev x (pcv t g))=_
  rw[ih]
  grind
theorem pcv_length: ∀(c:Fin q) (t g:List (Fin q)),g≠[]->(pcv (c::t) g).length=t.length+g.length
 |c,[],g,hg=>by
  show(padd (pscl c g) [0]).length=_
  rw[padd_length,pscl_length]
  have:g.length≠0:=fun e=>hg (List.eq_nil_of_length_eq_zero e)
  simp only[List.length_cons,List.length_nil]
  omega
 |c,d::t,g,hg=>by
  have ih:=pcv_length d t g hg
  show(padd (pscl c g) (0::pcv (d::t) g)).length=_
  rw[padd_length,pscl_length,List.length_cons,ih,List.length_cons]
  omega
def psm (f:Nat->Fin q):Nat->Fin q
 |0=>0
 |n+1=>psm f n+f n
theorem psm_congr (f g:Nat->Fin q)(n:Nat)(h: ∀i,i<n->f i=g i):psm f n=psm g n:=by
 induction n with
 |zero=>rfl
 |succ n ih=>
  show psm f n+f n=psm g n+g n
  rw[ih fun i hi=>h i (by omega),h n (by omega)]
theorem psm_first (f:Nat->Fin q): ∀n,psm f (n+1)=f 0+psm (fun i=>f (i+1)) n
 |0=>by
  show 0+f 0=f 0+0
  grind
 |n+1=>by
  show psm f (n+1)+f (n+1)=f 0+(psm (fun i=>f (i+1)) n+f (n+1))
  rw[psm_first f n]
  grind
theorem psm_zero (f:Nat->Fin q)(n:Nat)(h: ∀i,i<n->f i=0):psm f n=0:=by
 induction n with
 |zero=>rfl
 |succ n ih=>
  show psm f n+f n=0
  rw[ih fun i hi=>h i (by omega),h n (by omega)]
  grind
theorem psm_more (f:Nat->Fin q)(n m:Nat)(hnm:n<=m)(h: ∀i,n<=i->i<m->f i=0):psm f m=psm f n:=by
 induction m with
 |zero=>rw[Nat.le_zero.1 hnm]
 |succ m ih=>
  by_cases e:n=m+1
  ·rw[e]
  ·show psm f m+f m=psm f n
   rw[ih (by omega) fun i h1 h2=>h i h1 (by omega),h m (by omega) (by omega)]
   grind
theorem psm_add (f g:Nat->Fin q): ∀n,psm (fun i=>f i+g i) n=psm f n+psm g n
 |0=>by
  show 0=0+0
  grind
 |n+1=>by
  show psm (fun i=>f i+g i) n+(f n+g n)=psm f n+f n+(psm g n+g n)
  rw[psm_add f g n]
  grind
theorem psm_mul (c:Fin q)(f:Nat->Fin q): ∀n,psm (fun i=>c*f i) n=c*psm f n
 |0=>by
  show 0=c*0
  grind
 |n+1=>by
  show psm (fun i=>c*f i) n+c*f n=c*(psm f n+f n)
  rw[psm_mul c f n]
  grind
theorem pco_pcv: ∀(f g:List (Fin q)) (k:Nat),pco (pcv f g) k=psm (fun i=>if i<=k then pco f i*pco g (k-i)else 0) f.length
 |[],_,_=>rfl
 |c::t,g,k=>by
  show pco (padd (pscl c g) (0::pcv t g)) k=psm _ (t.length+1)
  rw[pco_padd,pco_pscl,psm_first]
  congr 1
  cases k with
  |zero=>
   symm
   exact psm_zero _ _ fun i _=>if_neg (by omega)
  |succ k=>
   rw[pco_succ,pco_pcv t g k]
   refine psm_congr _ _ _ fun i _=>?_
   by_cases h:i<=k
   ·rw[if_pos h,if_pos (by omega),pco_succ,show k+1-(i+1)=k-i by omega]
   ·rw[if_neg h,if_neg (by omega)]
end
section
variable {q:Nat}[NeZero q]
def pmul (f g:List (Fin q)):List (Fin q):=if f=[]∨g=[]then[]else ptrim (pcv f g)
theorem pev_pmul (x:Fin q)(f g:List (Fin q)):pev x (pmul f g)=pev x f*pev x g:=by
 unfold pmul
 split
 ·rename_i h
  rcases h with h|h
  ·rw[h]
   show 0=0*pev x g
   grind
  ·rw[h]
   show 0=pev x f*0
   grind
 ·rw[pev_ptrim,pev_pcv]
theorem pco_pcv_nil (f:List (Fin q))(k:Nat):pco (pcv f []) k=0:=by
 rw[pco_pcv]
 refine psm_zero _ _ fun i _=>?_
 split
 ·rw[pco_nil]
  grind
 ·rfl
theorem pco_pmul (f g:List (Fin q))(k:Nat):pco (pmul f g) k=pco (pcv f g) k:=by
 unfold pmul
 split
 ·rename_i h
  rcases h with h|h
  ·rw[h];rfl
  ·rw[h,pco_pcv_nil];rfl
 ·exact pco_ptrim _ _
theorem pmul_trim (f g:List (Fin q)):ptrim (pmul f g)=pmul f g:=by
 unfold pmul
 split
 ·rfl
 ·exact ptrim_ptrim _
theorem pmul_length (f g:List (Fin q)):(pmul f g).length<=f.length+g.length-1:=by
 unfold pmul
 split
 ·exact Nat.zero_le _
 ·rename_i h
  cases f with
  |nil=>exact absurd (.inl rfl) h
  |cons c t=>
   have hg:g≠[]:=fun e=>h (.inr e)
   have:=ptrim_le (pcv (c::t) g)
   rw[pcv_length c t g hg]at this
   simp only[List.length_cons]
   omega
def psum (f g:List (Fin q)):List (Fin q):=ptrim (padd f g)
theorem psum_length (f g:List (Fin q)):(psum f g).length<=max f.length g.length:=by
 have:=ptrim_le (padd f g)
 rw[padd_length]at this
 exact this
def plg (iv:Fin q->Fin q)(xs:Nat->Fin q)(y:Fin q)(i:Nat):Nat->List (Fin q)
 |0=>[y]
 |k+1=>if k=i then plg iv xs y i k else pmul (plg iv xs y i k) [(0-xs k)*iv (xs i-xs k),iv (xs i-xs k)]
def pthr (iv:Fin q->Fin q)(xs ys:Nat->Fin q)(n:Nat):Nat->List (Fin q)
 |0=>[]
 |i+1=>psum (pthr iv xs ys n i) (plg iv xs (ys i) i n)
theorem nodup_places (xs:Nat->Fin q)(n:Nat)(hd: ∀i j,i<n->j<n->i≠j->xs i≠xs j):((List.range n).map xs).Nodup:=by
 rw[List.nodup_iff_pairwise_ne,List.pairwise_map]
 refine(List.nodup_range (n:=n)).imp_of_mem ?_;intro a b ha hb hab
 exact hd a b (List.mem_range.1 ha) (List.mem_range.1 hb) hab
end
theorem countP_two {α:Type}(p a b:α->Bool)(l:List α)(h: ∀x∈l,p x=true->a x=true∨b x=true):l.countP p<=l.countP a+l.countP b:=by
 induction l with
 |nil=>simp
 |cons x l ih=>
  have ih:=ih fun y hy=>h y (List.mem_cons_of_mem _ hy)
  have hx:=h x (by simp)
  simp only[List.countP_cons]
  by_cases hp:p x=true
  ·rcases hx hp with ha|hb
   ·rw[if_pos hp,if_pos ha]
    split<;>omega
   ·rw[if_pos hp,if_pos hb]
    split<;>omega
  ·rw[if_neg hp]
   split<;>split<;>omega
section
variable {q:Nat}[NeZero q]
def poff (xs ys:Nat->Fin q)(n:Nat)(f:List (Fin q)):Nat:=(List.range n).countP fun j=>decide (pev (xs j) f≠ys j)
theorem poff_unique (hq:IsP q)(xs ys:Nat->Fin q)(n d e:Nat)(hd: ∀i j,i<n->j<n->i≠j->xs i≠xs j)(f g:List (Fin q))(hf:f.length<=d+1)(hg:g.length<=d+1)(hn:d+1+2*e<=n)(hfe:poff xs ys n f<=e)(hge:poff xs ys n g<=e)(i:Nat):pco f i=pco g i:=by
 have hcount:=countP_two (fun j=>decide (pev (xs j) f≠pev (xs j) g)) (fun j=>decide (pev (xs j) f≠ys j)) (fun j=>decide (pev (xs j) g≠ys j)) (List.range n) (by
  intro j _ h
  rw[decide_eq_true_iff]at h
  by_cases h1:pev (xs j) f=ys j
  ·refine .inr (decide_eq_true fun h2=>h (h1.trans h2.symm))
  ·exact .inl (decide_eq_true h1))
 have hsplit:=List.length_eq_countP_add_countP (l:=List.range n) (fun j=>decide (pev (xs j) f=pev (xs j) g))
 rw[List.length_range]at hsplit
 have hneg:(List.range n).countP (fun j=>decide ¬(decide (pev (xs j) f=pev (xs j) g)=true))=(List.range n).countP (fun j=>decide (pev (xs j) f≠pev (xs j) g)):=by
  refine List.countP_congr fun j _=>?_
  simp
 have hlen:d+1<=((List.range n).filter fun j=>decide (pev (xs j) f=pev (xs j) g)).length:=by
  rw[<-List.countP_eq_length_filter]
  unfold poff at hfe hge
  omega
 have hnd:(((List.range n).filter fun j=>decide (pev (xs j) f=pev (xs j) g)).map xs).Nodup:=(nodup_places xs n hd).sublist (List.filter_sublist.map xs)
 refine pev_unique hq _ f g (by rw[List.length_map];omega) (by rw[List.length_map];omega) hnd ?_ i
 intro x hx
 obtain⟨j,hj,rfl⟩:=List.mem_map.1 hx
 exact of_decide_eq_true (List.mem_filter.1 hj).2
def fi (A:Nat):Fin q:=Fin.ofNat q A
theorem fi_val (A:Nat):(fi A:Fin q).val=A%q:=rfl
theorem fi_eq (A B:Nat):(fi A:Fin q)=fi B↔A%q=B%q:=⟨fun h=>congrArg Fin.val h,fun h=>Fin.ext h⟩
theorem fi_mod (A:Nat):(fi (A%q):Fin q)=fi A:=Fin.ext (Nat.mod_mod A q)
theorem fi_of (x:Fin q):(fi x.val:Fin q)=x:=Fin.ext (Nat.mod_eq_of_lt x.isLt)
theorem fi_zero:(fi 0:Fin q)=0:=rfl
theorem fi_one:(fi 1:Fin q)=1:=rfl
theorem fi_add (A B:Nat):(fi (A+B):Fin q)=fi A+fi B:=by
 refine Fin.ext ?_
 rw[Fin.val_add,fi_val,fi_val,fi_val,<-Nat.add_mod]
theorem fi_mul (A B:Nat):(fi (A*B):Fin q)=fi A*fi B:=by
 refine Fin.ext ?_
 rw[Fin.val_mul,fi_val,fi_val,fi_val,<-Nat.mul_mod]
theorem fi_sub (A B:Nat):(fi ((A%q+(q-B%q))%q):Fin q)=fi A-fi B:=by
 have h0:0<q:=Nat.pos_of_ne_zero (NeZero.ne q)
 have hb:=Nat.mod_lt B h0
 have e:(fi A:Fin q)=fi A-fi B+fi B:=by grind
 have e2:(fi ((A%q+(q-B%q))%q):Fin q)+fi B=fi A:=by
  rw[<-fi_mod B,<-fi_add,<-fi_mod A,fi_eq,Nat.mod_add_mod,show A%q+(q-B%q)+B%q=A%q+q by omega,Nat.add_mod_right]
 grind
def fl (n:Nat)(f:Nat->Nat):List (Fin q):=(List.range n).map fun i=>fi (f i)
theorem fl_length (n:Nat)(f:Nat->Nat):(fl n f:List (Fin q)).length=n:=by simp[fl]
theorem fl_co (n:Nat)(f:Nat->Nat)(i:Nat)(h:i<n):pco (fl n f:List (Fin q)) i=fi (f i):=by
 rw[pco_in _ _ (by rw[fl_length];exact h)]
 simp[fl]
theorem fl_out (n:Nat)(f:Nat->Nat)(i:Nat)(h:n<=i):pco (fl n f:List (Fin q)) i=0:=pco_out _ _ (by rw[fl_length];exact h)
theorem fl_of (l:List (Fin q)):fl l.length (fun i=>(pco l i).val)=l:=by
 refine List.ext_getElem (fl_length _ _) fun i h1 h2=>?_
 rw[<-pco_in _ i h1,<-pco_in _ i h2,fl_co _ _ _ h2,fi_of]
def ppw (x:Fin q):Nat->Fin q
 |0=>1
 |n+1=>ppw x n*x
theorem ppw_first (x:Fin q): ∀n,ppw x (n+1)=x*ppw x n
 |0=>by
  show 1*x=x*1
  grind
 |n+1=>by
  show ppw x (n+1)*x=x*(ppw x n*x)
  rw[ppw_first x n]
  grind
theorem pev_sum (x:Fin q): ∀f:List (Fin q),pev x f=psm (fun i=>pco f i*ppw x i) f.length
 |[]=>rfl
 |c::t=>by
  have ih:=pev_sum x t
  show c+x*pev x t=psm _ (t.length+1)
  rw[psm_first,ih,<-psm_mul]
  show c+_=c*1+_
  rw[show c*1=c by grind]
  congr 1
  refine psm_congr _ _ _ fun i _=>?_
  rw[pco_succ,ppw_first]
  grind
end
structure FO where
 ad:Nat->Nat->Nat
 mu:Nat->Nat->Nat
def yTn (F:Nat->Nat):Nat->Nat
 |0=>0
 |n+1=>if F n=0 then yTn F n else n+1
theorem yTn_le (F:Nat->Nat): ∀n,yTn F n<=n
 |0=>Nat.le_refl 0
 |n+1=>by
  have:=yTn_le F n
  unfold yTn
  split<;>omega
theorem yTn_out (F:Nat->Nat): ∀n i,yTn F n<=i->i<n->F i=0
 |0,i,_,h=>by omega
 |n+1,i,h,hi=>by
  unfold yTn at h
  split at h
  ·next h0=>
   by_cases e:i=n
   ·rw[e];exact h0
   ·exact yTn_out F n i h (by omega)
  ·omega
theorem yTn_last (F:Nat->Nat): ∀n,yTn F n=0∨F (yTn F n-1)≠0
 |0=>.inl rfl
 |n+1=>by
  unfold yTn
  split
  ·exact yTn_last F n
  ·next h=>exact .inr h
theorem yTn_full (F:Nat->Nat)(n:Nat)(h:n=0∨F (n-1)≠0):yTn F n=n:=by
 cases n with
 |zero=>rfl
 |succ n=>
  unfold yTn
  rcases h with h|h
  ·omega
  ·exact if_neg h
def yHv (o:FO)(F:Nat->Nat)(n x:Nat):Nat->Nat
 |0=>0
 |k+1=>o.ad (o.mu (yHv o F n x k) x) (F (n-1-k))
def yCf (n:Nat)(F:Nat->Nat)(k:Nat):Nat:=if k<n then F k else 0
theorem yCf_lt {n:Nat}{F:Nat->Nat}(h: ∀i,i<n->F i<2^256)(k:Nat):yCf n F k<2^256:=by
 unfold yCf
 split
 ·next h1=>exact h k h1
 ·decide
def yCv (o:FO)(F G:Nat->Nat)(k lo:Nat):Nat->Nat
 |0=>0
 |j+1=>o.ad (yCv o F G k lo j) (o.mu (F (lo+j)) (G (k-(lo+j))))
def yTm (o:FO)(F:Nat->Nat)(k:Nat):Nat:=o.ad (F k) 0
def ySm (o:FO)(n:Nat)(F:Nat->Nat)(m:Nat)(G:Nat->Nat)(k:Nat):Nat:=o.ad (yCf n F k) (yCf m G k)
def yMl (o:FO)(n:Nat)(F:Nat->Nat)(m:Nat)(G:Nat->Nat)(k:Nat):Nat:=yCv o F G k (k+1-m) (min n (k+1)-(k+1-m))
def fO (q:Nat):FO:=⟨fun A B=>(A+B)%q,fun A B=>A*B%q⟩
def nO:FO:=⟨fun _ _=>0,fun _ _=>0⟩
section
variable {q:Nat}[NeZero q]
theorem q_pos:0<q:=Nat.pos_of_ne_zero (NeZero.ne q)
theorem fi_inj {A B:Nat}(h:(fi A:Fin q)=fi B)(hA:A<q)(hB:B<q):A=B:=by
 have:=(fi_eq A B).1 h
 rwa [Nat.mod_eq_of_lt hA,Nat.mod_eq_of_lt hB]at this
theorem fi_z {A:Nat}(hA:A<q):(fi A:Fin q)=0↔A=0:=⟨fun h=>fi_inj (h.trans fi_zero.symm) hA q_pos,fun h=>h▸fi_zero⟩
theorem val_fi {A:Nat}(hA:A<q):(fi A:Fin q).val=A:=Nat.mod_eq_of_lt hA
theorem val_z (x:Fin q):x.val=0↔x=0:=⟨fun h=>Fin.ext h,fun h=>by rw[h];rfl⟩
theorem tn_len (n:Nat)(F:Nat->Nat)(h: ∀i,i<n->F i<q):(ptrim (fl n F:List (Fin q))).length=yTn F n:=by
 refine ptrim_length _ _ (fun i hi=>?_) ?_
 ·by_cases hn:i<n
  ·rw[fl_co _ _ _ hn,yTn_out F n i hi hn];rfl
  ·exact fl_out _ _ _ (by omega)
 ·have hle:=yTn_le F n
  rcases yTn_last F n with h1|h1
  ·exact .inl h1
  ·by_cases h0:yTn F n=0
   ·exact .inl h0
   ·refine .inr ?_
    rw[fl_co _ _ _ (by omega)]
    exact fun e=>h1 ((fi_z (h _ (by omega))).1 e)
theorem tn_val (n:Nat)(F:Nat->Nat)(h: ∀i,i<n->F i<q)(i:Nat)(hi:i<yTn F n):F i=(pco (ptrim (fl n F:List (Fin q))) i).val:=by
 have hle:=yTn_le F n
 rw[pco_ptrim,fl_co _ _ _ (by omega),val_fi (h _ (by omega))]
theorem tn_of (n:Nat)(F:Nat->Nat)(L:List (Fin q))(h: ∀i,i<n->F i<q)(hL: ∀i,pco (fl n F:List (Fin q)) i=pco L i):
  yTn F n=(ptrim L).length/\ ∀i,i<yTn F n->F i=(pco (ptrim L) i).val:=by
 rw[<-ptrim_ext _ _ hL]
 exact⟨(tn_len n F h).symm,tn_val n F h⟩
theorem yTm_of (n:Nat)(F:Nat->Nat):(fl n (yTm (fO q) F):List (Fin q))=fl n F:=by
 unfold fl
 refine List.map_congr_left fun i _=>?_
 show fi ((F i+0)%q)=fi (F i)
 rw[fi_mod];rfl
theorem yTm_lt (F:Nat->Nat)(i:Nat):yTm (fO q) F i<q:=Nat.mod_lt _ q_pos
theorem yCf_fi (n:Nat)(F:Nat->Nat)(k:Nat):(fi (yCf n F k):Fin q)=pco (fl n F) k:=by
 unfold yCf
 split
 ·next h=>rw[fl_co _ _ _ h]
 ·next h=>rw[fl_out _ _ _ (by omega)];rfl
theorem ySm_of (n:Nat)(F:Nat->Nat)(m:Nat)(G:Nat->Nat)(i:Nat):pco (fl (max n m) (ySm (fO q) n F m G):List (Fin q)) i=pco (padd (fl n F) (fl m G)) i:=by
 rw[pco_padd]
 by_cases h:i<max n m
 ·rw[fl_co _ _ _ h]
  show fi ((yCf n F i+yCf m G i)%q)=_
  rw[fi_mod,fi_add,yCf_fi,yCf_fi]
 ·rw[fl_out _ _ _ (by omega),fl_out _ _ _ (by omega),fl_out _ _ _ (by omega)]
  grind
theorem psm_shift (f:Nat->Fin q)(lo:Nat)(h: ∀i,i<lo->f i=0): ∀j,psm f (lo+j)=psm (fun i=>f (lo+i)) j
 |0=>psm_zero f lo h
 |j+1=>by
  show psm f (lo+j)+f (lo+j)=psm _ j+f (lo+j)
  rw[psm_shift f lo h j]
theorem yCv_fi (F G:Nat->Nat)(k lo:Nat): ∀j,(fi (yCv (fO q) F G k lo j):Fin q)=psm (fun i=>fi (F (lo+i))*fi (G (k-(lo+i)))) j
 |0=>rfl
 |j+1=>by
  show fi ((yCv (fO q) F G k lo j+F (lo+j)*G (k-(lo+j))%q)%q)=_
  rw[fi_mod,fi_add,fi_mod,fi_mul,yCv_fi F G k lo j]
  rfl
theorem yCv_lt (F G:Nat->Nat)(k lo:Nat): ∀j,yCv (fO q) F G k lo j<q
 |0=>q_pos
 |_+1=>Nat.mod_lt _ q_pos
theorem yMl_fi (n:Nat)(F:Nat->Nat)(m:Nat)(G:Nat->Nat)(k:Nat):(fi (yMl (fO q) n F m G k):Fin q)=pco (pcv (fl n F) (fl m G)) k:=by
 rw[pco_pcv,fl_length]
 unfold yMl
 rw[yCv_fi]
 have hz: ∀i,i<k+1-m->(fun i=>if i<=k then pco (fl n F) i*pco (fl m G) (k-i)else(0:Fin q)) i=0:=fun i hi=>by
  show(if i<=k then _ else _)=(0:Fin q)
  split
  ·rw[fl_out m G _ (by omega)];grind
  ·rfl
 have hc: ∀i,i<min n (k+1)-(k+1-m)->(fun i=>(fi (F (k+1-m+i))*fi (G (k-(k+1-m+i))):Fin q)) i=(fun i=>(fun i=>if i<=k then pco (fl n F) i*pco (fl m G) (k-i)else(0:Fin q)) (k+1-m+i)) i:=fun i hi=>by
  show _=if k+1-m+i<=k then _ else _
  rw[if_pos (by omega),fl_co _ _ _ (by omega),fl_co _ _ _ (by omega)]
 rw[psm_congr _ _ _ hc,<-psm_shift _ _ hz]
 by_cases hlo:k+1-m<=min n (k+1)
 ·rw[show k+1-m+(min n (k+1)-(k+1-m))=min n (k+1) by omega]
  refine(psm_more _ _ _ (by omega) fun i h1 h2=>?_).symm
  show(if i<=k then _ else _)=(0:Fin q)
  exact if_neg (by omega)
 ·rw[show min n (k+1)-(k+1-m)=0 by omega,Nat.add_zero,psm_zero _ _ hz,psm_zero _ _ fun i hi=>hz i (by omega)]
theorem yMl_of (n:Nat)(F:Nat->Nat)(m:Nat)(G:Nat->Nat)(i:Nat):pco (fl (n+m-1) (yMl (fO q) n F m G):List (Fin q)) i=pco (pmul (fl n F) (fl m G)) i:=by
 rw[pco_pmul]
 by_cases h:i<n+m-1
 ·rw[fl_co _ _ _ h,yMl_fi]
 ·rw[fl_out _ _ _ (by omega),pco_pcv,fl_length]
  refine(psm_zero _ _ fun j hj=>?_).symm
  show(if j<=i then _ else _)=(0:Fin q)
  split
  ·rw[fl_out m G _ (by omega)];grind
  ·rfl
theorem pmul_ext (f g f' g':List (Fin q))(h1: ∀i,pco f i=pco f' i)(h2: ∀i,pco g i=pco g' i):pmul f g=pmul f' g':=by
 rw[<-pmul_trim f g,<-pmul_trim f' g']
 refine ptrim_ext _ _ fun k=>?_
 rw[pco_pmul,pco_pmul,pco_pcv,pco_pcv]
 have hN: ∀(f g:List (Fin q)) N,f.length<=N->psm (fun i=>if i<=k then pco f i*pco g (k-i)else 0) N=psm (fun i=>if i<=k then pco f i*pco g (k-i)else 0) f.length:=fun f g N hN=>by
  refine psm_more _ _ _ hN fun i hi _=>?_
  show(if i<=k then _ else _)=(0:Fin q)
  split
  ·rw[pco_out f i hi];grind
  ·rfl
 rw[<-hN f g (max f.length f'.length) (by omega),<-hN f' g' (max f.length f'.length) (by omega)]
 refine psm_congr _ _ _ fun i _=>?_
 show(if i<=k then _ else _)=(if i<=k then _ else _)
 rw[h1,h2]
theorem pmul_trims (f g:List (Fin q)):pmul (ptrim f) (ptrim g)=pmul f g:=pmul_ext _ _ _ _ (pco_ptrim f) (pco_ptrim g)
theorem psum_trim (f g:List (Fin q)):ptrim (psum f g)=psum f g:=ptrim_ptrim _
theorem yHv_fi (F:Nat->Nat)(n x:Nat): ∀k,k<=n->(fi (yHv (fO q) F n x k):Fin q)=pev (fi x) ((fl n F).drop (n-k))
 |0,_=>by
  rw[List.drop_eq_nil_of_le (by rw[fl_length];omega)];rfl
 |k+1,h=>by
  show fi ((yHv (fO q) F n x k*x%q+F (n-1-k))%q)=_
  have hl:n-(k+1)<(fl n F:List (Fin q)).length:=by rw[fl_length];omega
  rw[fi_mod,fi_add,fi_mod,fi_mul,yHv_fi F n x k (by omega),List.drop_eq_getElem_cons hl,<-pco_in _ _ hl,fl_co _ _ _ (by omega),show n-(k+1)+1=n-k by omega,show n-1-k=n-(k+1) by omega]
  show _=fi _+fi x*pev (fi x) _
  grind
theorem yHv_lt (F:Nat->Nat)(n x:Nat): ∀k,yHv (fO q) F n x k<q
 |0=>q_pos
 |_+1=>Nat.mod_lt _ q_pos
theorem yHv_of (F:Nat->Nat)(n x:Nat):yHv (fO q) F n x n=(pev (fi x) (fl n F:List (Fin q))).val:=by
 have h:=yHv_fi (q:=q) F n x n (Nat.le_refl n)
 rw[Nat.sub_self,List.drop_zero]at h
 rw[<-h,val_fi (yHv_lt F n x n)]
theorem fl_pco (n:Nat)(F:Nat->Nat)(L:List (Fin q))(hn:n=L.length)(h: ∀i,i<n->F i=(pco L i).val):(fl n F:List (Fin q))=L:=by
 subst hn
 refine Eq.trans ?_ (fl_of L)
 unfold fl
 refine List.map_congr_left fun i hi=>?_
 rw[h i (by simpa using hi)]
def yDv (q m d:Nat)(B:Nat->Nat)(iv:Nat)(R0:Nat->Nat):Nat->(Nat->Nat)×(Nat->Nat)
 |0=>(R0,fun _=>0)
 |k+1=>((fun i=>if d-1-k<=i/\i<d-1-k+m then sbN ((yDv q m d B iv R0 k).1 i) (B (i-(d-1-k))*((yDv q m d B iv R0 k).1 (d-1-k+m-1)*iv%q)%q) q else(yDv q m d B iv R0 k).1 i),
  (fun i=>if i=d-1-k then(yDv q m d B iv R0 k).1 (d-1-k+m-1)*iv%q else(yDv q m d B iv R0 k).2 i))
theorem psm_one (f g:Nat->Fin q)(j:Nat)(c:Fin q)(hj:g j=f j+c)(ho: ∀i,i≠j->g i=f i): ∀n,j<n->psm g n=psm f n+c
 |0,h=>by omega
 |n+1,h=>by
  show psm g n+g n=psm f n+f n+c
  by_cases e:j=n
  ·subst e
   rw[psm_congr g f j fun i hi=>ho i (by omega),hj]
   grind
  ·rw[psm_one f g j c hj ho n (by omega),ho n (by omega)]
   grind
theorem yDv_lt (m d n:Nat)(B:Nat->Nat)(iv:Nat)(R0:Nat->Nat)(h: ∀i,i<n->R0 i<q): ∀k,(∀i,i<n->(yDv q m d B iv R0 k).1 i<q)/\ ∀i,(yDv q m d B iv R0 k).2 i<q
 |0=>⟨h,fun _=>q_pos⟩
 |k+1=>by
  have ih:=yDv_lt m d n B iv R0 h k
  refine⟨fun i hi=>?_,fun i=>?_⟩
  ·show(if _ then _ else _)<q
   split
   ·exact Nat.mod_lt _ q_pos
   ·exact ih.1 i hi
  ·show(if _ then _ else _)<q
   split
   ·exact Nat.mod_lt _ q_pos
   ·exact ih.2 i
theorem yDv_sum (m d:Nat)(B:Nat->Nat)(iv:Nat)(R0:Nat->Nat)(i:Nat): ∀k,k<=d->(fi (R0 i):Fin q)=psm (fun j=>if j<=i then fi ((yDv q m d B iv R0 k).2 j)*pco (fl m B) (i-j)else 0) d+fi ((yDv q m d B iv R0 k).1 i)
 |0,_=>by
  rw[psm_zero _ _ fun j _=>by
   show(if j<=i then fi 0*pco (fl m B) (i-j)else 0)=(0:Fin q)
   split
   ·rw[fi_zero];grind
   ·rfl]
  show fi (R0 i)=0+fi (R0 i)
  grind
 |k+1,hk=>by
  have ih:=yDv_sum m d B iv R0 i k (by omega)
  have hO: ∀j,d-1-k<j∨True:=fun _=>.inr trivial
  have hz:(yDv q m d B iv R0 k).2 (d-1-k)=0:=by
   have: ∀k',k'<=k->(yDv q m d B iv R0 k').2 (d-1-k)=0:=by
    intro k'
    induction k' with
    |zero=>intro _;rfl
    |succ k' ih'=>
     intro h
     show(if d-1-k=d-1-k' then _ else _)=_
     rw[if_neg (by omega)]
     exact ih' (by omega)
   exact this k (Nat.le_refl k)
  have hs:=psm_one (fun j=>if j<=i then fi ((yDv q m d B iv R0 k).2 j)*pco (fl m B) (i-j)else(0:Fin q)) (fun j=>if j<=i then fi ((yDv q m d B iv R0 (k+1)).2 j)*pco (fl m B) (i-j)else(0:Fin q)) (d-1-k)
   (if d-1-k<=i then fi ((yDv q m d B iv R0 k).1 (d-1-k+m-1)*iv%q)*pco (fl m B) (i-(d-1-k))else 0)
   (by
    show(if d-1-k<=i then fi (if d-1-k=d-1-k then(yDv q m d B iv R0 k).1 (d-1-k+m-1)*iv%q else(yDv q m d B iv R0 k).2 (d-1-k))*pco (fl m B) (i-(d-1-k))else 0)=(if d-1-k<=i then fi ((yDv q m d B iv R0 k).2 (d-1-k))*pco (fl m B) (i-(d-1-k))else 0)+(if d-1-k<=i then fi ((yDv q m d B iv R0 k).1 (d-1-k+m-1)*iv%q)*pco (fl m B) (i-(d-1-k))else 0)
    rw[hz,if_pos rfl,fi_zero]
    split<;>grind)
   (fun j hj=>by
    show(if j<=i then fi (if j=d-1-k then(yDv q m d B iv R0 k).1 (d-1-k+m-1)*iv%q else(yDv q m d B iv R0 k).2 j)*pco (fl m B) (i-j)else 0)=_
    rw[if_neg hj])
   d (by omega)
  rw[hs,ih]
  show _=_+fi (if d-1-k<=i/\i<d-1-k+m then sbN ((yDv q m d B iv R0 k).1 i) (B (i-(d-1-k))*((yDv q m d B iv R0 k).1 (d-1-k+m-1)*iv%q)%q) q else(yDv q m d B iv R0 k).1 i)
  by_cases h1:d-1-k<=i
  ·by_cases h2:i<d-1-k+m
   ·rw[if_pos h1,if_pos ⟨h1,h2⟩,fl_co _ _ _ (by omega)]
    unfold sbN
    rw[fi_sub,fi_mod (q:=q) (B (i-(d-1-k))*_),fi_mul (q:=q) (B _)]
    generalize (fi ((yDv q m d B iv R0 k).1 (d-1-k+m-1)*iv%q):Fin q)=X
    generalize psm (q:=q) _ d=Y
    grind
   ·rw[if_pos h1,if_neg (by omega),fl_out _ _ _ (by omega)]
    grind
  ·rw[if_neg h1,if_neg (by omega)]
   grind
theorem yDv_done (m d n:Nat)(B:Nat->Nat)(iv:Nat)(R0:Nat->Nat)(hm:0<m)(hn:d=0∨n=d+m-1)(h: ∀i,i<n->R0 i<q)(hiv:B (m-1)*iv%q=1%q): ∀k,k<=d-> ∀i,d-k+m-1<=i->i<n->d≠0->(yDv q m d B iv R0 k).1 i=0
 |0,_,i,h1,h2,h3=>by omega
 |k+1,hk,i,h1,h2,h3=>by
  have hlt:=(yDv_lt m d n B iv R0 h (k+1)).1 i h2
  refine(fi_z (q:=q) hlt).1 ?_
  show fi (if d-1-k<=i/\i<d-1-k+m then sbN ((yDv q m d B iv R0 k).1 i) (B (i-(d-1-k))*((yDv q m d B iv R0 k).1 (d-1-k+m-1)*iv%q)%q) q else(yDv q m d B iv R0 k).1 i)=0
  by_cases e:i=d-1-k+m-1
  ·rw[if_pos (by omega),e,show d-1-k+m-1-(d-1-k)=m-1 by omega]
   unfold sbN
   have hv:(fi (B (m-1))*fi iv:Fin q)=fi 1:=by rw[<-fi_mul,fi_eq];exact hiv
   rw[fi_sub,fi_mod,fi_mul,fi_mod,fi_mul,<-e]
   rw[fi_one]at hv
   grind
  ·rw[if_neg (by omega),yDv_done m d n B iv R0 hm hn h hiv k (by omega) i (by omega) h2 h3]
   exact fi_zero
theorem yDv_top (m d:Nat)(B:Nat->Nat)(iv:Nat)(R0:Nat->Nat)(hd:0<d)(hm:0<m): ∀k,0<k->k<=d->(yDv q m d B iv R0 k).2 (d-1)=R0 (d+m-2)*iv%q
 |0,h,_=>by omega
 |1,_,_=>by
  show(if d-1=d-1-0 then _ else _)=_
  rw[if_pos (by omega)]
  show R0 (d-1-0+m-1)*iv%q=_
  rw[show d-1-0+m-1=d+m-2 by omega]
 |k+2,_,hk=>by
  show(if d-1=d-1-(k+1)then _ else _)=_
  rw[if_neg (by omega)]
  exact yDv_top m d B iv R0 hd hm (k+1) (by omega) (by omega)
def tGo (xs:Nat->Fin q):Nat->List (Fin q)
 |0=>[1]
 |k+1=>pmul (tGo xs k) [0-xs k,1]
def tTh (iv:Fin q->Fin q)(xs ys:Nat->Fin q):Nat->List (Fin q)
 |0=>[]
 |k+1=>psum (tTh iv xs ys k) (pmul (tGo xs k) [(ys k-pev (xs k) (tTh iv xs ys k))*iv (pev (xs k) (tGo xs k))])
theorem tGo_step (xs:Nat->Fin q)(k:Nat)(z:Fin q):pev z (tGo xs (k+1))=pev z (tGo xs k)*(z-xs k):=by
 show pev z (pmul _ _)=_
 rw[pev_pmul]
 show _*((0-xs k)+z*(1+z*0))=_
 grind
theorem tGo_nz (hq:IsP q)(xs:Nat->Fin q)(z:Fin q): ∀k,(∀j,j<k->xs j≠z)->pev z (tGo xs k)≠0
 |0,_=>by
  show 1+z*0≠0
  have h2:=hq.1
  intro e
  have h1:(1:Fin q)=0:=by grind
  have:=(fi_eq 1 0).1 (fi_one.trans (h1.trans fi_zero.symm))
  rw[Nat.mod_eq_of_lt (by omega),Nat.zero_mod]at this
  omega
 |k+1,h=>by
  rw[tGo_step]
  intro e
  rcases fq_mul_zero hq e with e|e
  ·exact tGo_nz hq xs z k (fun j hj=>h j (by omega)) e
  ·exact h k (by omega) (by grind)
theorem tGo_length (xs:Nat->Fin q): ∀k,(tGo xs k).length<=k+1
 |0=>Nat.le_refl 1
 |k+1=>by
  have h1:=pmul_length (tGo xs k) [0-xs k,1]
  have h2:=tGo_length xs k
  show(pmul (tGo xs k) [0-xs k,1]).length<=_
  simp only[List.length_cons,List.length_nil]at h1
  omega
theorem tTh_length (iv:Fin q->Fin q)(xs ys:Nat->Fin q): ∀k,(tTh iv xs ys k).length<=k
 |0=>Nat.le_refl 0
 |k+1=>by
  have h1:=psum_length (tTh iv xs ys k) (pmul (tGo xs k) [(ys k-pev (xs k) (tTh iv xs ys k))*iv (pev (xs k) (tGo xs k))])
  have h2:=pmul_length (tGo xs k) [(ys k-pev (xs k) (tTh iv xs ys k))*iv (pev (xs k) (tGo xs k))]
  have h3:=tGo_length xs k
  have h4:=tTh_length iv xs ys k
  show(psum _ _).length<=_
  simp only[List.length_cons,List.length_nil]at h2
  omega
theorem tTh_trim (iv:Fin q->Fin q)(xs ys:Nat->Fin q): ∀k,ptrim (tTh iv xs ys k)=tTh iv xs ys k
 |0=>rfl
 |_+1=>psum_trim _ _
end
end Go.Proofs.YtighhihgmkcabaaGreat
