import Derived.Test.YtighhihgmkcabaaGreatUD
namespace Go.Proofs.YtighhihgmkcabaaGreat
set_option linter.unusedVariables false
set_option linter.unusedSectionVars false
section
variable {q:Nat}[NeZero q]
abbrev Mx (q:Nat):=Nat->Nat->Fin q
def Sol (A:Mx q)(m c:Nat)(x:Nat->Fin q):Prop:= ∀i,i<m->psm (fun k=>A i k*x k) c=A i c
def mSwp (A:Mx q)(a b:Nat):Mx q:=fun r=>if r=a then A b else if r=b then A a else A r
def mSub (A:Mx q)(r n:Nat)(t:Fin q):Mx q:=fun i k=>if i=r then A i k-t*A n k else A i k
theorem psm_sub (f g:Nat->Fin q)(n:Nat):psm (fun i=>f i-g i) n=psm f n-psm g n:=by
 have h:=psm_add (fun i=>f i-g i) g n
 have e:(fun i=>f i-g i+g i)=f:=by
  funext i
  grind
 rw[e]at h
 rw[h]
 grind
theorem sol_swp {A:Mx q}{m c a b:Nat}{x:Nat->Fin q}(ha:a<m)(hb:b<m):Sol (mSwp A a b) m c x↔Sol A m c x:=by
 have go: ∀B:Mx q,Sol B m c x->Sol (mSwp B a b) m c x:=fun B h i hi=>by
  unfold mSwp
  split
  ·exact h b hb
  ·split
   ·exact h a ha
   ·exact h i hi
 refine⟨fun h=>?_,go A⟩
 have h2:=go _ h
 have e:mSwp (mSwp A a b) a b=A:=by
  funext r
  unfold mSwp
  by_cases e1:r=a
  ·rw[if_pos e1]
   by_cases e2:b=a
   ·rw[if_pos e2,e2,e1]
   ·rw[if_neg e2,if_pos rfl,e1]
  ·rw[if_neg e1]
   by_cases e2:r=b
   ·rw[if_pos e2,if_pos rfl,e2]
   ·rw[if_neg e2,if_neg e1,if_neg e2]
 rwa [e]at h2
theorem row_sub (A:Mx q)(r n:Nat)(t:Fin q)(c:Nat)(x:Nat->Fin q):psm (fun k=>(A r k-t*A n k)*x k) c=psm (fun k=>A r k*x k) c-t*psm (fun k=>A n k*x k) c:=by
 rw[<-psm_mul,<-psm_sub]
 refine psm_congr _ _ _ fun i _=>?_
 grind
def mScl (A:Mx q)(r:Nat)(t:Fin q):Mx q:=fun i k=>if i=r then t*A i k else A i k
def mElim (A:Mx q)(n col:Nat)(iv:Fin q->Fin q):Mx q:=fun i k=>if n<i then A i k-A i col*iv (A n col)*A n k else A i k
theorem sol_elim {A:Mx q}{m c n col:Nat}{iv:Fin q->Fin q}{x:Nat->Fin q}(hn:n<m):Sol (mElim A n col iv) m c x↔Sol A m c x:=by
 constructor
 ·intro h i hi
  have h2:=h n hn
  simp only[mElim,if_neg (Nat.lt_irrefl n)]at h2
  have h1:=h i hi
  by_cases e:n<i
  ·simp only[mElim,if_pos e]at h1
   rw[row_sub,h2]at h1
   grind
  ·simpa only[mElim,if_neg e]using h1
 ·intro h i hi
  by_cases e:n<i
  ·simp only[mElim,if_pos e]
   rw[row_sub,h i hi,h n hn]
  ·simp only[mElim,if_neg e]
   exact h i hi
def mAt (A:Mx q)(col:Nat):Nat->Nat->Nat
 |n,0=>n
 |n,s+1=>if A n col=0 then mAt A col (n+1) s else n
theorem mAt_le (A:Mx q)(col:Nat): ∀s n,n<=mAt A col n s/\mAt A col n s<=n+s
 |0,n=>⟨Nat.le_refl _,Nat.le_refl _⟩
 |s+1,n=>by
  unfold mAt
  split
  ·have:=mAt_le A col s (n+1)
   omega
  ·omega
theorem mAt_ne (A:Mx q)(col:Nat): ∀s n,mAt A col n s<n+s->A (mAt A col n s) col≠0
 |0,n,h=>by
  have:=(mAt_le A col 0 n).1
  omega
 |s+1,n,h=>by
  unfold mAt at h ⊢
  split
  ·rename_i e
   rw[if_pos e]at h
   exact mAt_ne A col s (n+1) (by omega)
  ·assumption
theorem mAt_zero (A:Mx q)(col:Nat): ∀s n i,n<=i->i<mAt A col n s->A i col=0
 |0,n,i,h1,h2=>by
  have:mAt A col n 0=n:=rfl
  omega
 |s+1,n,i,h1,h2=>by
  unfold mAt at h2
  split at h2
  ·rename_i e
   by_cases e2:i=n
   ·rw[e2];exact e
   ·exact mAt_zero A col s (n+1) i (by omega) h2
  ·omega
theorem mAt_congr (A B:Mx q)(col:Nat)(h: ∀i,A i col=B i col): ∀s n,mAt A col n s=mAt B col n s
 |0,n=>rfl
 |s+1,n=>by
  unfold mAt
  rw[h,mAt_congr A B col h s]
def rkS (iv:Fin q->Fin q)(m col:Nat)(S:Mx q×Nat):Mx q×Nat:=
 let a:=mAt S.1 col S.2 (m-S.2)
 if m<=a then S else(mElim (mSwp S.1 S.2 a) S.2 col iv,S.2+1)
def rkC (iv:Fin q->Fin q)(m:Nat)(A:Mx q):Nat->Mx q×Nat
 |0=>(A,0)
 |c+1=>rkS iv m c (rkC iv m A c)
theorem rkC_le (iv:Fin q->Fin q)(m:Nat)(A:Mx q): ∀c,(rkC iv m A c).2<=m
 |0=>Nat.zero_le _
 |c+1=>by
  have ih:=rkC_le iv m A c
  show(rkS iv m c (rkC iv m A c)).2<=m
  unfold rkS
  simp only
  split
  ·exact ih
  ·rename_i h
   have:=(mAt_le (rkC iv m A c).1 c (m-(rkC iv m A c).2) (rkC iv m A c).2).1
   simp only
   omega
theorem rkC_sol (iv:Fin q->Fin q)(m C:Nat)(A:Mx q)(x:Nat->Fin q): ∀c,Sol (rkC iv m A c).1 m C x↔Sol A m C x
 |0=>Iff.rfl
 |c+1=>by
  have ih:=rkC_sol iv m C A x c
  show Sol (rkS iv m c (rkC iv m A c)).1 m C x↔_
  unfold rkS
  simp only
  split
  ·exact ih
  ·rename_i h
   have:=(mAt_le (rkC iv m A c).1 c (m-(rkC iv m A c).2) (rkC iv m A c).2).1
   rw[sol_elim (by omega),sol_swp (by omega) (by omega)]
   exact ih
theorem rkC_low (iv:Fin q->Fin q)(hiv: ∀x:Fin q,x≠0->x*iv x=1)(m:Nat)(A:Mx q): ∀c i k,(rkC iv m A c).2<=i->i<m->k<c->(rkC iv m A c).1 i k=0
 |0,i,k,_,_,h=>absurd h (Nat.not_lt_zero _)
 |c+1,i,k,h1,h2,h3=>by
  have ih:=rkC_low iv hiv m A c
  have hle:=rkC_le iv m A c
  revert h1
  show(rkS iv m c (rkC iv m A c)).2<=i->(rkS iv m c (rkC iv m A c)).1 i k=0
  generalize rkC iv m A c=S at ih hle
  unfold rkS
  have hb:=mAt_le S.1 c (m-S.2) S.2
  have hz:=mAt_zero S.1 c (m-S.2) S.2
  have hne:=mAt_ne S.1 c (m-S.2) S.2
  generalize mAt S.1 c S.2 (m-S.2)=a at hb hz hne
  simp only
  split
  ·intro h1
   by_cases e:k=c
   ·rw[e];exact hz i h1 (by omega)
   ·exact ih i k h1 h2 (by omega)
  ·rename_i h
   intro h1
   have hp: ∀k,mSwp S.1 S.2 a S.2 k=S.1 a k:=fun k=>by simp[mSwp]
   simp only at h1
   have hgt:S.2<i:=by omega
   simp only[mElim,if_pos hgt,hp]
   by_cases e:k=c
   ·rw[e]
    have h4:=hiv _ (hne (by omega))
    generalize S.1 a c=u at h4
    generalize mSwp S.1 S.2 a i c=v
    grind
   ·have h5:mSwp S.1 S.2 a i k=0:=by
     unfold mSwp
     rw[if_neg (by omega)]
     split
     ·exact ih S.2 k (Nat.le_refl _) (by omega) (by omega)
     ·exact ih i k (by omega) h2 (by omega)
    rw[h5,ih a k hb.1 (by omega) (by omega)]
    grind
theorem rkC_some (iv:Fin q->Fin q)(hiv: ∀x:Fin q,x≠0->x*iv x=1)(m C:Nat)(A:Mx q): ∀c,c<=C-> ∀z:Nat->Fin q,∃x:Nat->Fin q,(∀k,c<=k->x k=z k)/\ ∀i,i<(rkC iv m A c).2->psm (fun k=>(rkC iv m A c).1 i k*x k) C=(rkC iv m A c).1 i C
 |0,_,z=>⟨z,fun _ _=>rfl,fun i h=>absurd h (Nat.not_lt_zero _)⟩
 |c+1,hc,z=>by
  have ih:=rkC_some iv hiv m C A c (by omega)
  have low:=rkC_low iv hiv m A c
  show ∃x:Nat->Fin q,(∀k,c+1<=k->x k=z k)/\ ∀i,i<(rkS iv m c (rkC iv m A c)).2->psm (fun k=>(rkS iv m c (rkC iv m A c)).1 i k*x k) C=(rkS iv m c (rkC iv m A c)).1 i C
  generalize rkC iv m A c=S at ih low
  unfold rkS
  have hb:=mAt_le S.1 c (m-S.2) S.2
  have hne:=mAt_ne S.1 c (m-S.2) S.2
  generalize mAt S.1 c S.2 (m-S.2)=a at hb hne
  simp only
  split
  ·obtain⟨x,h1,h2⟩:=ih z
   exact⟨x,fun k hk=>h1 k (by omega),h2⟩
  ·rename_i h
   have h4:=hiv _ (hne (by omega))
   let z0:Nat->Fin q:=fun k=>if k=c then 0 else if k<c then 0 else z k
   let v:Fin q:=iv (S.1 a c)*(S.1 a C-psm (fun k=>S.1 a k*z0 k) C)
   obtain⟨x,h1,h2⟩:=ih fun k=>if k=c then v else z k
   have hp: ∀k,mSwp S.1 S.2 a S.2 k=S.1 a k:=fun k=>by simp[mSwp]
   refine⟨x,fun k hk=>?_,fun i hi=>?_⟩
   ·rw[h1 k (by omega),if_neg (by omega)]
   ·simp only at hi
    by_cases e:i=S.2
    ·simp only[mElim,e,if_neg (Nat.lt_irrefl _),hp]
     have hx: ∀k,k<C->S.1 a k*x k=S.1 a k*z0 k+(if k=c then S.1 a c*v else 0):=fun k hk=>by
      by_cases e1:k=c
      ·have:z0 k=0:=if_pos e1
       rw[this,if_pos e1,h1 k (by omega),if_pos e1,e1]
       grind
      ·rw[if_neg e1]
       by_cases e2:k<c
       ·rw[low a k hb.1 (by omega) e2]
        grind
       ·have:z0 k=z k:=by
         show(if k=c then 0 else if k<c then 0 else z k)=z k
         rw[if_neg e1,if_neg e2]
        rw[this,h1 k (by omega),if_neg e1]
        grind
     rw[psm_congr _ _ C hx,psm_add]
     have hone:psm (fun k=>if k=c then S.1 a c*v else 0) C=S.1 a c*v:=by
      rw[psm_more _ (c+1) C (by omega) fun i h3 _=>if_neg (by omega)]
      show psm _ c+(if c=c then S.1 a c*v else 0)=_
      rw[psm_zero _ c fun i hi=>if_neg (by omega),if_pos rfl]
      grind
     rw[hone]
     show psm (fun k=>S.1 a k*z0 k) C+S.1 a c*(iv (S.1 a c)*(S.1 a C-psm (fun k=>S.1 a k*z0 k) C))=S.1 a C
     generalize psm (fun k=>S.1 a k*z0 k) C=T
     generalize S.1 a c=u at h4
     generalize iv u=w at h4
     grind
    ·have hlt:i<S.2:=by omega
     have e3: ∀k,mElim (mSwp S.1 S.2 a) S.2 c iv i k=S.1 i k:=fun k=>by
      simp only[mElim,if_neg (by omega: ¬S.2<i)]
      unfold mSwp
      rw[if_neg e,if_neg (by omega)]
     simp only[e3]
     exact h2 i hlt
theorem rkC_congr (iv:Fin q->Fin q)(m C:Nat)(A B:Mx q)(h: ∀i k,k<C->A i k=B i k): ∀c,c<=C->(rkC iv m A c).2=(rkC iv m B c).2/\ ∀i k,k<C->(rkC iv m A c).1 i k=(rkC iv m B c).1 i k
 |0,_=>⟨rfl,h⟩
 |c+1,hc=>by
  obtain⟨h1,h2⟩:=rkC_congr iv m C A B h c (by omega)
  show(rkS iv m c (rkC iv m A c)).2=(rkS iv m c (rkC iv m B c)).2/\ ∀i k,k<C->(rkS iv m c (rkC iv m A c)).1 i k=(rkS iv m c (rkC iv m B c)).1 i k
  generalize rkC iv m A c=S at h1 h2
  generalize rkC iv m B c=S' at h1 h2
  obtain⟨S,n⟩:=S
  obtain⟨S',n'⟩:=S'
  simp only at h1 h2
  subst h1
  have e:=mAt_congr S S' c (fun i=>h2 i c (by omega)) (m-n) n
  unfold rkS
  simp only[e]
  split
  ·exact⟨rfl,h2⟩
  ·refine⟨rfl,fun i k hk=>?_⟩
   have hs: ∀i k,k<C->mSwp S n (mAt S' c n (m-n)) i k=mSwp S' n (mAt S' c n (m-n)) i k:=fun i k hk=>by
    unfold mSwp
    split
    ·exact h2 _ k hk
    ·split
     ·exact h2 _ k hk
     ·exact h2 _ k hk
   simp only[mElim]
   rw[hs i k hk,hs i c (by omega),hs n c (by omega),hs n k hk]
theorem rk_sol (iv:Fin q->Fin q)(hiv: ∀x:Fin q,x≠0->x*iv x=1)(m c:Nat)(A B:Mx q)(h: ∀i k,k<c->A i k=B i k):(rkC iv m A (c+1)).2<=(rkC iv m B c).2↔ ∃x,Sol A m c x:=by
 have h0:=(rkC_congr iv m c A B h c (Nat.le_refl _)).1
 rw[<-h0]
 have low:=rkC_low iv hiv m A c
 have hso:=fun x=>rkC_sol iv m c A x c
 have hsm:=rkC_some iv hiv m c A c (Nat.le_refl _) fun _=>0
 have hle:=rkC_le iv m A c
 show(rkS iv m c (rkC iv m A c)).2<=_↔_
 generalize rkC iv m A c=S at low hso hsm hle
 unfold rkS
 have hb:=mAt_le S.1 c (m-S.2) S.2
 have hz:=mAt_zero S.1 c (m-S.2) S.2
 have hne:=mAt_ne S.1 c (m-S.2) S.2
 generalize mAt S.1 c S.2 (m-S.2)=a at hb hz hne
 simp only
 split
 ·rename_i ha
  refine⟨fun _=>?_,fun _=>Nat.le_refl _⟩
  obtain⟨x,_,hx⟩:=hsm
  refine⟨x,(hso x).1 fun i hi=>?_⟩
  by_cases e:i<S.2
  ·exact hx i e
  ·rw[hz i (by omega) (by omega)]
   refine psm_zero _ _ fun k hk=>?_
   rw[low i k (by omega) hi hk]
   grind
 ·rename_i ha
  refine⟨fun h=>by simp only at h;omega,fun⟨x,hx⟩=>?_⟩
  have h1:=(hso x).2 hx a (by omega)
  rw[psm_zero _ _ fun k hk=>by rw[low a k hb.1 (by omega) hk];grind]at h1
  exact absurd h1.symm (hne (by omega))
end
section
variable {q:Nat}[NeZero q]
def gjE (A:Mx q)(r s c:Nat)(iv:Fin q->Fin q):Mx q:=fun i k=>if i=r then A s k*iv (A s c)else mSwp A r s i k-A s k*iv (A s c)*mSwp A r s i c
theorem row_lin (f g x:Nat->Fin q)(t:Fin q)(n:Nat):psm (fun k=>(f k-g k*t)*x k) n=psm (fun k=>f k*x k) n-t*psm (fun k=>g k*x k) n:=by
 rw[<-psm_mul,<-psm_sub]
 refine psm_congr _ _ _ fun i _=>?_
 grind
theorem gjE_sol {A:Mx q}{m n r s c:Nat}{iv:Fin q->Fin q}{x:Nat->Fin q}(hr:r<m)(hs:s<m)(ht:A s c*iv (A s c)=1):Sol (gjE A r s c iv) m n x↔Sol A m n x:=by
 rw[<-sol_swp (A:=A) (x:=x) (c:=n) hr hs]
 have hB:mSwp A r s r=A s:=if_pos rfl
 have e0:psm (fun k=>A s k*iv (A s c)*x k) n=iv (A s c)*psm (fun k=>A s k*x k) n:=by
  rw[<-psm_mul]
  refine psm_congr _ _ _ fun k _=>?_
  grind
 have e1: ∀i,psm (fun k=>(mSwp A r s i k-A s k*iv (A s c)*mSwp A r s i c)*x k) n=psm (fun k=>mSwp A r s i k*x k) n-iv (A s c)*mSwp A r s i c*psm (fun k=>A s k*x k) n:=fun i=>by
  rw[<-row_lin]
  refine psm_congr _ _ _ fun k _=>?_
  grind
 constructor
 ·intro h
  have h2:psm (fun k=>A s k*x k) n=A s n:=by
   have h1:=h r hr
   simp only[gjE,if_pos]at h1
   rw[e0]at h1
   have h3:A s c*_=A s c*_:=congrArg (A s c* ·) h1
   generalize psm (fun k=>A s k*x k) n=T at h3 ⊢
   generalize A s n=U at h3 ⊢
   grind
  intro i hi
  by_cases e:i=r
  ·rw[e,hB];exact h2
  ·have h1:=h i hi
   simp only[gjE,if_neg e]at h1
   rw[e1,h2]at h1
   generalize psm (fun k=>mSwp A r s i k*x k) n=T at h1 ⊢
   grind
 ·intro h
  have h2:psm (fun k=>A s k*x k) n=A s n:=by
   have h1:=h r hr
   rw[hB]at h1;exact h1
  intro i hi
  by_cases e:i=r
  ·simp only[gjE,if_pos e]
   rw[e0,h2]
   grind
  ·simp only[gjE,if_neg e]
   rw[e1,h2,h i hi]
   grind
structure GJ (A0 A:Mx q)(m n c r:Nat)(L:Nat->Nat):Prop where
 rm:r<=m
 sol: ∀x,Sol A m n x↔Sol A0 m n x
 one: ∀i,i<r-> ∀j,j<m->A j (L i)=if j=i then 1 else 0
 low: ∀i,i<r-> ∀k,k<L i->A i k=0
 out: ∀i,r<=i->i<m-> ∀k,k<c->A i k=0
 ltc: ∀i,i<r->L i<c
theorem gj_start (A:Mx q)(m n:Nat)(L:Nat->Nat):GJ A A m n 0 0 L:=
 ⟨Nat.zero_le _,fun _=>Iff.rfl,fun i h=>absurd h (by omega),fun i h=>absurd h (by omega),fun i _ _ k h=>absurd h (by omega),fun i h=>absurd h (by omega)⟩
theorem gj_skip {A0 A:Mx q}{m n c r:Nat}{L:Nat->Nat}(h:GJ A0 A m n c r L)(hz: ∀i,r<=i->i<m->A i c=0):GJ A0 A m n (c+1) r L:=
 ⟨h.rm,h.sol,h.one,h.low,fun i h1 h2 k hk=>by
  by_cases e:k=c
  ·rw[e];exact hz i h1 h2
  ·exact h.out i h1 h2 k (by omega),fun i hi=>Nat.lt_succ_of_lt (h.ltc i hi)⟩
theorem gj_step {A0 A:Mx q}{m n c r s:Nat}{L:Nat->Nat}{iv:Fin q->Fin q}(hiv: ∀x:Fin q,x≠0->x*iv x=1)(h:GJ A0 A m n c r L)(hrs:r<=s)(hs:s<m)(hz:A s c≠0):GJ A0 (gjE A r s c iv) m n (c+1) (r+1) (fun j=>if j=r then c else L j):=by
 have ht:=hiv _ hz
 have hsw: ∀i k,r<=i->i<m->k<c->mSwp A r s i k=0:=fun i k h1 h2 hk=>by
  unfold mSwp
  split
  ·exact h.out s hrs hs k hk
  ·split
   ·exact h.out r (Nat.le_refl _) (by omega) k hk
   ·exact h.out i h1 h2 k hk
 have hs0: ∀k,k<c->A s k=0:=fun k hk=>h.out s hrs hs k hk
 have hlow: ∀i,i<r->mSwp A r s i=A i:=fun i hi=>by
  unfold mSwp
  rw[if_neg (by omega),if_neg (by omega)]
 have hc: ∀i,gjE A r s c iv i c=if i=r then 1 else 0:=fun i=>by
  unfold gjE
  split
  ·exact ht
  ·rw[ht];grind
 refine⟨by omega,fun x=>(gjE_sol (by omega) hs ht).trans (h.sol x),fun i hi j hj=>?_,fun i hi k hk=>?_,fun i h1 h2 k hk=>?_,fun i hi=>?_⟩
 ·by_cases e:i=r
  ·simp only[if_pos e]
   rw[hc,e]
  ·simp only[if_neg e]
   have hL:=h.ltc i (by omega)
   have h0:=hs0 _ hL
   unfold gjE
   by_cases e2:j=r
   ·rw[if_pos e2,h0,if_neg (by omega)]
    grind
   ·rw[if_neg e2,h0]
    have:mSwp A r s j (L i)=if j=i then 1 else 0:=by
     unfold mSwp
     rw[if_neg e2]
     split
     ·rw[h.one i (by omega) r (by omega),if_neg (by omega),if_neg (by omega)]
     ·exact h.one i (by omega) j hj
    rw[this]
    grind
 ·by_cases e:i=r
  ·simp only[if_pos e]at hk
   unfold gjE
   rw[if_pos e,hs0 k hk]
   grind
  ·simp only[if_neg e]at hk
   have hL:=h.ltc i (by omega)
   unfold gjE
   rw[if_neg e,hs0 k (by omega),hlow i (by omega),h.low i (by omega) k hk]
   grind
 ·by_cases e:k=c
  ·rw[e,hc,if_neg (by omega)]
  ·unfold gjE
   rw[if_neg (by omega),hs0 k (by omega),hsw i k (by omega) h2 (by omega)]
   grind
 ·by_cases e:i=r
  ·simp only[if_pos e];omega
  ·simp only[if_neg e]
   have:=h.ltc i (by omega)
   omega
theorem gj_no {A0 A:Mx q}{m n r:Nat}{L:Nat->Nat}(hq:1<q)(h:GJ A0 A m n (n+1) r L){i:Nat}(hi:i<r)(hL:L i=n): ¬ ∃x,Sol A0 m n x:=by
 rintro⟨x,hx⟩
 have h1:=(h.sol x).2 hx i (by have:=h.rm;omega)
 have h2:=h.one i hi i (by have:=h.rm;omega)
 rw[if_pos rfl,hL]at h2
 rw[psm_zero _ _ fun k hk=>by rw[h.low i hi k (by omega)];grind,h2]at h1
 have h3:=congrArg Fin.val h1
 rw[show(1:Fin q).val=1%q from rfl,show(0:Fin q).val=0%q from rfl,Nat.mod_eq_of_lt hq,Nat.zero_mod]at h3
 exact absurd h3 (by decide)
def gjX (A:Mx q)(n:Nat)(L:Nat->Nat):Nat->Nat->Fin q
 |0,_=>0
 |j+1,k=>if k=L j then A j n else gjX A n L j k
theorem gjX_none (A:Mx q)(n:Nat)(L:Nat->Nat)(k:Nat): ∀j,(∀i,i<j->k≠L i)->gjX A n L j k=0
 |0,_=>rfl
 |j+1,h=>by
  unfold gjX
  rw[if_neg (h j (by omega))]
  exact gjX_none A n L k j fun i hi=>h i (by omega)
theorem gjX_at (A:Mx q)(n:Nat)(L:Nat->Nat)(i:Nat): ∀j,i<j->(∀k,k<j->L k=L i->k=i)->gjX A n L j (L i)=A i n
 |0,h,_=>absurd h (by omega)
 |j+1,h,hd=>by
  unfold gjX
  by_cases e:i=j
  ·rw[if_pos (by rw[e]),e]
  ·rw[if_neg (fun h2=>e (hd j (by omega) h2.symm).symm)]
   exact gjX_at A n L i j (by omega) fun k hk=>hd k (by omega)
theorem gj_yes {A0 A:Mx q}{m n r:Nat}{L:Nat->Nat}(hq:1<q)(h:GJ A0 A m n (n+1) r L)(hL: ∀i,i<r->L i≠n):Sol A0 m n (gjX A n L r):=by
 refine(h.sol _).1 fun i hi=>?_
 have hdis: ∀a b,a<r->b<r->L a=L b->a=b:=fun a b ha hb e=>by
  have h1:=h.one a ha a (by have:=h.rm;omega)
  rw[if_pos rfl,e,h.one b hb a (by have:=h.rm;omega)]at h1
  by_cases e2:a=b
  ·exact e2
  ·rw[if_neg e2]at h1
   have h3:=congrArg Fin.val h1
   rw[show(1:Fin q).val=1%q from rfl,show(0:Fin q).val=0%q from rfl,Nat.mod_eq_of_lt hq,Nat.zero_mod]at h3
   exact absurd h3 (by decide)
 by_cases e:i<r
 ·have hLn:L i<n:=by
   have h1:=h.ltc i e
   have h2:=hL i e
   omega
  have hx:=gjX_at A n L i r e fun k hk he=>hdis k i hk e he
  have h1:=psm_one (fun _=>0) (fun k=>A i k*gjX A n L r k) (L i) (A i n) (by
   show A i (L i)*gjX A n L r (L i)=0+A i n
   rw[hx,h.one i e i hi,if_pos rfl]
   grind) (fun k hk=>by
   show A i k*gjX A n L r k=0
   by_cases ek: ∃j,j<r/\k=L j
   ·obtain⟨j,hj,rfl⟩:=ek
    rw[h.one j hj i hi,if_neg (fun e2=>hk (by rw[e2]))]
    grind
   ·rw[gjX_none A n L k r fun j hj e2=>ek ⟨j,hj,e2⟩]
    grind) n hLn
  rw[h1,psm_zero _ _ fun _ _=>rfl]
  grind
 ·rw[psm_zero _ _ fun k hk=>by rw[h.out i (by omega) hi k (by omega)];grind,h.out i (by omega) hi n (by omega)]
end
section
variable {q:Nat}[NeZero q]
def pmo:List (Fin q)->List (Fin q)
 |[]=>[1]
 |a::t=>pcv [-a,1] (pmo t)
theorem pco_mon (a:Fin q)(g:List (Fin q))(k:Nat):pco (pcv [-a,1] g) k= -a*pco g k+if k=0 then 0 else pco g (k-1):=by
 show pco (padd (pscl (-a) g) (0::padd (pscl 1 g) (0::[]))) k=_
 rw[pco_padd,pco_pscl]
 cases k with
 |zero=>
  rw[pco_zero,if_pos rfl]
 |succ k=>
  rw[pco_succ,pco_padd,pco_pscl,if_neg (by omega),Nat.add_sub_cancel]
  have:pco ([0]:List (Fin q)) k=0:=by
   cases k with
   |zero=>rfl
   |succ k=>rfl
  rw[this]
  grind
theorem pmo_length: ∀l:List (Fin q),(pmo l).length=l.length+1
 |[]=>rfl
 |a::t=>by
  have ih:=pmo_length t
  have hne:pmo t≠[]:=fun h=>by rw[h]at ih;simp at ih
  show(pcv [-a,1] (pmo t)).length=_
  rw[pcv_length _ _ _ hne,ih]
  simp only[List.length_cons,List.length_nil]
  omega
theorem pmo_top: ∀l:List (Fin q),pco (pmo l) l.length=1
 |[]=>rfl
 |a::t=>by
  have ih:=pmo_top t
  have hl:=pmo_length t
  show pco (pcv [-a,1] (pmo t)) (t.length+1)=1
  rw[pco_mon,pco_out _ _ (by omega),if_neg (by omega),Nat.add_sub_cancel,ih]
  grind
theorem pmo_root: ∀(l:List (Fin q)) (x:Fin q),x∈l->pev x (pmo l)=0
 |a::t,x,h=>by
  show pev x (pcv [-a,1] (pmo t))=0
  rw[pev_pcv]
  rcases List.mem_cons.1 h with e|h
  ·have:pev x [-a,1]=0:=by
    show-a+x*(1+x*0)=0
    rw[e]
    grind
   rw[this]
   grind
  ·rw[pmo_root t x h]
   grind
theorem bw_has (xs ys:Nat->Fin q)(n d e:Nat)(f:List (Fin q))(hf:f.length<=d+1)(hfe:poff xs ys n f<=e):
  ∃N E:List (Fin q),N.length<=d+e+1/\E.length=e+1/\pco E e=1/\ ∀i,i<n->pev (xs i) N=ys i*pev (xs i) E:=by
 let L:List (Fin q):=((List.range n).filter fun j=>decide (pev (xs j) f≠ys j)).map xs
 have hL:L.length<=e:=by
  show(List.map xs _).length<=e
  rw[List.length_map,<-List.countP_eq_length_filter]
  exact hfe
 let M:List (Fin q):=L++List.replicate (e-L.length) 0
 have hM:M.length=e:=by
  show(L++List.replicate (e-L.length) 0).length=e
  rw[List.length_append,List.length_replicate]
  omega
 have hEl:=pmo_length M
 have hne:pmo M≠[]:=fun h=>by rw[h]at hEl;simp at hEl
 refine⟨pcv f (pmo M),pmo M,?_,by rw[hEl,hM],by rw[<-hM];exact pmo_top M,fun i hi=>?_⟩
 ·cases f with
  |nil=>exact Nat.zero_le _
  |cons c t=>
   rw[pcv_length _ _ _ hne,hEl,hM]
   simp only[List.length_cons]at hf
   omega
 ·rw[pev_pcv]
  by_cases h:pev (xs i) f=ys i
  ·rw[h]
  ·rw[pmo_root M (xs i) (List.mem_append.2 (.inl (List.mem_map.2 ⟨i,List.mem_filter.2 ⟨List.mem_range.2 hi,decide_eq_true h⟩,rfl⟩)))]
   grind
theorem bw_is (hq:IsP q)(xs ys:Nat->Fin q)(n d e:Nat)(hd: ∀i j,i<n->j<n->i≠j->xs i≠xs j)(hn:d+1+2*e<=n)(f N E:List (Fin q))(hf:f.length<=d+1)(hfe:poff xs ys n f<=e)
  (hN:N.length<=d+e+1)(hE:E.length<=e+1)(h: ∀i,i<n->pev (xs i) N=ys i*pev (xs i) E)(k:Nat):pco N k=pco (pcv f E) k:=by
 have hsplit:=List.length_eq_countP_add_countP (l:=List.range n) (fun j=>decide (pev (xs j) f=ys j))
 rw[List.length_range]at hsplit
 have hneg:(List.range n).countP (fun j=>decide ¬(decide (pev (xs j) f=ys j)=true))=(List.range n).countP (fun j=>decide (pev (xs j) f≠ys j)):=by
  refine List.countP_congr fun j _=>?_
  simp
 have hlen:d+e+1<=((List.range n).filter fun j=>decide (pev (xs j) f=ys j)).length:=by
  rw[<-List.countP_eq_length_filter]
  unfold poff at hfe
  omega
 have hnd:(((List.range n).filter fun j=>decide (pev (xs j) f=ys j)).map xs).Nodup:=(nodup_places xs n hd).sublist (List.filter_sublist.map xs)
 have hpl:(pcv f E).length<=d+e+1:=by
  cases f with
  |nil=>exact Nat.zero_le _
  |cons c t=>
   by_cases hEe:E=[]
   ·rw[hEe]
    have: ∀t:List (Fin q),(pcv t []).length<=t.length:=fun t=>by
     induction t with
     |nil=>exact Nat.le_refl _
     |cons c t ih=>
      show(padd (pscl c []) (0::pcv t [])).length<=_
      rw[padd_length,pscl_length]
      simp only[List.length_cons,List.length_nil]
      omega
    have:=this (c::t)
    omega
   ·rw[pcv_length _ _ _ hEe]
    simp only[List.length_cons]at hf
    omega
 refine pev_unique hq _ N (pcv f E) (by rw[List.length_map];omega) (by rw[List.length_map];omega) hnd ?_ k
 intro x hx
 obtain⟨j,hj,rfl⟩:=List.mem_map.1 hx
 have h1:=of_decide_eq_true (List.mem_filter.1 hj).2
 rw[h j (List.mem_range.1 (List.mem_filter.1 hj).1),pev_pcv,h1]
def bkL (s n:Nat):List Nat:=(List.range n).filter fun i=>decide (s/2^i%2=1)
def mkT (iv:Fin q->Fin q)(xs ys:Nat->Fin q)(s n:Nat):List (Fin q):=pthr iv (fun k=>xs ((bkL s n).getD k 0)) (fun k=>ys ((bkL s n).getD k 0)) (bkL s n).length (bkL s n).length
theorem pco_pcvN (f g:List (Fin q))(k n:Nat)(h:f.length<=n):pco (pcv f g) k=psm (fun i=>if i<=k then pco f i*pco g (k-i)else 0) n:=by
 rw[pco_pcv]
 refine(psm_more _ _ _ h fun i hi _=>?_).symm
 rw[pco_out _ _ hi]
 split
 ·grind
 ·rfl
theorem div_exact (hq:IsP q)(f La Lb Lq Lr:List (Fin q))(hne:ptrim Lb≠[])(tq:ptrim Lq=Lq)(tr:ptrim Lr=Lr)(hlt:Lr.length<(ptrim Lb).length)(hdiv: ∀i,pco (pmul Lq (ptrim Lb)) i+pco Lr i=pco La i)(hex: ∀i,pco La i=pco (pcv f Lb) i):Lq=ptrim f/\Lr=[]:=by
 have hlast:=ptrim_last Lb hne
 obtain⟨n,hn⟩: ∃n,n=max f.length Lq.length+1:=⟨_,rfl⟩
 let c:Nat->Fin q:=fun i=>pco f i-pco Lq i
 have hc: ∀k,psm (fun i=>if i<=k then c i*pco Lb (k-i)else 0) n=pco Lr k:=fun k=>by
  have h1:=hdiv k
  rw[hex,pco_pmul,pco_pcvN Lq _ k n (by omega),pco_pcvN f _ k n (by omega)]at h1
  simp only[pco_ptrim]at h1
  have h2:=psm_sub (fun i=>if i<=k then pco f i*pco Lb (k-i)else 0) (fun i=>if i<=k then pco Lq i*pco Lb (k-i)else 0) n
  rw[<-h1]at h2
  rw[psm_congr _ (fun i=>(if i<=k then pco f i*pco Lb (k-i)else 0)-if i<=k then pco Lq i*pco Lb (k-i)else 0) n fun i _=>by
   split
   ·show(pco f i-pco Lq i)*_=_
    grind
   ·grind,h2]
  grind
 have hB: ∀k,(ptrim Lb).length<=k->pco Lb k=0:=fun k hk=>by rw[<-pco_ptrim,pco_out _ _ hk]
 have hout: ∀i,n<=i->c i=0:=fun i hi=>by
  show pco f i-pco Lq i=0
  rw[pco_out f i (by omega),pco_out Lq i (by omega)]
  grind
 have hz: ∀m,m<=n-> ∀i,n-m<=i->c i=0:=fun m=>by
  induction m with
  |zero=>exact fun _ i hi=>hout i (by omega)
  |succ m ih=>
   intro hm i hi
   have ih:=ih (by omega)
   by_cases e:n-m<=i
   ·exact ih i e
   ·have e2:i=n-(m+1):=by omega
    have hk:=hc (i+((ptrim Lb).length-1))
    rw[pco_out Lr _ (by omega)]at hk
    rw[psm_more _ (i+1) n (by omega) fun j h1 _=>by
     rw[ih j (by omega)]
     split
     ·grind
     ·rfl]at hk
    have hk:psm (fun j=>if j<=i+((ptrim Lb).length-1)then c j*pco Lb (i+((ptrim Lb).length-1)-j)else 0) i+(if i<=i+((ptrim Lb).length-1)then c i*pco Lb (i+((ptrim Lb).length-1)-i)else 0)=0:=hk
    rw[psm_zero _ i fun j hj=>by
     rw[hB _ (by omega)]
     split
     ·grind
     ·rfl,if_pos (Nat.le_add_right _ _),Nat.add_sub_cancel_left]at hk
    have hk:c i*pco Lb ((ptrim Lb).length-1)=0:=by grind
    rcases fq_mul_zero hq hk with h|h
    ·exact h
    ·exact absurd h hlast
 have hall: ∀i,c i=0:=fun i=>hz n (Nat.le_refl _) i (by omega)
 refine⟨?_,?_⟩
 ·rw[<-tq]
  refine ptrim_ext _ _ fun i=>?_
  have h:pco f i-pco Lq i=0:=hall i
  grind
 ·rw[<-tr,ptrim_eq_nil]
  intro k
  rw[<-hc k]
  refine psm_zero _ _ fun i _=>?_
  rw[hall i]
  split
  ·grind
  ·rfl
end
section
variable {q:Nat}[NeZero q]
theorem psm_split (f:Nat->Fin q)(n:Nat): ∀m,psm f (n+m)=psm f n+psm (fun j=>f (n+j)) m
 |0=>by
  show psm f n=psm f n+0
  grind
 |m+1=>by
  show psm f (n+m)+f (n+m)=psm f n+(psm (fun j=>f (n+j)) m+f (n+m))
  rw[psm_split f n m]
  grind
def eqR (x y:Fin q)(ct k:Nat):Fin q:=if k<ct then ppw x k else 0-ppw x (k-ct)*y
def eqM (xs ys:Nat->Fin q)(ct e:Nat):Mx q:=fun i k=>if k=ct+e then ppw (xs i) e*ys i else eqR (xs i) (ys i) ct k
def eqE (X:Nat->Fin q)(ct e k:Nat):Nat:=if k<e then(X (ct+k)).val else 1
theorem pev_fl (x:Fin q)(n:Nat)(F:Nat->Nat):pev x (fl n F)=psm (fun i=>fi (F i)*ppw x i) n:=by
 rw[pev_sum,fl_length]
 exact psm_congr _ _ _ fun i hi=>by rw[fl_co n F i hi]
theorem eq_row (X:Nat->Fin q)(x y:Fin q)(ct e:Nat):psm (fun k=>eqR x y ct k*X k) (ct+e)=pev x (fl ct (fun k=>(X k).val))-y*psm (fun k=>X (ct+k)*ppw x k) e:=by
 rw[psm_split,pev_fl]
 have h1:psm (fun k=>eqR x y ct k*X k) ct=psm (fun i=>fi (X i).val*ppw x i) ct:=psm_congr _ _ _ fun i hi=>by
  unfold eqR
  rw[if_pos hi,fi_of]
  grind
 have h2:psm (fun j=>eqR x y ct (ct+j)*X (ct+j)) e=psm (fun j=>(0-y)*(X (ct+j)*ppw x j)) e:=psm_congr _ _ _ fun i hi=>by
  unfold eqR
  rw[if_neg (by omega),Nat.add_sub_cancel_left]
  grind
 rw[h1,h2,psm_mul]
 grind
theorem eq_right (X:Nat->Fin q)(x:Fin q)(ct e:Nat):pev x (fl (e+1) (eqE X ct e))=psm (fun k=>X (ct+k)*ppw x k) e+ppw x e:=by
 rw[pev_fl]
 show psm (fun i=>fi (eqE X ct e i)*ppw x i) e+fi (eqE X ct e e)*ppw x e=_
 have h1:psm (fun i=>fi (eqE X ct e i)*ppw x i) e=psm (fun k=>X (ct+k)*ppw x k) e:=psm_congr _ _ _ fun i hi=>by
  rw[show eqE X ct e i=(X (ct+i)).val from if_pos hi,fi_of]
 rw[h1,show eqE X ct e e=1 from if_neg (Nat.lt_irrefl e),fi_one]
 grind
theorem eq_iff (xs ys X:Nat->Fin q)(n ct e:Nat):Sol (eqM xs ys ct e) n (ct+e) X↔ ∀i,i<n->pev (xs i) (fl ct (fun k=>(X k).val))=ys i*pev (xs i) (fl (e+1) (eqE X ct e)):=by
 have hrow: ∀i,psm (fun k=>eqM xs ys ct e i k*X k) (ct+e)=pev (xs i) (fl ct (fun k=>(X k).val))-ys i*psm (fun k=>X (ct+k)*ppw (xs i) k) e:=fun i=>by
  rw[<-eq_row]
  refine psm_congr _ _ _ fun k hk=>?_
  unfold eqM
  rw[if_neg (by omega)]
 have hright: ∀i,eqM xs ys ct e i (ct+e)=ppw (xs i) e*ys i:=fun i=>if_pos rfl
 constructor
 ·intro h i hi
  have h1:=h i hi
  rw[hrow,hright]at h1
  rw[eq_right]
  generalize pev (xs i) (fl ct (fun k=>(X k).val))=T at h1 ⊢
  generalize psm (fun k=>X (ct+k)*ppw (xs i) k) e=U at h1 ⊢
  grind
 ·intro h i hi
  have h1:=h i hi
  rw[eq_right]at h1
  rw[hrow,hright]
  generalize pev (xs i) (fl ct (fun k=>(X k).val))=T at h1 ⊢
  generalize psm (fun k=>X (ct+k)*ppw (xs i) k) e=U at h1 ⊢
  grind
theorem eq_some (xs ys:Nat->Fin q)(n d e:Nat)(f:List (Fin q))(hf:f.length<=d+1)(hfe:poff xs ys n f<=e): ∃X,Sol (eqM xs ys (d+e+1) e) n (d+e+1+e) X:=by
 obtain⟨N,E,hN,hE,h1,h⟩:=bw_has xs ys n d e f hf hfe
 refine⟨fun k=>if k<d+e+1 then pco N k else pco E (k-(d+e+1)),(eq_iff _ _ _ _ _ _).2 fun i hi=>?_⟩
 have eN: ∀x:Fin q,pev x (fl (d+e+1) (fun k=>(if k<d+e+1 then pco N k else pco E (k-(d+e+1)):Fin q).val))=pev x N:=fun x=>pev_congr _ _ (fun k=>by
  by_cases hk:k<d+e+1
  ·rw[fl_co _ _ _ hk,fi_of,if_pos hk]
  ·rw[fl_out _ _ _ (by omega),pco_out _ _ (by omega)]) x
 have eE: ∀x:Fin q,pev x (fl (e+1) (eqE (fun k=>if k<d+e+1 then pco N k else pco E (k-(d+e+1))) (d+e+1) e))=pev x E:=fun x=>pev_congr _ _ (fun k=>by
  by_cases hk:k<e+1
  ·rw[fl_co _ _ _ hk]
   unfold eqE
   by_cases hk2:k<e
   ·rw[if_pos hk2,fi_of]
    show(if d+e+1+k<d+e+1 then _ else _)=_
    rw[if_neg (by omega),Nat.add_sub_cancel_left]
   ·rw[if_neg hk2,show k=e by omega,h1,fi_one]
  ·rw[fl_out _ _ _ (by omega),pco_out _ _ (by omega)]) x
 rw[eN,eE]
 exact h i hi
theorem eq_trim (hq:1<q)(X:Nat->Fin q)(ct e:Nat):ptrim (fl (e+1) (eqE X ct e):List (Fin q))≠[]:=fun h=>by
 have h1:=pco_ptrim (fl (e+1) (eqE X ct e):List (Fin q)) e
 rw[h,pco_nil,fl_co _ _ _ (Nat.lt_succ_self e),show eqE X ct e e=1 from if_neg (Nat.lt_irrefl e)]at h1
 have h3:=congrArg Fin.val h1
 rw[fi_val,show(0:Fin q).val=0%q from rfl,Nat.mod_eq_of_lt hq,Nat.zero_mod]at h3
 exact absurd h3 (by decide)
theorem eq_is (hq:IsP q)(xs ys X:Nat->Fin q)(n d e:Nat)(hd: ∀i j,i<n->j<n->i≠j->xs i≠xs j)(hn:d+1+2*e<=n)(f:List (Fin q))(hf:f.length<=d+1)(hfe:poff xs ys n f<=e)(h:Sol (eqM xs ys (d+e+1) e) n (d+e+1+e) X)(k:Nat):
  pco (fl (d+e+1) (fun k=>(X k).val):List (Fin q)) k=pco (pcv f (fl (e+1) (eqE X (d+e+1) e))) k:=
 bw_is hq xs ys n d e hd hn f _ _ hf hfe (by rw[fl_length];omega) (by rw[fl_length];omega) ((eq_iff _ _ _ _ _ _).1 h) k
end
end Go.Proofs.YtighhihgmkcabaaGreat
