import Derived.Test.YtnagnkhbamhfmaaGreatDoorGS
import Derived.KernelRfl
namespace Go.Proofs.YtnagnkhbamhfmaaGreatDoor
set_option linter.all false
def IsP (n:Nat):Prop:=2<=n/\ ∀d,d∣n->d=1∨d=n
theorem VN {p a:Nat}(hp:IsP p)(h: ¬p∣a):Nat.gcd p a=1:=by
 rcases hp.2 _ (Nat.gcd_dvd_left p a)with h1|h1
 ·exact h1
 ·exact absurd (h1▸Nat.gcd_dvd_right p a) h
theorem TD {p a b:Nat}(hp:IsP p)(h:p∣a*b):p∣a∨p∣b:=by
 by_cases ha:p∣a
 ·exact .inl ha
 ·exact .inr ((Nat.Coprime.dvd_of_dvd_mul_left (VN hp ha)) h)
theorem RA {a b p:Nat}(h:a<=b):a%p=b%p↔p∣b-a:=by
 constructor
 ·intro e;exact dQ0 (Nat.sub_mod_eq_zero_of_mod_eq e.symm)
 ·rintro⟨k,hk⟩;rw[show b=a+p*k by omega,G_]
theorem Kx (n:Nat)(h:2<=n): ∃q,IsP q/\q∣n/\ ∀d,2<=d->d∣n->q<=d:=by
 have key: ∀k,∀m,m+k=n->(∀d,2<=d->d<m-> ¬d∣n)->2<=m-> ∃q,2<=q/\q∣n/\ ∀d,2<=d->d∣n->q<=d:=by
  intro k
  induction k with
  |zero=>
   intro m hm hl h2;exact⟨n,h,Nat.dvd_refl n,fun d hd hdn=>eW0 fun hlt=>hl d hd (by omega) hdn⟩
  |succ k ih=>
   intro m hm hl h2;by_cases hd:m∣n
   ·exact⟨m,h2,hd,fun d hd2 hdn=>eW0 fun hlt=>hl d hd2 hlt hdn⟩
   ·refine ih (m+1) (by omega) (fun d hd2 hlt=>?_) (by omega);by_cases e:d=m
    ·subst e;exact hd
    ·exact hl d hd2 (by omega)
 obtain⟨q,h2,hq,hl⟩:=key (n-2) 2 (by omega) (fun d h1 h2=>by omega) (c_ _);refine⟨q,⟨h2,fun d hd=>?_⟩,hq,hl⟩;have hdn:=Nat.dvd_trans hd hq;have hdq:=dY0 (by omega) hd;by_cases h1:d=1
 ·exact .inl h1
 ·have:d≠0:=fun e=>by subst e;have:=Nat.eq_zero_of_zero_dvd hd;omega
  exact .inr (Nat.le_antisymm hdq (hl d (by omega) hdn))
def TE:List Nat->Nat
 |[]=>1
 |x::l=>x*TE l
theorem ME {l m:List Nat}(h:l.Perm m):TE l=TE m:=by
 induction h with
 |nil=>rfl
 |cons x _ ih=>simp[TE,ih]
 |swap x y l=>simp only[TE];rw[<-x_,<-x_,t_ x y]
 |trans _ _ h1 h2=>exact h1.trans h2
theorem TF: ∀(l m:List Nat),l.Nodup->(∀x∈l,x∈m)->m.length<=l.length->l.Perm m
 |[],m,_,_,h=>by
  have:m=[]:=gA0.1 (by simpa using h);subst this;exact List.Perm.refl _
 |x::l,m,hn,hs,h=>by
  have hx:x∈m:=hs x (by simp);have hp:=List.perm_cons_erase hx;rw[List.nodup_cons]at hn;refine((TF l (m.erase x) hn.2 (fun y hy=>?_) ?_).cons x).trans hp.symm
  ·have hne:y≠x:=fun e=>hn.1 (e▸hy)
   exact(List.mem_erase_of_ne hne).2 (hs y (by simp[hy]))
  ·rw[List.length_erase_of_mem hx];simp only[bB0]at h;omega
theorem SN {p:Nat}(hp:IsP p): ∀l:List Nat,(∀x∈l,¬p∣x)-> ¬p∣TE l
 |[],_,h=>by
  have h1:p<=1:=dY0 (by decide) h;have:=hp.1;omega
 |x::l,hl,h=>by
  rcases TD hp h with h1|h1
  ·exact hl x (by simp) h1
  ·exact SN hp l (fun y hy=>hl y (by simp[hy])) h1
theorem QB (a p:Nat): ∀l:List Nat,TE (l.map fun x=>a*x%p)%p=a^l.length*TE l%p
 |[]=>by simp[TE]
 |x::l=>by
  have ih:=QB a p l;simp only[dC0,TE,bB0];rw[aH0,ih,dM0,<-aH0]
  congr 1
  rw[cN0];simp only[t_,eH0,x_]
theorem UE {p a b c:Nat}(hp:IsP p)(hc: ¬p∣c)(h:a*c%p=b*c%p):a%p=b%p:=by
 have key: ∀{a b:Nat},a<=b->a*c%p=b*c%p->a%p=b%p:=by
  intro a b hab h;have h1:p∣b*c-a*c:=(RA (z_ c hab)).1 h;rw[<-Nat.sub_mul]at h1;rcases TD hp h1 with h2|h2
  ·exact(RA hab).2 h2
  ·exact absurd h2 hc
 rcases Nat.le_total a b with hab|hab
 ·exact key hab h
 ·exact(key hab h.symm).symm
theorem A5 {p a:Nat}(hp:IsP p)(ha: ¬p∣a):a^(p-1)%p=1:=by
 have hp2:=hp.1
 have hperm:((List.range' 1 (p-1)).map fun x=>a*x%p).Perm (List.range' 1 (p-1)):=by
  refine TF _ _ ?_ ?_ (by simp)
  ·rw[List.Nodup,List.pairwise_map];refine List.Pairwise.imp_of_mem ?_ (List.nodup_range' (s:=1) (n:=p-1));intro x y hx hy hne e;rw[List.mem_range'_1]at hx hy;have:=UE hp ha (a:=x) (b:=y) (by rw[t_ x,t_ y];exact e);rw[g_ (by omega),g_ (by omega)]at this;exact hne this
  ·intro y hy;obtain⟨x,hx,rfl⟩:=eZ0.1 hy;rw[List.mem_range'_1]at hx ⊢;have hlt:=m_ (a*x) (show 0<p by omega)
   have h0:a*x%p≠0:=fun e=>by
    rcases TD hp (dQ0 e)with h1|h1
    ·exact ha h1
    ·have:=dY0 (by omega) h1;omega
   omega
 have h1:=QB a p (List.range' 1 (p-1));rw[ME hperm,List.length_range']at h1
 have hnd: ¬p∣TE (List.range' 1 (p-1)):=SN hp _ fun x hx h=>by
  rw[List.mem_range'_1]at hx;have:=dY0 (by omega) h;omega
 have:=UE hp hnd (a:=1) (b:=a^(p-1)) (by rw[cM0];exact h1);rw[g_ (by omega)]at this;exact this.symm
theorem VO {b x q:Nat}(h:b^x%q=1%q)(k:Nat):b^(x*k)%q=1%q:=by
 rw[iL0,iM0,h,<-iM0,Nat.one_pow]
theorem Ky {b q:Nat}: ∀x y,b^x%q=1%q->b^y%q=1%q->b^(Nat.gcd x y)%q=1%q:=by
 intro x y
 induction x,y using Nat.gcd.induction with
 |H0 y=>intro _ h;rw[Nat.gcd_zero_left];exact h
 |H1 x y hx ih=>
  intro h1 h2;rw[Nat.gcd_rec];refine ih ?_ h1;have e:b^y=b^(x*(y/x))*b^(y%x):=by rw[<-Z_,I_]
  rw[e,aH0,VO h1,<-aH0,cM0]at h2;exact h2
theorem xc {n f b:Nat}(hf:IsP f)(hn:2<=n)(hsq:n<f*f)(hb:b^f%n=1)(hb1:1<=b)(hg:Nat.gcd n (b-1)=1):IsP n:=by
 obtain⟨q,hq,hqn,hl⟩:=Kx n hn;have hq2:=hq.1;have hone:1%q=1:=g_ hq2
 have hbq:b^f%q=1%q:=by
  rw[<-Nat.mod_mod_of_dvd _ hqn,hb]
 have hnb: ¬q∣b:=fun h=>by
  have hf2:=hf.1
  have:q∣b^f:=by
   obtain⟨k,rfl⟩: ∃k,f=k+1:=⟨f-1,by omega⟩
   rw[cN0];exact Nat.dvd_trans h (Nat.dvd_mul_left b _)
  rw[Nat.mod_eq_zero_of_dvd this,hone]at hbq;cases hbq
 have hfe:=A5 hq hnb
 have hfq:f∣q-1:=by
  apply Decidable.byContradiction;intro hnd;have h1:=Ky f (q-1) hbq (hfe.trans hone.symm);rw[VN hf hnd,hG0]at h1;have h2:q∣b-1:=(RA hb1).1 h1.symm;have:=dY0 (by decide) (hg▸Nat.dvd_gcd hqn h2);omega
 have hle:=dY0 (by omega) hfq;refine⟨hn,fun d hd=>?_⟩;obtain⟨e,he⟩:=hd;by_cases h1:d=1
 ·exact .inl h1
 by_cases h2:e=1
 ·subst h2;exact .inr (by omega)
 exfalso
 have hd0:d≠0:=fun h=>by subst h;omega
 have he0:e≠0:=fun h=>by subst h;omega
 have hd1:=hl d (by omega) ⟨e,he⟩;have he1:=hl e (by omega) ⟨d,by rw[he,t_]⟩;have h3:f*f<=d*e:=L_ (by omega) (by omega);omega
def TG (n:Nat):Nat->Nat->Bool
 |0,_=>true
 |f+1,d=>if n<d*d then true else if n%d=0 then false else TG n f (d+1)
theorem QC (n:Nat): ∀f d,TG n f d=true↔ ∀e,d<=e->e<d+f->e*e<=n->n%e≠0
 |0,d=>by
  constructor
  ·intro _ e h1 h2;omega
  ·intro _;rfl
 |f+1,d=>by
  unfold TG;by_cases h1:n<d*d
  ·rw[j_ h1];refine⟨fun _ e he _ hn=>?_,fun _=>rfl⟩;have:d*d<=e*e:=L_ he he;omega
  ·rw[i_ h1];by_cases h2:n%d=0
   ·rw[j_ h2];constructor
    ·intro h;cases h
    ·intro h;exact absurd h2 (h d (c_ _) (by omega) (by omega))
   ·rw[i_ h2,QC n f (d+1)];constructor
    ·intro h e h3 h4 h5;by_cases e1:e=d
     ·subst e1;exact h2
     ·exact h e (by omega) (by omega) h5
    ·intro h e h3 h4 h5;exact h e (by omega) (by omega) h5
theorem QD (n f:Nat)(hf: ∀e,e*e<=n->e<2+f):TG n f 2=true↔ ∀e,2<=e->e*e<=n->n%e≠0:=by
 rw[QC];exact⟨fun h e h1 h2=>h e h1 (hf e h2) h2,fun h e h1 _ h2=>h e h1 h2⟩
theorem H7 (n e:Nat)(h:e*e<=n):e<2+n:=by
 have:=Nat.le_mul_self e;omega
theorem QE {n:Nat}(h2:2<=n)(h: ∀e,2<=e->e*e<=n->n%e≠0):IsP n:=by
 refine⟨h2,fun d hd=>?_⟩;obtain⟨e,he⟩:=hd;by_cases h1:d=1
 ·exact .inl h1
 by_cases h3:e=1
 ·subst h3;exact .inr (by omega)
 exfalso
 have hd0:d≠0:=fun x=>by subst x;omega
 have he0:e≠0:=fun x=>by subst x;omega
 rcases Nat.le_total d e with hde|hde
 ·exact h d (by omega) (by rw[he];exact R_ d hde) (by rw[he];exact Nat.mul_mod_right d e)
 ·exact h e (by omega) (by rw[he];exact z_ e hde) (by rw[he];exact fP0 d e)
def smN (n:Nat):Bool:=decide (2<=n)&&(decide (n<65536)&&TG n n 2)
def smI (z:Int):Bool:=decide (2<=z)&&(decide (z<65536)&&TG z.toNat z.toNat 2)
theorem CA (n:Nat):smI (n:Int)=smN n:=by
 unfold smI smN;rw[q_,show decide ((2:Int)<=(n:Int))=decide (2<=n)from cK0.2 (by omega),show decide ((n:Int)<65536)=decide (n<65536)from cK0.2 (by omega)]
theorem CB {n:Nat}(h:smN n=true):IsP n:=by
 unfold smN at h;rw[s_,s_,X_,X_]at h;exact QE h.1 ((QD n n (H7 n)).1 h.2.2)
def CD (N F:Nat):Bool:=decide (N%2=1)&&(decide (N≠1)&&(decide (F≠0)&&(decide ((N-1)%F=0)&&decide (N<F*F))))
def shN (N F a:Nat):Bool:=decide ((a^((N-1)/F)%N)^F%N=1)&&decide (Nat.gcd N (a^((N-1)/F)%N-1)=1)
def stN (N F:Nat)(z:Int):Bool:=decide (2<=z)&&(decide (z<=65535)&&(CD N F&&shN N F z.toNat))
set_option maxRecDepth 100000 in
theorem CE {N F:Nat}{z:Int}(hF:IsP F)(h:stN N F z=true):IsP N:=by
 unfold stN CD shN at h;simp only[s_,X_]at h;obtain⟨_,_,⟨h1,h2,h3,h4,h5⟩,h6,h7⟩:=h;have hN:2<=N:=by omega
 refine xc hF hN h5 h6 ?_ h7;rcases aK0 (z.toNat^((N-1)/F)%N)with h0|h0
 ·rw[h0,Nat.zero_pow (by omega),eN0]at h6;cases h6
 ·exact h0
def lkN (N:Nat->Nat)(A:Nat->Int):Nat->Bool
 |0=>true
 |k+1=>lkN N A k&&stN (N (k+1)) (N k) (A (k+1))
theorem P4 (N:Nat->Nat)(A:Nat->Int): ∀n,lkN N A n=true↔ ∀k,k<n->stN (N (k+1)) (N k) (A (k+1))=true
 |0=>⟨fun _ k hk=>by omega,fun _=>rfl⟩
 |n+1=>by
  unfold lkN;rw[s_,P4 N A n];constructor
  ·rintro⟨h1,h2⟩ k hk;by_cases e:k=n
   ·subst e;exact h2
   ·exact h1 k (by omega)
  ·intro h;exact⟨fun k hk=>h k (by omega),h n (by omega)⟩
def chN (n:Nat)(N:Nat->Nat)(A:Nat->Int):Bool:=decide (1<=n)&&(decide (n<=8)&&(smN (N 0)&&(decide (A 0=0)&&lkN N A (n-1))))
set_option maxRecDepth 100000 in
theorem RB {n:Nat}{N:Nat->Nat}{A:Nat->Int}(h:chN n N A=true): ∀k,k<n->IsP (N k):=by
 unfold chN at h;simp only[s_,X_]at h;obtain⟨_,_,h1,_,h2⟩:=h;rw[P4]at h2;intro k
 induction k with
 |zero=>intro _;exact CB h1
 |succ k ih=>intro hk;exact CE (ih (by omega)) (h2 k (by omega))
def pwf (n:Nat):Nat->Nat->Nat->Nat
 |0,_,_=>1%n
 |f+1,a,e=>if e%2=1 then pwf n f (a*a%n) (e/2)*a%n else pwf n f (a*a%n) (e/2)
theorem Nl (n:Nat): ∀f a e,e<2^f->pwf n f a e=a^e%n
 |0,a,e,h=>by
  obtain rfl:e=0:=by simp at h;omega
  unfold pwf;rw[W_]
 |f+1,a,e,h=>by
  have h2:e/2<2^f:=by rw[cN0]at h;omega
  unfold pwf;rw[Nl n f _ _ h2,<-iM0];have hsq:(a*a)^(e/2)=a^(2*(e/2)):=by rw[iL0,Nat.pow_two]
  by_cases ho:e%2=1
  ·rw[j_ ho,hsq,fD0,<-cN0,show(2*(e/2)).succ=e by omega]
  ·rw[i_ ho,hsq,show 2*(e/2)=e by omega]
def stC (N F a:Nat):Bool:=decide (2<=a)&&(decide (a<=65535)&&(CD N F&&(decide (pwf N 256 (pwf N 256 a ((N-1)/F)) F=1)&&decide (Nat.gcd N (pwf N 256 a ((N-1)/F)-1)=1))))
theorem A6 {N F a:Nat}(hN:N<2^256)(hF:F<2^256)(h:stC N F a=true):stN N F (a:Int)=true:=by
 unfold stC at h;rw[Nl N 256 _ F hF,Nl N 256 a _ (T_ (f_ (bP0 _ _) (Nat.sub_le _ _)) hN)]at h;unfold stN shN;rw[q_,show decide ((2:Int)<=(a:Int))=decide (2<=a)from cK0.2 (by omega),show decide ((a:Int)<=65535)=decide (a<=65535)from cK0.2 (by omega)];exact h
def grN (n:Nat)(N:Nat->Nat)(A:Nat->Int)(G:Nat):Bool:=
 decide (2<=n)&&(chN n N A&&(decide (512<=N (n-2))&&(decide (G≠0)&&(decide (G≠1)&&(decide (G<N (n-1))&&decide (G^N (n-2)%N (n-1)=1))))))
theorem P5 (n:Nat)(N:Nat->Nat)(A:Nat->Int)(G:Nat):grN n N A G=true↔2<=n/\chN n N A=true/\512<=N (n-2)/\G≠0/\G≠1/\G<N (n-1)/\G^N (n-2)%N (n-1)=1:=by
 unfold grN;simp only[s_,X_]
def leL:List Nat:=[65521,1966023127,1055500680322183127]
def otL:List Nat:=[64817,1815135269,487269091447081429]
def grL:List Nat:=[65519,1313918027,88175567203779761,6353719225633997551192976661815171,128868735840905246597005622286753383510486359307609845843856143183]
def leG:Nat:=316543771439780984
def otG:Nat:=54624333139524128
def grG:Nat:=9151157341667469615800997130231454865425018181917904921479972729
def lN (l:List Nat)(k:Nat):Nat:=l.getD k 0
def Pz (k:Nat):Int:=if k=0 then 0 else 2
def lkB (l:List Nat):Nat->Bool
 |0=>true
 |k+1=>lkB l k&&(decide (lN l (k+1)<2^256)&&(decide (lN l k<2^256)&&stC (lN l (k+1)) (lN l k) 2))
theorem EG (l:List Nat): ∀n,lkB l n=true->lkN (lN l) Pz n=true
 |0,_=>rfl
 |n+1,h=>by
  unfold lkB at h;rw[s_,s_,s_,X_,X_]at h;unfold lkN;rw[EG l n h.1];have:=A6 h.2.1 h.2.2.1 h.2.2.2;show(true&&stN (lN l (n+1)) (lN l n) ((2:Nat):Int))=true
  rw[this];rfl
def grC (l:List Nat)(G:Nat):Bool:=
 decide (2<=l.length)&&(decide (l.length<=8)&&(smN (lN l 0)&&(lkB l (l.length-1)&&(decide (512<=lN l (l.length-2))&&(decide (lN l (l.length-2)<2^256)&&(decide (G≠0)&&(decide (G≠1)&&(decide (G<lN l (l.length-1))&&decide (pwf (lN l (l.length-1)) 256 G (lN l (l.length-2))=1)))))))))
theorem EH (l:List Nat)(G:Nat)(h:grC l G=true):grN l.length (lN l) Pz G=true:=by
 unfold grC at h;simp only[s_,X_]at h;obtain⟨h1,h2,h3,h4,h5,h6,h7,h8,h9,h10⟩:=h;rw[Nl _ 256 _ _ h6]at h10;rw[P5];refine⟨h1,?_,h5,h7,h8,h9,h10⟩;unfold chN;rw[h3,EG l _ h4,d_ h2,d_ (show 1<=l.length by omega),d_ (show Pz 0=0 from rfl)];rfl
set_option maxRecDepth 1000000 in
theorem Nm:grN 3 (lN leL) Pz leG=true:=EH leL leG (by kernel_rfl)
set_option maxRecDepth 1000000 in
theorem Ga:grN 3 (lN otL) Pz otG=true:=EH otL otG (by kernel_rfl)
theorem MF {n:Nat}{N:Nat->Nat}{A:Nat->Int}{G:Nat}(h:grN n N A G=true):IsP (N (n-1))/\IsP (N (n-2)):=by
 obtain⟨h1,h2,_⟩:=(P5 n N A G).1 h;exact⟨RB h2 _ (by omega),RB h2 _ (by omega)⟩
theorem Kz {p q g:Nat}(hp:2<=p)(h:g^q%p=1)(a:Nat):g^a%p=g^(a%q)%p:=by
 have h1:g^q%p=1%p:=by rw[h,g_ (by omega)]
 have e:g^a=g^(q*(a/q))*g^(a%q):=by rw[<-Z_,I_]
 rw[e,aH0,VO h1,<-aH0,cM0]
theorem KA {p q g:Nat}(hp:2<=p)(h:g^q%p=1)(a:Nat):(g^a%p)^q%p=1:=by
 have h1:g^q%p=1%p:=by rw[h,g_ (by omega)]
 rw[<-iM0,<-iL0,t_,VO h1,g_ (by omega)]
theorem Gb {p q g:Nat}(hp:IsP p)(hq:IsP q)(h0:g≠0)(h1:g≠1)(hlt:g<p)(hpow:g^q%p=1)(a b:Nat):g^a%p=g^b%p↔a%q=b%q:=by
 have hp2:=hp.1;have hone:1%p=1:=g_ hp2
 have hnd: ¬p∣g:=fun h=>by have:=dY0 (by omega) h;omega
 have hndp: ∀k,¬p∣g^k:=by
  intro k
  induction k with
  |zero=>intro h;have:=dY0 (by simp) h;simp at this;omega
  |succ k ih=>
   intro h;rw[cN0]at h;rcases TD hp h with h|h
   ·exact ih h
   ·exact hnd h
 have key: ∀{a b:Nat},a<=b->g^a%p=g^b%p->a%q=b%q:=by
  intro a b hab he
  have h2:g^(b-a)%p=1:=by
   have e:1*g^a%p=g^(b-a)*g^a%p:=by rw[cM0,<-Z_,show b-a+a=b by omega];exact he
   rw[<-hone];exact(UE hp (hndp a) e).symm
  rw[RA hab];rcases hq.2 _ (Nat.gcd_dvd_left q (b-a))with hg|hg
  ·have h3:=Ky (b:=g) (q:=p) q (b-a) (by rw[hpow,hone]) (by rw[h2,hone]);rw[hg,hG0,hone,g_ hlt]at h3;exact absurd h3 h1
  ·rw[<-hg];exact Nat.gcd_dvd_right q (b-a)
 constructor
 ·intro he;rcases Nat.le_total a b with hab|hab
  ·exact key hab he
  ·exact(key hab he.symm).symm
 ·intro he;rw[Kz hp2 hpow a,Kz hp2 hpow b,he]
end Go.Proofs.YtnagnkhbamhfmaaGreatDoor
