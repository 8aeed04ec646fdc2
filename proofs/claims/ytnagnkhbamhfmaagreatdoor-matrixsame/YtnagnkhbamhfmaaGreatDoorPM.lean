import Derived.Test.YtnagnkhbamhfmaaGreatDoorGS
import Derived.KernelRfl
namespace Go.Proofs.YtnagnkhbamhfmaaGreatDoor
set_option linter.all false
def IsP (n:Nat):Prop:=2<=n/\ ∀d,d∣n->d=1∨d=n
theorem W7 {p a:Nat}(hp:IsP p)(h: ¬p∣a):Nat.gcd p a=1:=by
 rcases hp.2 _ (Nat.gcd_dvd_left p a)with h1|h1
 ·exact h1
 ·exact absurd (h1▸Nat.gcd_dvd_right p a) h
theorem UV {p a b:Nat}(hp:IsP p)(h:p∣a*b):p∣a∨p∣b:=by
 by_cases ha:p∣a
 ·exact .inl ha
 ·exact .inr ((Nat.Coprime.dvd_of_dvd_mul_left (W7 hp ha)) h)
theorem SE {a b p:Nat}(h:a<=b):a%p=b%p↔p∣b-a:=by
 constructor
 ·intro e;exact Nat.dvd_of_mod_eq_zero (Nat.sub_mod_eq_zero_of_mod_eq e.symm)
 ·rintro⟨k,hk⟩;rw[show b=a+p*k by omega,Nat.add_mul_mod_self_left]
theorem Ly (n:Nat)(h:2<=n): ∃q,IsP q/\q∣n/\ ∀d,2<=d->d∣n->q<=d:=by
 have key: ∀k,∀m,m+k=n->(∀d,2<=d->d<m-> ¬d∣n)->2<=m-> ∃q,2<=q/\q∣n/\ ∀d,2<=d->d∣n->q<=d:=by
  intro k
  induction k with
  |zero=>
   intro m hm hl h2;exact⟨n,h,Nat.dvd_refl n,fun d hd hdn=>Nat.le_of_not_lt fun hlt=>hl d hd (by omega) hdn⟩
  |succ k ih=>
   intro m hm hl h2;by_cases hd:m∣n
   ·exact⟨m,h2,hd,fun d hd2 hdn=>Nat.le_of_not_lt fun hlt=>hl d hd2 hlt hdn⟩
   ·refine ih (m+1) (by omega) (fun d hd2 hlt=>?_) (by omega);by_cases e:d=m
    ·subst e;exact hd
    ·exact hl d hd2 (by omega)
 obtain⟨q,h2,hq,hl⟩:=key (n-2) 2 (by omega) (fun d h1 h2=>by omega) (Nat.le_refl _);refine⟨q,⟨h2,fun d hd=>?_⟩,hq,hl⟩;have hdn:=Nat.dvd_trans hd hq;have hdq:=Nat.le_of_dvd (by omega) hd;by_cases h1:d=1
 ·exact .inl h1
 ·have:d≠0:=fun e=>by subst e;have:=Nat.eq_zero_of_zero_dvd hd;omega
  exact .inr (Nat.le_antisymm hdq (hl d (by omega) hdn))
def UW:List Nat->Nat
 |[]=>1
 |x::l=>x*UW l
theorem NE {l m:List Nat}(h:l.Perm m):UW l=UW m:=by
 induction h with
 |nil=>rfl
 |cons x _ ih=>simp[UW,ih]
 |swap x y l=>simp only[UW];rw[<-Nat.mul_assoc,<-Nat.mul_assoc,Nat.mul_comm x y]
 |trans _ _ h1 h2=>exact h1.trans h2
theorem UX: ∀(l m:List Nat),l.Nodup->(∀x∈l,x∈m)->m.length<=l.length->l.Perm m
 |[],m,_,_,h=>by
  have:m=[]:=List.length_eq_zero_iff.1 (by simpa using h);subst this;exact List.Perm.refl _
 |x::l,m,hn,hs,h=>by
  have hx:x∈m:=hs x (by simp);have hp:=List.perm_cons_erase hx;rw[List.nodup_cons]at hn;refine((UX l (m.erase x) hn.2 (fun y hy=>?_) ?_).cons x).trans hp.symm
  ·have hne:y≠x:=fun e=>hn.1 (e▸hy)
   exact(List.mem_erase_of_ne hne).2 (hs y (by simp[hy]))
  ·rw[List.length_erase_of_mem hx];simp only[List.length_cons]at h;omega
theorem TY {p:Nat}(hp:IsP p): ∀l:List Nat,(∀x∈l,¬p∣x)-> ¬p∣UW l
 |[],_,h=>by
  have h1:p<=1:=Nat.le_of_dvd (by decide) h;have:=hp.1;omega
 |x::l,hl,h=>by
  rcases UV hp h with h1|h1
  ·exact hl x (by simp) h1
  ·exact TY hp l (fun y hy=>hl y (by simp[hy])) h1
theorem RQ (a p:Nat): ∀l:List Nat,UW (l.map fun x=>a*x%p)%p=a^l.length*UW l%p
 |[]=>by simp[UW]
 |x::l=>by
  have ih:=RQ a p l;simp only[List.map_cons,UW,List.length_cons];rw[Nat.mul_mod,ih,Nat.mod_mod,<-Nat.mul_mod]
  congr 1
  rw[Nat.pow_succ];simp only[Nat.mul_comm,Nat.mul_left_comm,Nat.mul_assoc]
theorem V0 {p a b c:Nat}(hp:IsP p)(hc: ¬p∣c)(h:a*c%p=b*c%p):a%p=b%p:=by
 have key: ∀{a b:Nat},a<=b->a*c%p=b*c%p->a%p=b%p:=by
  intro a b hab h;have h1:p∣b*c-a*c:=(SE (Nat.mul_le_mul_right c hab)).1 h;rw[<-Nat.sub_mul]at h1;rcases UV hp h1 with h2|h2
  ·exact(SE hab).2 h2
  ·exact absurd h2 hc
 rcases Nat.le_total a b with hab|hab
 ·exact key hab h
 ·exact(key hab h.symm).symm
theorem C7 {p a:Nat}(hp:IsP p)(ha: ¬p∣a):a^(p-1)%p=1:=by
 have hp2:=hp.1
 have hperm:((List.range' 1 (p-1)).map fun x=>a*x%p).Perm (List.range' 1 (p-1)):=by
  refine UX _ _ ?_ ?_ (by simp)
  ·rw[List.Nodup,List.pairwise_map];refine List.Pairwise.imp_of_mem ?_ (List.nodup_range' (s:=1) (n:=p-1));intro x y hx hy hne e;rw[List.mem_range'_1]at hx hy;have:=V0 hp ha (a:=x) (b:=y) (by rw[Nat.mul_comm x,Nat.mul_comm y];exact e);rw[Nat.mod_eq_of_lt (by omega),Nat.mod_eq_of_lt (by omega)]at this;exact hne this
  ·intro y hy;obtain⟨x,hx,rfl⟩:=List.mem_map.1 hy;rw[List.mem_range'_1]at hx ⊢;have hlt:=Nat.mod_lt (a*x) (show 0<p by omega)
   have h0:a*x%p≠0:=fun e=>by
    rcases UV hp (Nat.dvd_of_mod_eq_zero e)with h1|h1
    ·exact ha h1
    ·have:=Nat.le_of_dvd (by omega) h1;omega
   omega
 have h1:=RQ a p (List.range' 1 (p-1));rw[NE hperm,List.length_range']at h1
 have hnd: ¬p∣UW (List.range' 1 (p-1)):=TY hp _ fun x hx h=>by
  rw[List.mem_range'_1]at hx;have:=Nat.le_of_dvd (by omega) h;omega
 have:=V0 hp hnd (a:=1) (b:=a^(p-1)) (by rw[Nat.one_mul];exact h1);rw[Nat.mod_eq_of_lt (by omega)]at this;exact this.symm
theorem W8 {b x q:Nat}(h:b^x%q=1%q)(k:Nat):b^(x*k)%q=1%q:=by
 rw[Nat.pow_mul,Nat.pow_mod,h,<-Nat.pow_mod,Nat.one_pow]
theorem Lz {b q:Nat}: ∀x y,b^x%q=1%q->b^y%q=1%q->b^(Nat.gcd x y)%q=1%q:=by
 intro x y
 induction x,y using Nat.gcd.induction with
 |H0 y=>intro _ h;rw[Nat.gcd_zero_left];exact h
 |H1 x y hx ih=>
  intro h1 h2;rw[Nat.gcd_rec];refine ih ?_ h1;have e:b^y=b^(x*(y/x))*b^(y%x):=by rw[<-Nat.pow_add,Nat.div_add_mod]
  rw[e,Nat.mul_mod,W8 h1,<-Nat.mul_mod,Nat.one_mul]at h2;exact h2
theorem AU {n f b:Nat}(hf:IsP f)(hn:2<=n)(hsq:n<f*f)(hb:b^f%n=1)(hb1:1<=b)(hg:Nat.gcd n (b-1)=1):IsP n:=by
 obtain⟨q,hq,hqn,hl⟩:=Ly n hn;have hq2:=hq.1;have hone:1%q=1:=Nat.mod_eq_of_lt hq2
 have hbq:b^f%q=1%q:=by
  rw[<-Nat.mod_mod_of_dvd _ hqn,hb]
 have hnb: ¬q∣b:=fun h=>by
  have hf2:=hf.1
  have:q∣b^f:=by
   obtain⟨k,rfl⟩: ∃k,f=k+1:=⟨f-1,by omega⟩
   rw[Nat.pow_succ];exact Nat.dvd_trans h (Nat.dvd_mul_left b _)
  rw[Nat.mod_eq_zero_of_dvd this,hone]at hbq;cases hbq
 have hfe:=C7 hq hnb
 have hfq:f∣q-1:=by
  apply Decidable.byContradiction;intro hnd;have h1:=Lz f (q-1) hbq (hfe.trans hone.symm);rw[W7 hf hnd,Nat.pow_one]at h1;have h2:q∣b-1:=(SE hb1).1 h1.symm;have:=Nat.le_of_dvd (by decide) (hg▸Nat.dvd_gcd hqn h2);omega
 have hle:=Nat.le_of_dvd (by omega) hfq;refine⟨hn,fun d hd=>?_⟩;obtain⟨e,he⟩:=hd;by_cases h1:d=1
 ·exact .inl h1
 by_cases h2:e=1
 ·subst h2;exact .inr (by omega)
 exfalso
 have hd0:d≠0:=fun h=>by subst h;omega
 have he0:e≠0:=fun h=>by subst h;omega
 have hd1:=hl d (by omega) ⟨e,he⟩;have he1:=hl e (by omega) ⟨d,by rw[he,Nat.mul_comm]⟩;have h3:f*f<=d*e:=Nat.mul_le_mul (by omega) (by omega);omega
def UY (n:Nat):Nat->Nat->Bool
 |0,_=>true
 |f+1,d=>if n<d*d then true else if n%d=0 then false else UY n f (d+1)
theorem RS (n:Nat): ∀f d,UY n f d=true↔ ∀e,d<=e->e<d+f->e*e<=n->n%e≠0
 |0,d=>by
  constructor
  ·intro _ e h1 h2;omega
  ·intro _;rfl
 |f+1,d=>by
  unfold UY;by_cases h1:n<d*d
  ·rw[if_pos h1];refine⟨fun _ e he _ hn=>?_,fun _=>rfl⟩;have:d*d<=e*e:=Nat.mul_le_mul he he;omega
  ·rw[if_neg h1];by_cases h2:n%d=0
   ·rw[if_pos h2];constructor
    ·intro h;cases h
    ·intro h;exact absurd h2 (h d (Nat.le_refl _) (by omega) (by omega))
   ·rw[if_neg h2,RS n f (d+1)];constructor
    ·intro h e h3 h4 h5;by_cases e1:e=d
     ·subst e1;exact h2
     ·exact h e (by omega) (by omega) h5
    ·intro h e h3 h4 h5;exact h e (by omega) (by omega) h5
theorem RU (n f:Nat)(hf: ∀e,e*e<=n->e<2+f):UY n f 2=true↔ ∀e,2<=e->e*e<=n->n%e≠0:=by
 rw[RS];exact⟨fun h e h1 h2=>h e h1 (hf e h2) h2,fun h e h1 _ h2=>h e h1 h2⟩
theorem Iu (n e:Nat)(h:e*e<=n):e<2+n:=by
 have:=Nat.le_mul_self e;omega
theorem RV {n:Nat}(h2:2<=n)(h: ∀e,2<=e->e*e<=n->n%e≠0):IsP n:=by
 refine⟨h2,fun d hd=>?_⟩;obtain⟨e,he⟩:=hd;by_cases h1:d=1
 ·exact .inl h1
 by_cases h3:e=1
 ·subst h3;exact .inr (by omega)
 exfalso
 have hd0:d≠0:=fun x=>by subst x;omega
 have he0:e≠0:=fun x=>by subst x;omega
 rcases Nat.le_total d e with hde|hde
 ·exact h d (by omega) (by rw[he];exact Nat.mul_le_mul_left d hde) (by rw[he];exact Nat.mul_mod_right d e)
 ·exact h e (by omega) (by rw[he];exact Nat.mul_le_mul_right e hde) (by rw[he];exact Nat.mul_mod_left d e)
def smN (n:Nat):Bool:=decide (2<=n)&&(decide (n<65536)&&UY n n 2)
def smI (z:Int):Bool:=decide (2<=z)&&(decide (z<65536)&&UY z.toNat z.toNat 2)
theorem ER (n:Nat):smI (n:Int)=smN n:=by
 unfold smI smN;rw[Int.toNat_natCast,show decide ((2:Int)<=(n:Int))=decide (2<=n)from decide_eq_decide.2 (by omega),show decide ((n:Int)<65536)=decide (n<65536)from decide_eq_decide.2 (by omega)]
theorem ES {n:Nat}(h:smN n=true):IsP n:=by
 unfold smN at h;rw[Bool.and_eq_true,Bool.and_eq_true,decide_eq_true_iff,decide_eq_true_iff]at h;exact RV h.1 ((RU n n (Iu n)).1 h.2.2)
def ET (N F:Nat):Bool:=decide (N%2=1)&&(decide (N≠1)&&(decide (F≠0)&&(decide ((N-1)%F=0)&&decide (N<F*F))))
def shN (N F a:Nat):Bool:=decide ((a^((N-1)/F)%N)^F%N=1)&&decide (Nat.gcd N (a^((N-1)/F)%N-1)=1)
def stN (N F:Nat)(z:Int):Bool:=decide (2<=z)&&(decide (z<=65535)&&(ET N F&&shN N F z.toNat))
set_option maxRecDepth 100000 in
theorem EU {N F:Nat}{z:Int}(hF:IsP F)(h:stN N F z=true):IsP N:=by
 unfold stN ET shN at h;simp only[Bool.and_eq_true,decide_eq_true_iff]at h;obtain⟨_,_,⟨h1,h2,h3,h4,h5⟩,h6,h7⟩:=h;have hN:2<=N:=by omega
 refine AU hF hN h5 h6 ?_ h7;rcases Nat.eq_zero_or_pos (z.toNat^((N-1)/F)%N)with h0|h0
 ·rw[h0,Nat.zero_pow (by omega),Nat.zero_mod]at h6;cases h6
 ·exact h0
def lkN (N:Nat->Nat)(A:Nat->Int):Nat->Bool
 |0=>true
 |k+1=>lkN N A k&&stN (N (k+1)) (N k) (A (k+1))
theorem Q4 (N:Nat->Nat)(A:Nat->Int): ∀n,lkN N A n=true↔ ∀k,k<n->stN (N (k+1)) (N k) (A (k+1))=true
 |0=>⟨fun _ k hk=>by omega,fun _=>rfl⟩
 |n+1=>by
  unfold lkN;rw[Bool.and_eq_true,Q4 N A n];constructor
  ·rintro⟨h1,h2⟩ k hk;by_cases e:k=n
   ·subst e;exact h2
   ·exact h1 k (by omega)
  ·intro h;exact⟨fun k hk=>h k (by omega),h n (by omega)⟩
def chN (n:Nat)(N:Nat->Nat)(A:Nat->Int):Bool:=decide (1<=n)&&(decide (n<=8)&&(smN (N 0)&&(decide (A 0=0)&&lkN N A (n-1))))
set_option maxRecDepth 100000 in
theorem SF {n:Nat}{N:Nat->Nat}{A:Nat->Int}(h:chN n N A=true): ∀k,k<n->IsP (N k):=by
 unfold chN at h;simp only[Bool.and_eq_true,decide_eq_true_iff]at h;obtain⟨_,_,h1,_,h2⟩:=h;rw[Q4]at h2;intro k
 induction k with
 |zero=>intro _;exact ES h1
 |succ k ih=>intro hk;exact EU (ih (by omega)) (h2 k (by omega))
def pwf (n:Nat):Nat->Nat->Nat->Nat
 |0,_,_=>1%n
 |f+1,a,e=>if e%2=1 then pwf n f (a*a%n) (e/2)*a%n else pwf n f (a*a%n) (e/2)
theorem On (n:Nat): ∀f a e,e<2^f->pwf n f a e=a^e%n
 |0,a,e,h=>by
  obtain rfl:e=0:=by simp at h;omega
  unfold pwf;rw[Nat.pow_zero]
 |f+1,a,e,h=>by
  have h2:e/2<2^f:=by rw[Nat.pow_succ]at h;omega
  unfold pwf;rw[On n f _ _ h2,<-Nat.pow_mod];have hsq:(a*a)^(e/2)=a^(2*(e/2)):=by rw[Nat.pow_mul,Nat.pow_two]
  by_cases ho:e%2=1
  ·rw[if_pos ho,hsq,Nat.mod_mul_mod,<-Nat.pow_succ,show(2*(e/2)).succ=e by omega]
  ·rw[if_neg ho,hsq,show 2*(e/2)=e by omega]
def stC (N F a:Nat):Bool:=decide (2<=a)&&(decide (a<=65535)&&(ET N F&&(decide (pwf N 256 (pwf N 256 a ((N-1)/F)) F=1)&&decide (Nat.gcd N (pwf N 256 a ((N-1)/F)-1)=1))))
theorem C8 {N F a:Nat}(hN:N<2^256)(hF:F<2^256)(h:stC N F a=true):stN N F (a:Int)=true:=by
 unfold stC at h;rw[On N 256 _ F hF,On N 256 a _ (Nat.lt_of_le_of_lt (Nat.le_trans (Nat.div_le_self _ _) (Nat.sub_le _ _)) hN)]at h;unfold stN shN;rw[Int.toNat_natCast,show decide ((2:Int)<=(a:Int))=decide (2<=a)from decide_eq_decide.2 (by omega),show decide ((a:Int)<=65535)=decide (a<=65535)from decide_eq_decide.2 (by omega)];exact h
def grN (n:Nat)(N:Nat->Nat)(A:Nat->Int)(G:Nat):Bool:=
 decide (2<=n)&&(chN n N A&&(decide (512<=N (n-2))&&(decide (G≠0)&&(decide (G≠1)&&(decide (G<N (n-1))&&decide (G^N (n-2)%N (n-1)=1))))))
theorem Q5 (n:Nat)(N:Nat->Nat)(A:Nat->Int)(G:Nat):grN n N A G=true↔2<=n/\chN n N A=true/\512<=N (n-2)/\G≠0/\G≠1/\G<N (n-1)/\G^N (n-2)%N (n-1)=1:=by
 unfold grN;simp only[Bool.and_eq_true,decide_eq_true_iff]
def leL:List Nat:=[65521,1966023127,1055500680322183127]
def otL:List Nat:=[64817,1815135269,487269091447081429]
def grL:List Nat:=[65519,1313918027,88175567203779761,6353719225633997551192976661815171,128868735840905246597005622286753383510486359307609845843856143183]
def leG:Nat:=316543771439780984
def otG:Nat:=54624333139524128
def grG:Nat:=9151157341667469615800997130231454865425018181917904921479972729
def lN (l:List Nat)(k:Nat):Nat:=l.getD k 0
def Um (k:Nat):Int:=if k=0 then 0 else 2
def lkB (l:List Nat):Nat->Bool
 |0=>true
 |k+1=>lkB l k&&(decide (lN l (k+1)<2^256)&&(decide (lN l k<2^256)&&stC (lN l (k+1)) (lN l k) 2))
theorem G6 (l:List Nat): ∀n,lkB l n=true->lkN (lN l) Um n=true
 |0,_=>rfl
 |n+1,h=>by
  unfold lkB at h;rw[Bool.and_eq_true,Bool.and_eq_true,Bool.and_eq_true,decide_eq_true_iff,decide_eq_true_iff]at h;unfold lkN;rw[G6 l n h.1];have:=C8 h.2.1 h.2.2.1 h.2.2.2;show(true&&stN (lN l (n+1)) (lN l n) ((2:Nat):Int))=true
  rw[this];rfl
def grC (l:List Nat)(G:Nat):Bool:=
 decide (2<=l.length)&&(decide (l.length<=8)&&(smN (lN l 0)&&(lkB l (l.length-1)&&(decide (512<=lN l (l.length-2))&&(decide (lN l (l.length-2)<2^256)&&(decide (G≠0)&&(decide (G≠1)&&(decide (G<lN l (l.length-1))&&decide (pwf (lN l (l.length-1)) 256 G (lN l (l.length-2))=1)))))))))
theorem LA (l:List Nat)(G:Nat)(h:grC l G=true):grN l.length (lN l) Um G=true:=by
 unfold grC at h;simp only[Bool.and_eq_true,decide_eq_true_iff]at h;obtain⟨h1,h2,h3,h4,h5,h6,h7,h8,h9,h10⟩:=h;rw[On _ 256 _ _ h6]at h10;rw[Q5];refine⟨h1,?_,h5,h7,h8,h9,h10⟩;unfold chN;rw[h3,G6 l _ h4,decide_eq_true h2,decide_eq_true (show 1<=l.length by omega),decide_eq_true (show Um 0=0 from rfl)];rfl
set_option maxRecDepth 1000000 in
theorem SG:grN 3 (lN leL) Um leG=true:=LA leL leG (by kernel_rfl)
set_option maxRecDepth 1000000 in
theorem Oo:grN 3 (lN otL) Um otG=true:=LA otL otG (by kernel_rfl)
set_option maxRecDepth 1000000 in
theorem Iw:grN 5 (lN grL) Um grG=true:=LA grL grG (by kernel_rfl)
theorem NF {n:Nat}{N:Nat->Nat}{A:Nat->Int}{G:Nat}(h:grN n N A G=true):IsP (N (n-1))/\IsP (N (n-2)):=by
 obtain⟨h1,h2,_⟩:=(Q5 n N A G).1 h;exact⟨SF h2 _ (by omega),SF h2 _ (by omega)⟩
theorem LB {p q g:Nat}(hp:2<=p)(h:g^q%p=1)(a:Nat):g^a%p=g^(a%q)%p:=by
 have h1:g^q%p=1%p:=by rw[h,Nat.mod_eq_of_lt (by omega)]
 have e:g^a=g^(q*(a/q))*g^(a%q):=by rw[<-Nat.pow_add,Nat.div_add_mod]
 rw[e,Nat.mul_mod,W8 h1,<-Nat.mul_mod,Nat.one_mul]
theorem LC {p q g:Nat}(hp:2<=p)(h:g^q%p=1)(a:Nat):(g^a%p)^q%p=1:=by
 have h1:g^q%p=1%p:=by rw[h,Nat.mod_eq_of_lt (by omega)]
 rw[<-Nat.pow_mod,<-Nat.pow_mul,Nat.mul_comm,W8 h1,Nat.mod_eq_of_lt (by omega)]
theorem Ix {p q g:Nat}(hp:IsP p)(hq:IsP q)(h0:g≠0)(h1:g≠1)(hlt:g<p)(hpow:g^q%p=1)(a b:Nat):g^a%p=g^b%p↔a%q=b%q:=by
 have hp2:=hp.1;have hone:1%p=1:=Nat.mod_eq_of_lt hp2
 have hnd: ¬p∣g:=fun h=>by have:=Nat.le_of_dvd (by omega) h;omega
 have hndp: ∀k,¬p∣g^k:=by
  intro k
  induction k with
  |zero=>intro h;have:=Nat.le_of_dvd (by simp) h;simp at this;omega
  |succ k ih=>
   intro h;rw[Nat.pow_succ]at h;rcases UV hp h with h|h
   ·exact ih h
   ·exact hnd h
 have key: ∀{a b:Nat},a<=b->g^a%p=g^b%p->a%q=b%q:=by
  intro a b hab he
  have h2:g^(b-a)%p=1:=by
   have e:1*g^a%p=g^(b-a)*g^a%p:=by rw[Nat.one_mul,<-Nat.pow_add,show b-a+a=b by omega];exact he
   rw[<-hone];exact(V0 hp (hndp a) e).symm
  rw[SE hab];rcases hq.2 _ (Nat.gcd_dvd_left q (b-a))with hg|hg
  ·have h3:=Lz (b:=g) (q:=p) q (b-a) (by rw[hpow,hone]) (by rw[h2,hone]);rw[hg,Nat.pow_one,hone,Nat.mod_eq_of_lt hlt]at h3;exact absurd h3 h1
  ·rw[<-hg];exact Nat.gcd_dvd_right q (b-a)
 constructor
 ·intro he;rcases Nat.le_total a b with hab|hab
  ·exact key hab he
  ·exact(key hab he.symm).symm
 ·intro he;rw[LB hp2 hpow a,LB hp2 hpow b,he]
end Go.Proofs.YtnagnkhbamhfmaaGreatDoor
