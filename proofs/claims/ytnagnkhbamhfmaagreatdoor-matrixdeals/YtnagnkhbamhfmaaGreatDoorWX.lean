import Derived.Test.YtnagnkhbamhfmaaGreatDoorUD
namespace Go.Proofs.YtnagnkhbamhfmaaGreatDoor
set_option linter.all false
section
variable {q:Nat}[NeZero q]
abbrev Mx (q:Nat):=Nat->Nat->Fin q
def Sol (A:Mx q)(m c:Nat)(x:Nat->Fin q):Prop:= ∀i,i<m->psm (fun k=>A i k*x k) c=A i c
def xJ (A:Mx q)(a b:Nat):Mx q:=fun r=>if r=a then A b else if r=b then A a else A r
def mSub (A:Mx q)(r n:Nat)(t:Fin q):Mx q:=fun i k=>if i=r then A i k-t*A n k else A i k
def mScl (A:Mx q)(r:Nat)(t:Fin q):Mx q:=fun i k=>if i=r then t*A i k else A i k
def xK (A:Mx q)(n col:Nat)(iv:Fin q->Fin q):Mx q:=fun i k=>if n<i then A i k-A i col*iv (A n col)*A n k else A i k
def mAt (A:Mx q)(col:Nat):Nat->Nat->Nat
 |n,0=>n
 |n,s+1=>if A n col=0 then mAt A col (n+1) s else n
def rkS (iv:Fin q->Fin q)(m col:Nat)(S:Mx q×Nat):Mx q×Nat:=
 let a:=mAt S.1 col S.2 (m-S.2)
 if m<=a then S else(xK (xJ S.1 S.2 a) S.2 col iv,S.2+1)
def rkC (iv:Fin q->Fin q)(m:Nat)(A:Mx q):Nat->Mx q×Nat
 |0=>(A,0)
 |c+1=>rkS iv m c (rkC iv m A c)
end
section
variable {q:Nat}[NeZero q]
def gjE (A:Mx q)(r s c:Nat)(iv:Fin q->Fin q):Mx q:=fun i k=>if i=r then A s k*iv (A s c)else xJ A r s i k-A s k*iv (A s c)*xJ A r s i c
structure GJ (A0 A:Mx q)(m n c r:Nat)(L:Nat->Nat):Prop where
 rm:r<=m
 sol: ∀x,Sol A m n x↔Sol A0 m n x
 one: ∀i,i<r-> ∀j,j<m->A j (L i)=if j=i then 1 else 0
 low: ∀i,i<r-> ∀k,k<L i->A i k=0
 out: ∀i,r<=i->i<m-> ∀k,k<c->A i k=0
 ltc: ∀i,i<r->L i<c
def gjX (A:Mx q)(n:Nat)(L:Nat->Nat):Nat->Nat->Fin q
 |0,_=>0
 |j+1,k=>if k=L j then A j n else gjX A n L j k
end
section
variable {q:Nat}[NeZero q]
def pmo:List (Fin q)->List (Fin q)
 |[]=>[1]
 |a::t=>pcv [-a,1] (pmo t)
def bkL (s n:Nat):List Nat:=(List.range n).filter fun i=>decide (s/2^i%2=1)
def mkT (iv:Fin q->Fin q)(xs ys:Nat->Fin q)(s n:Nat):List (Fin q):=LC iv (fun k=>xs ((bkL s n).getD k 0)) (fun k=>ys ((bkL s n).getD k 0)) (bkL s n).length (bkL s n).length
end
section
variable {q:Nat}[NeZero q]
def eqR (x y:Fin q)(ct k:Nat):Fin q:=if k<ct then ppw x k else 0-ppw x (k-ct)*y
def eqM (xs ys:Nat->Fin q)(ct e:Nat):Mx q:=fun i k=>if k=ct+e then ppw (xs i) e*ys i else eqR (xs i) (ys i) ct k
def eqE (X:Nat->Fin q)(ct e k:Nat):Nat:=if k<e then(X (ct+k)).val else 1
end
end Go.Proofs.YtnagnkhbamhfmaaGreatDoor
