import Derived.ProofKit
import Derived.OpenShut
import Derived.ShutString
import Derived.ChangeOld
import Derived.Below
import Derived.Laws.IdiomArrays
import Derived.Deep.Slices
import Derived.Test.YtobblihganocoaaGreatDoorPY
set_option maxRecDepth 100000
set_option maxHeartbeats 2000000
namespace Go.Proofs.YtobblihganocoaaGreatDoor
set_option linter.unusedVariables false
open Go.ChangeShapes Go.WideShapes Go.ChangeAt Go.RowKit
theorem own:ownKnob Tryz.prog.godebug=none:=by kernel_rfl
theorem JM:laidOutB Tryz.prog=true:=by kernel_rfl
theorem G5:Tryz.prog.cellsOf 62=4:=by kernel_rfl
theorem A7:Tryz.prog.cellsOf 60=1:=by kernel_rfl
theorem G6 (a b c d:Nat)(ha:a<18446744073709551616)(hb:b<18446744073709551616)(hc:c<18446744073709551616)(hd:d<18446744073709551616):
  Zc (a+18446744073709551616*(b+18446744073709551616*(c+18446744073709551616*d)))=#[.int .u64 a,.int .u64 b,.int .u64 c,.int .u64 d]/\
  a+18446744073709551616*(b+18446744073709551616*(c+18446744073709551616*d))<2^256:=by
 refine⟨?_,by omega⟩
 unfold Zc lm
 rw[show 2^(64*0)=1 from rfl,show 2^(64*1)=18446744073709551616 from rfl,show 2^(64*2)=18446744073709551616*18446744073709551616 from rfl,show 2^(64*3)=18446744073709551616*(18446744073709551616*18446744073709551616)from rfl,
  Nat.div_one,<-Nat.div_div_eq_div_mul,<-Nat.div_div_eq_div_mul,<-Nat.div_div_eq_div_mul]
 rw[show(a+18446744073709551616*(b+18446744073709551616*(c+18446744073709551616*d)))/18446744073709551616=b+18446744073709551616*(c+18446744073709551616*d) by omega,
  show(b+18446744073709551616*(c+18446744073709551616*d))/18446744073709551616=c+18446744073709551616*d by omega,
  show(c+18446744073709551616*d)/18446744073709551616=d by omega,
  show(a+18446744073709551616*(b+18446744073709551616*(c+18446744073709551616*d)))%2^64=a by omega,
  show(b+18446744073709551616*(c+18446744073709551616*d))%2^64=b by omega,
  show(c+18446744073709551616*d)%2^64=c by omega,
  show d%2^64=d by omega]
theorem yX: ∀(l:List Value),l.toArray.size=4-> ∃a b c d,l=[a,b,c,d]
 |[a,b,c,d],_=>⟨a,b,c,d,rfl⟩
 |[],h=>by simp at h
 |[_],h=>by simp at h
 |[_,_],h=>by simp at h
 |[_,_,_],h=>by simp at h
 |_::_::_::_::_::_,h=>by simp at h
theorem SK {H:Type}{enc:TypeId×Value->H}{W:World}{t:TypeId}{v:Value}{d:DataW H}{p:List MemPlace}(h:DataW.Trod enc Tryz.prog W 0 (fun _=>true) true t v d p): ∀x∈p,x.block<W.heap.size:=by
 obtain⟨m,hm⟩:=h
 exact DataW.trod_lt m _ _ _ hm
open Go.ChangeShapes Go.WideShapes Go.ChangeAt Go.RowKit
theorem VM {W:World}{a:Addr}{v:Value}(h:W.cell? a=some v):a.spot=none/\ ∃c t,XT W a.block c t:=by
 unfold World.cell? at h
 split at h
 ·rename_i c t fr hh
  split at h
  ·cases h
  ·rename_i hs
   exact⟨by simpa using hs,c,t,fr,hh⟩
 ·cases h
theorem G7 {H:Type}{enc:TypeId×Value->H}{P:Program}{W:World}{base k:Nat}{t e:TypeId}{v0:Value}{d0:DataW H}{p0:List MemPlace}(hk:0<k)(ht:P.underlying t=some (.slice e))(hc:P.cellsOf e=k)
  (hv:Value.okWide P W .any base t v0)(h0:DataW.Trod enc P W 0 (fun _=>true) true t v0 d0 p0):
  ∃ab n c,v0= .slice ab n c/\n<=c/\c<=maxLen/\(n=0∨ ∃gb ob bcs tb,ab=some ⟨gb,ob,none⟩/\XT W gb bcs tb/\
   ∀i,i<n-> ∃(l:List Value) (m:Nat) (x:DataW H×List MemPlace),l.length=k/\(∀j v,l[j]?=some v->bcs[ob+i*k+j]?=some v)/\DataW.trod enc P W 0 (fun _=>true) true m e l=some x):=by
 obtain⟨a,len,cap,rfl⟩:=okWide_slice ht hv
 obtain⟨fuel,hf⟩:=h0
 rcases Deep.open_slice ht hf with ⟨h1,_⟩|⟨a',len',cap',m,n,D,Pl,h1,hb,hl,hm,hmm,_,hel⟩
 ·simp[Value.cells]at h1
  obtain⟨rfl,rfl,rfl⟩:=h1
  exact⟨none,0,0,rfl,Nat.le_refl _,Nat.zero_le _,.inl rfl⟩
 ·simp[Value.cells]at h1
  obtain⟨rfl,rfl,rfl⟩:=h1
  have hmc:m=cap:=hmm.trans (if_pos rfl)
  refine⟨_,_,_,rfl,hl,hm,?_⟩
  by_cases hn:len=0
  ·exact .inl hn
  right
  obtain⟨gb,ob,sp⟩:=a'
  obtain⟨c0,hc0,hd0⟩:=hel 0 (by omega)
  rw[hc]at hc0
  obtain⟨_,hl0,hg0⟩:=World.cells?_some hc0
  have h00:=hg0 0 hk
  rw[show((⟨gb,ob,sp⟩:Addr).add (0*k)).add 0=⟨gb,ob,sp⟩ by simp[Addr.add]]at h00
  obtain⟨v,hv0⟩: ∃v,c0[0]?=some v:=⟨c0[0]'(by omega),List.getElem?_eq_getElem (by omega)⟩
  obtain⟨hsp,bcs,tb,hR⟩:=VM (h00.trans hv0)
  dsimp only at hsp hR
  subst hsp
  refine⟨gb,ob,bcs,tb,rfl,hR,fun i hi=>?_⟩
  obtain⟨ci,hci,hdi⟩:=hel i (by omega)
  rw[hc]at hci
  obtain⟨_,hli,hgi⟩:=World.cells?_some hci
  refine⟨ci,n,_,hli,fun j v hj=>?_,hdi⟩
  have hjl:j<k:=by
   have:=(List.getElem?_eq_some_iff.1 hj).1
   omega
  have:=hgi j hjl
  rw[Deep.add_add,show(⟨gb,ob,none⟩:Addr).add (i*k+j)=⟨gb,ob+i*k+j,none⟩ by unfold Addr.add;split<;>simp<;>omega,hR.cell,hj]at this
  exact this
theorem Ou {H:Type}{enc:TypeId×Value->H}{W:World}{fuel:Nat}{l:List Value}{x:DataW H×List MemPlace}(hl:l.length=4)
  (h:DataW.trod enc Tryz.prog W 0 (fun _=>true) true fuel 62 l=some x): ∃N:Nat,N<2^256/\l=(Zc N).toList:=by
 obtain⟨c0,c1,c2,c3,rfl⟩:=yX l (by simpa using hl)
 obtain⟨y0,y1,y2,y3,m,_,hy0,hy1,hy2,hy3⟩:=trod_array4 Tryz.underlying62 A7 h
 obtain⟨x0,e0,rfl,w0⟩:=DataW.trod_int Tryz.underlying60 hy0
 obtain⟨x1,e1,rfl,w1⟩:=DataW.trod_int Tryz.underlying60 hy1
 obtain⟨x2,e2,rfl,w2⟩:=DataW.trod_int Tryz.underlying60 hy2
 obtain⟨x3,e3,rfl,w3⟩:=DataW.trod_int Tryz.underlying60 hy3
 simp at e0 e1 e2 e3
 subst e0 e1 e2 e3
 have b0:=bounds_u64 w0
 have b1:=bounds_u64 w1
 have b2:=bounds_u64 w2
 have b3:=bounds_u64 w3
 obtain⟨a,rfl⟩:=Int.eq_ofNat_of_zero_le b0.1
 obtain⟨b,rfl⟩:=Int.eq_ofNat_of_zero_le b1.1
 obtain⟨c,rfl⟩:=Int.eq_ofNat_of_zero_le b2.1
 obtain⟨d,rfl⟩:=Int.eq_ofNat_of_zero_le b3.1
 have h:=G6 a b c d (by omega) (by omega) (by omega) (by omega)
 exact⟨_,h.2,by rw[h.1]⟩
open Go.ChangeShapes Go.WideShapes Go.ChangeAt Go.RowKit
theorem JN {H:Type}{enc:TypeId×Value->H}{P:Program}{W:World}{k:Nat}{t e:TypeId}{v0:Value}{d0:DataW H}{p0:List MemPlace}(hk:0<k)(ht:P.underlying t=some (.slice e))(hc:P.cellsOf e=k)
  (hs: ∃a len cap,v0= .slice a len cap)(h0:DataW.Trod enc P W 0 (fun _=>true) true t v0 d0 p0):
  ∃ab n c,v0= .slice ab n c/\n<=c/\c<=maxLen/\(n=0∨ ∃gb ob bcs tb,ab=some ⟨gb,ob,none⟩/\XT W gb bcs tb/\
   ∀i,i<n-> ∃(l:List Value) (m:Nat) (x:DataW H×List MemPlace),l.length=k/\(∀j v,l[j]?=some v->bcs[ob+i*k+j]?=some v)/\DataW.trod enc P W 0 (fun _=>true) true m e l=some x):=by
 obtain⟨a,len,cap,rfl⟩:=hs
 obtain⟨fuel,hf⟩:=h0
 rcases Deep.open_slice ht hf with ⟨h1,_⟩|⟨a',len',cap',m,n,D,Pl,h1,hb,hl,hm,hmm,_,hel⟩
 ·simp[Value.cells]at h1
  obtain⟨rfl,rfl,rfl⟩:=h1
  exact⟨none,0,0,rfl,Nat.le_refl _,Nat.zero_le _,.inl rfl⟩
 ·simp[Value.cells]at h1
  obtain⟨rfl,rfl,rfl⟩:=h1
  have hmc:m=cap:=hmm.trans (if_pos rfl)
  refine⟨_,_,_,rfl,hl,hm,?_⟩
  by_cases hn:len=0
  ·exact .inl hn
  right
  obtain⟨gb,ob,sp⟩:=a'
  obtain⟨c0,hc0,hd0⟩:=hel 0 (by omega)
  rw[hc]at hc0
  obtain⟨_,hl0,hg0⟩:=World.cells?_some hc0
  have h00:=hg0 0 hk
  rw[show((⟨gb,ob,sp⟩:Addr).add (0*k)).add 0=⟨gb,ob,sp⟩ by simp[Addr.add]]at h00
  obtain⟨v,hv0⟩: ∃v,c0[0]?=some v:=⟨c0[0]'(by omega),List.getElem?_eq_getElem (by omega)⟩
  obtain⟨hsp,bcs,tb,hR⟩:=VM (h00.trans hv0)
  dsimp only at hsp hR
  subst hsp
  refine⟨gb,ob,bcs,tb,rfl,hR,fun i hi=>?_⟩
  obtain⟨ci,hci,hdi⟩:=hel i (by omega)
  rw[hc]at hci
  obtain⟨_,hli,hgi⟩:=World.cells?_some hci
  refine⟨ci,n,_,hli,fun j v hj=>?_,hdi⟩
  have hjl:j<k:=by
   have:=(List.getElem?_eq_some_iff.1 hj).1
   omega
  have:=hgi j hjl
  rw[Deep.add_add,show(⟨gb,ob,none⟩:Addr).add (i*k+j)=⟨gb,ob+i*k+j,none⟩ by unfold Addr.add;split<;>simp<;>omega,hR.cell,hj]at this
  exact this
theorem MN {H:Type}{enc:TypeId×Value->H}{W:World}{v0:Value}{d0:DataW H}{p0:List MemPlace}
  (hs: ∃a len cap,v0= .slice a len cap)(h0:DataW.Trod enc Tryz.prog W 0 (fun _=>true) true 33 v0 d0 p0):
  ∃ab n c e gb ob bcs tb,v0= .slice ab n c/\n<=c/\c<=maxLen/\NatsAt W ab n e gb ob bcs tb:=by
 obtain⟨ab,n,c,rfl,hn,hc,h⟩:=JN (k:=4) (by decide) Tryz.underlying33 G5 hs h0
 rcases h with rfl|⟨gb,ob,bcs,tb,rfl,hR,hel⟩
 ·exact⟨_,_,_,fun _=>0,0,0,#[],0,rfl,hn,hc,.inl rfl,fun i hi=>absurd hi (Nat.not_lt_zero _)⟩
 have: ∀i,i<n-> ∃N:Nat,N<2^256/\ ∀j v,(Zc N).toList[j]?=some v->bcs[ob+i*4+j]?=some v:=fun i hi=>by
  obtain⟨l,m,x,hl,hg,hd⟩:=hel i hi
  obtain⟨N,hN,rfl⟩:=Ou hl hd
  exact⟨N,hN,hg⟩
 obtain⟨e,he⟩:=Deep.choose_lt this
 exact⟨_,_,_,e,gb,ob,bcs,tb,rfl,hn,hc,.inr ⟨rfl,hR,fun i hi=>(he i hi).2⟩,fun i hi=>(he i hi).1⟩
theorem JO:Tryz.prog.cellsOf 33=1:=by kernel_rfl
theorem yY {H:Type}{enc:TypeId×Value->H}{W:World}{fuel:Nat}{c:Value}{x:DataW H×List MemPlace}(h:DataW.trod enc Tryz.prog W 0 (fun _=>true) true fuel 33 [c]=some x): ∃a len cap,c= .slice a len cap:=by
 rcases Deep.open_slice Tryz.underlying33 h with ⟨h1,_⟩|⟨a,len,cap,_,_,_,_,h1,_⟩
 ·exact⟨none,0,0,by simpa using h1⟩
 ·exact⟨some a,len,cap,by simpa using h1⟩
theorem C4 {H:Type}{enc:TypeId×Value->H}{W:World}{fuel:Nat}{c:Value}{x:DataW H×List MemPlace}(h:DataW.trod enc Tryz.prog W 0 (fun _=>true) true fuel 33 [c]=some x):
  ∃ab n k e gb ob bcs tb,c= .slice ab n k/\n<=k/\k<=maxLen/\NatsAt W ab n e gb ob bcs tb:=by
 have hs:=yY h
 obtain⟨a,len,cap,rfl⟩:=hs
 exact MN ⟨a,len,cap,rfl⟩ ⟨fuel,h⟩
open Go.ChangeShapes Go.WideShapes Go.ChangeAt Go.RowKit