import Derived.ProofKit
import Derived.OpenShut
import Derived.ShutString
import Derived.ChangeOld
import Derived.Below
import Derived.Laws.IdiomArrays
import Derived.Deep.Slices
import Derived.Test.YtnagnkhbamhfmaaGreatDoorPY
set_option maxRecDepth 100000
set_option maxHeartbeats 8000000
namespace Go.Proofs.YtnagnkhbamhfmaaGreatDoor
set_option linter.all false
open Go.ChangeShapes Go.WideShapes Go.ChangeAt Go.RowKit
theorem own:ownKnob Tryz.prog.godebug=none:=by kernel_rfl
theorem Nc:laidOutB Tryz.prog=true:=by kernel_rfl
theorem Ex:Tryz.prog.cellsOf 57=4:=by kernel_rfl
theorem xf:Tryz.prog.cellsOf 55=1:=by kernel_rfl
theorem Ey (a b c d:Nat)(ha:a<18446744073709551616)(hb:b<18446744073709551616)(hc:c<18446744073709551616)(hd:d<18446744073709551616):
  Zb (a+18446744073709551616*(b+18446744073709551616*(c+18446744073709551616*d)))=#[.int .u64 a,.int .u64 b,.int .u64 c,.int .u64 d]/\
  a+18446744073709551616*(b+18446744073709551616*(c+18446744073709551616*d))<2^256:=by
 refine⟨?_,by omega⟩;unfold Zb lm
 rw[show 2^(64*0)=1 from rfl,show 2^(64*1)=18446744073709551616 from rfl,show 2^(64*2)=18446744073709551616*18446744073709551616 from rfl,show 2^(64*3)=18446744073709551616*(18446744073709551616*18446744073709551616)from rfl,
  bY0,<-z_,<-z_,<-z_]
 rw[show(a+18446744073709551616*(b+18446744073709551616*(c+18446744073709551616*d)))/18446744073709551616=b+18446744073709551616*(c+18446744073709551616*d) by omega,
  show(b+18446744073709551616*(c+18446744073709551616*d))/18446744073709551616=c+18446744073709551616*d by omega,
  show(c+18446744073709551616*d)/18446744073709551616=d by omega,
  show(a+18446744073709551616*(b+18446744073709551616*(c+18446744073709551616*d)))%2^64=a by omega,
  show(b+18446744073709551616*(c+18446744073709551616*d))%2^64=b by omega,
  show(c+18446744073709551616*d)%2^64=c by omega,
  show d%2^64=d by omega]
theorem wX: ∀(l:List Value),l.toArray.size=4-> ∃a b c d,l=[a,b,c,d]
 |[a,b,c,d],_=>⟨a,b,c,d,rfl⟩
 |[],h=>by simp at h
 |[_],h=>by simp at h
 |[_,_],h=>by simp at h
 |[_,_,_],h=>by simp at h
 |_::_::_::_::_::_,h=>by simp at h
theorem UR {H:Type}{enc:TypeId×Value->H}{W:World}{t:TypeId}{v:Value}{d:DataW H}{p:List MemPlace}(h:DataW.Trod enc Tryz.prog W 0 (fun _=>true) true t v d p): ∀x∈p,x.block<W.heap.size:=by
 obtain⟨m,hm⟩:=h;exact DataW.trod_lt m _ _ _ hm
open Go.ChangeShapes Go.WideShapes Go.ChangeAt Go.RowKit
theorem VZ {W:World}{a:Addr}{v:Value}(h:W.cell? a=some v):a.spot=none/\ ∃c t,WG W a.block c t:=by
 unfold World.cell? at h
 split at h
 ·rename_i c t fr hh
  split at h
  ·cases h
  ·rename_i hs
   exact⟨by simpa using hs,c,t,fr,hh⟩
 ·cases h
theorem Ml {H:Type}{enc:TypeId×Value->H}{P:Program}{W:World}{base k:Nat}{t e:TypeId}{v0:Value}{d0:DataW H}{p0:List MemPlace}(hk:0<k)(ht:P.underlying t=some (.slice e))(hc:P.cellsOf e=k)
  (hv:Value.okWide P W .any base t v0)(h0:DataW.Trod enc P W 0 (fun _=>true) true t v0 d0 p0):
  ∃ab n c,v0= .slice ab n c/\n<=c/\c<=maxLen/\(n=0∨ ∃gb ob bcs tb,ab=some ⟨gb,ob,none⟩/\WG W gb bcs tb/\
   ∀i,i<n-> ∃(l:List Value) (m:Nat) (x:DataW H×List MemPlace),l.length=k/\(∀j v,l[j]?=some v->bcs[ob+i*k+j]?=some v)/\DataW.trod enc P W 0 (fun _=>true) true m e l=some x):=by
 obtain⟨a,len,cap,rfl⟩:=okWide_slice ht hv;obtain⟨fuel,hf⟩:=h0;rcases Deep.open_slice ht hf with ⟨h1,_⟩|⟨a',len',cap',m,n,D,Pl,h1,hb,hl,hm,hmm,_,hel⟩
 ·simp[Value.cells]at h1;obtain⟨rfl,rfl,rfl⟩:=h1;exact⟨none,0,0,rfl,e_ _,dS0 _,.inl rfl⟩
 ·simp[Value.cells]at h1;obtain⟨rfl,rfl,rfl⟩:=h1;have hmc:m=cap:=hmm.trans (i_ rfl);refine⟨_,_,_,rfl,hl,hm,?_⟩;by_cases hn:len=0
  ·exact .inl hn
  right
  obtain⟨gb,ob,sp⟩:=a';obtain⟨c0,hc0,hd0⟩:=hel 0 (by omega);rw[hc]at hc0;obtain⟨_,hl0,hg0⟩:=gS0 hc0;have h00:=hg0 0 hk;rw[show((⟨gb,ob,sp⟩:Addr).add (0*k)).add 0=⟨gb,ob,sp⟩ by simp[Addr.add]]at h00;obtain⟨v,hv0⟩: ∃v,c0[0]?=some v:=⟨c0[0]'(by omega),dE0 (by omega)⟩
  obtain⟨hsp,bcs,tb,hR⟩:=VZ (h00.trans hv0)
  dsimp only at hsp hR
  subst hsp;refine⟨gb,ob,bcs,tb,rfl,hR,fun i hi=>?_⟩;obtain⟨ci,hci,hdi⟩:=hel i (by omega);rw[hc]at hci;obtain⟨_,hli,hgi⟩:=gS0 hci;refine⟨ci,n,_,hli,fun j v hj=>?_,hdi⟩
  have hjl:j<k:=by
   have:=(dA0.1 hj).1;omega
  have:=hgi j hjl;rw[Deep.add_add,show(⟨gb,ob,none⟩:Addr).add (i*k+j)=⟨gb,ob+i*k+j,none⟩ by unfold Addr.add;split<;>simp<;>omega,hR.cell,hj]at this;exact this
theorem Nd {H:Type}{enc:TypeId×Value->H}{W:World}{fuel:Nat}{l:List Value}{x:DataW H×List MemPlace}(hl:l.length=4)
  (h:DataW.trod enc Tryz.prog W 0 (fun _=>true) true fuel 57 l=some x): ∃N:Nat,N<2^256/\l=(Zb N).toList:=by
 obtain⟨c0,c1,c2,c3,rfl⟩:=wX l (by simpa using hl);obtain⟨y0,y1,y2,y3,m,_,hy0,hy1,hy2,hy3⟩:=trod_array4 fP0 xf h;obtain⟨x0,e0,rfl,w0⟩:=gW0 gT0 hy0;obtain⟨x1,e1,rfl,w1⟩:=gW0 gT0 hy1;obtain⟨x2,e2,rfl,w2⟩:=gW0 gT0 hy2;obtain⟨x3,e3,rfl,w3⟩:=gW0 gT0 hy3;simp at e0 e1 e2 e3;subst e0 e1 e2 e3;have b0:=bounds_u64 w0;have b1:=bounds_u64 w1;have b2:=bounds_u64 w2;have b3:=bounds_u64 w3;obtain⟨a,rfl⟩:=aU0 b0.1;obtain⟨b,rfl⟩:=aU0 b1.1;obtain⟨c,rfl⟩:=aU0 b2.1;obtain⟨d,rfl⟩:=aU0 b3.1;have h:=Ey a b c d (by omega) (by omega) (by omega) (by omega);exact⟨_,h.2,by rw[h.1]⟩
open Go.ChangeShapes Go.WideShapes Go.ChangeAt Go.RowKit
theorem I2 {H:Type}{enc:TypeId×Value->H}{P:Program}{W:World}{k:Nat}{t e:TypeId}{v0:Value}{d0:DataW H}{p0:List MemPlace}(hk:0<k)(ht:P.underlying t=some (.slice e))(hc:P.cellsOf e=k)
  (hs: ∃a len cap,v0= .slice a len cap)(h0:DataW.Trod enc P W 0 (fun _=>true) true t v0 d0 p0):
  ∃ab n c,v0= .slice ab n c/\n<=c/\c<=maxLen/\(n=0∨ ∃gb ob bcs tb,ab=some ⟨gb,ob,none⟩/\WG W gb bcs tb/\
   ∀i,i<n-> ∃(l:List Value) (m:Nat) (x:DataW H×List MemPlace),l.length=k/\(∀j v,l[j]?=some v->bcs[ob+i*k+j]?=some v)/\DataW.trod enc P W 0 (fun _=>true) true m e l=some x):=by
 obtain⟨a,len,cap,rfl⟩:=hs;obtain⟨fuel,hf⟩:=h0;rcases Deep.open_slice ht hf with ⟨h1,_⟩|⟨a',len',cap',m,n,D,Pl,h1,hb,hl,hm,hmm,_,hel⟩
 ·simp[Value.cells]at h1;obtain⟨rfl,rfl,rfl⟩:=h1;exact⟨none,0,0,rfl,e_ _,dS0 _,.inl rfl⟩
 ·simp[Value.cells]at h1;obtain⟨rfl,rfl,rfl⟩:=h1;have hmc:m=cap:=hmm.trans (i_ rfl);refine⟨_,_,_,rfl,hl,hm,?_⟩;by_cases hn:len=0
  ·exact .inl hn
  right
  obtain⟨gb,ob,sp⟩:=a';obtain⟨c0,hc0,hd0⟩:=hel 0 (by omega);rw[hc]at hc0;obtain⟨_,hl0,hg0⟩:=gS0 hc0;have h00:=hg0 0 hk;rw[show((⟨gb,ob,sp⟩:Addr).add (0*k)).add 0=⟨gb,ob,sp⟩ by simp[Addr.add]]at h00;obtain⟨v,hv0⟩: ∃v,c0[0]?=some v:=⟨c0[0]'(by omega),dE0 (by omega)⟩
  obtain⟨hsp,bcs,tb,hR⟩:=VZ (h00.trans hv0)
  dsimp only at hsp hR
  subst hsp;refine⟨gb,ob,bcs,tb,rfl,hR,fun i hi=>?_⟩;obtain⟨ci,hci,hdi⟩:=hel i (by omega);rw[hc]at hci;obtain⟨_,hli,hgi⟩:=gS0 hci;refine⟨ci,n,_,hli,fun j v hj=>?_,hdi⟩
  have hjl:j<k:=by
   have:=(dA0.1 hj).1;omega
  have:=hgi j hjl;rw[Deep.add_add,show(⟨gb,ob,none⟩:Addr).add (i*k+j)=⟨gb,ob+i*k+j,none⟩ by unfold Addr.add;split<;>simp<;>omega,hR.cell,hj]at this;exact this
theorem LP {H:Type}{enc:TypeId×Value->H}{W:World}{v0:Value}{d0:DataW H}{p0:List MemPlace}
  (hs: ∃a len cap,v0= .slice a len cap)(h0:DataW.Trod enc Tryz.prog W 0 (fun _=>true) true 22 v0 d0 p0):
  ∃ab n c e gb ob bcs tb,v0= .slice ab n c/\n<=c/\c<=maxLen/\NatsAt W ab n e gb ob bcs tb:=by
 obtain⟨ab,n,c,rfl,hn,hc,h⟩:=I2 (k:=4) (by decide) eQ0 Ex hs h0;rcases h with rfl|⟨gb,ob,bcs,tb,rfl,hR,hel⟩
 ·exact⟨_,_,_,fun _=>0,0,0,#[],0,rfl,hn,hc,.inl rfl,fun i hi=>absurd hi (cW0 _)⟩
 have: ∀i,i<n-> ∃N:Nat,N<2^256/\ ∀j v,(Zb N).toList[j]?=some v->bcs[ob+i*4+j]?=some v:=fun i hi=>by
  obtain⟨l,m,x,hl,hg,hd⟩:=hel i hi;obtain⟨N,hN,rfl⟩:=Nd hl hd;exact⟨N,hN,hg⟩
 obtain⟨e,he⟩:=Deep.choose_lt this;exact⟨_,_,_,e,gb,ob,bcs,tb,rfl,hn,hc,.inr ⟨rfl,hR,fun i hi=>(he i hi).2⟩,fun i hi=>(he i hi).1⟩
theorem I3:Tryz.prog.cellsOf 22=1:=by kernel_rfl
theorem wY {H:Type}{enc:TypeId×Value->H}{W:World}{fuel:Nat}{c:Value}{x:DataW H×List MemPlace}(h:DataW.trod enc Tryz.prog W 0 (fun _=>true) true fuel 22 [c]=some x): ∃a len cap,c= .slice a len cap:=by
 rcases Deep.open_slice eQ0 h with ⟨h1,_⟩|⟨a,len,cap,_,_,_,_,h1,_⟩
 ·exact⟨none,0,0,by simpa using h1⟩
 ·exact⟨some a,len,cap,by simpa using h1⟩
theorem I4 {H:Type}{enc:TypeId×Value->H}{W:World}{fuel:Nat}{c:Value}{x:DataW H×List MemPlace}(h:DataW.trod enc Tryz.prog W 0 (fun _=>true) true fuel 22 [c]=some x):
  ∃ab n k e gb ob bcs tb,c= .slice ab n k/\n<=k/\k<=maxLen/\NatsAt W ab n e gb ob bcs tb:=by
 have hs:=wY h;obtain⟨a,len,cap,rfl⟩:=hs;exact LP ⟨a,len,cap,rfl⟩ ⟨fuel,h⟩
open Go.ChangeShapes Go.WideShapes Go.ChangeAt Go.RowKit
theorem Ez:Tryz.prog.cellsOf 3=1:=by kernel_rfl