import Derived.ProofKit
import Derived.OpenShut
import Derived.ShutString
import Derived.ChangeOld
import Derived.Below
import Derived.Laws.IdiomArrays
import Derived.Deep.Slices
import Derived.Test.YtnagnkhbamhfmaaGreatDoorPY
set_option maxRecDepth 100000
set_option maxHeartbeats 8000000
namespace Go.Proofs.YtnagnkhbamhfmaaGreatDoor
set_option linter.all false
open Go.Proofs.Tryz
open Go.ChangeShapes Go.WideShapes Go.ChangeAt Go.RowKit
theorem own:ownKnob prog.godebug=none:=by kernel_rfl
theorem OM:laidOutB prog=true:=by kernel_rfl
theorem FG:prog.cellsOf 57=4:=by kernel_rfl
theorem ye:prog.cellsOf 55=1:=by kernel_rfl
theorem FH (a b c d:Nat)(ha:a<18446744073709551616)(hb:b<18446744073709551616)(hc:c<18446744073709551616)(hd:d<18446744073709551616):
  Zc (a+18446744073709551616*(b+18446744073709551616*(c+18446744073709551616*d)))=#[.int .u64 a,.int .u64 b,.int .u64 c,.int .u64 d]/\
  a+18446744073709551616*(b+18446744073709551616*(c+18446744073709551616*d))<2^256:=by
 refine⟨?_,by omega⟩;unfold Zc lm
 rw[show 2^(64*0)=1 from rfl,show 2^(64*1)=18446744073709551616 from rfl,show 2^(64*2)=18446744073709551616*18446744073709551616 from rfl,show 2^(64*3)=18446744073709551616*(18446744073709551616*18446744073709551616)from rfl,
  bR0,<-v_,<-v_,<-v_]
 rw[show(a+18446744073709551616*(b+18446744073709551616*(c+18446744073709551616*d)))/18446744073709551616=b+18446744073709551616*(c+18446744073709551616*d) by omega,
  show(b+18446744073709551616*(c+18446744073709551616*d))/18446744073709551616=c+18446744073709551616*d by omega,
  show(c+18446744073709551616*d)/18446744073709551616=d by omega,
  show(a+18446744073709551616*(b+18446744073709551616*(c+18446744073709551616*d)))%2^64=a by omega,
  show(b+18446744073709551616*(c+18446744073709551616*d))%2^64=b by omega,
  show(c+18446744073709551616*d)%2^64=c by omega,
  show d%2^64=d by omega]
theorem xO: ∀(l:List Value),l.toArray.size=4-> ∃a b c d,l=[a,b,c,d]
 |[a,b,c,d],_=>⟨a,b,c,d,rfl⟩
 |[],h=>by simp at h
 |[_],h=>by simp at h
 |[_,_],h=>by simp at h
 |[_,_,_],h=>by simp at h
 |_::_::_::_::_::_,h=>by simp at h
theorem UO {H:Type}{enc:TypeId×Value->H}{W:World}{t:TypeId}{v:Value}{d:DataW H}{p:List MemPlace}(h:DataW.Trod enc prog W 0 (fun _=>true) true t v d p): ∀x∈p,x.block<W.heap.size:=by
 obtain⟨m,hm⟩:=h;exact DataW.trod_lt m _ _ _ hm
open Go.ChangeShapes Go.WideShapes Go.ChangeAt Go.RowKit
theorem Sn {W:World}{a:Addr}{v:Value}(h:W.cell? a=some v):a.spot=none/\ ∃c t,WV W a.block c t:=by
 unfold World.cell? at h
 split at h
 ·rename_i c t fr hh
  split at h
  ·cases h
  ·rename_i hs
   exact⟨by simpa using hs,c,t,fr,hh⟩
 ·cases h
theorem ON {H:Type}{enc:TypeId×Value->H}{W:World}{fuel:Nat}{l:List Value}{x:DataW H×List MemPlace}(hl:l.length=4)
  (h:DataW.trod enc prog W 0 (fun _=>true) true fuel 57 l=some x): ∃N:Nat,N<2^256/\l=(Zc N).toList:=by
 obtain⟨c0,c1,c2,c3,rfl⟩:=xO l (by simpa using hl);obtain⟨y0,y1,y2,y3,m,_,hy0,hy1,hy2,hy3⟩:=trod_array4 b_ ye h;obtain⟨x0,e0,rfl,w0⟩:=iC0 dV0 hy0;obtain⟨x1,e1,rfl,w1⟩:=iC0 dV0 hy1;obtain⟨x2,e2,rfl,w2⟩:=iC0 dV0 hy2;obtain⟨x3,e3,rfl,w3⟩:=iC0 dV0 hy3;simp at e0 e1 e2 e3;subst e0 e1 e2 e3;have b0:=bounds_u64 w0;have b1:=bounds_u64 w1;have b2:=bounds_u64 w2;have b3:=bounds_u64 w3;obtain⟨a,rfl⟩:=aM0 b0.1;obtain⟨b,rfl⟩:=aM0 b1.1;obtain⟨c,rfl⟩:=aM0 b2.1;obtain⟨d,rfl⟩:=aM0 b3.1;have h:=FH a b c d (by omega) (by omega) (by omega) (by omega);exact⟨_,h.2,by rw[h.1]⟩
open Go.ChangeShapes Go.WideShapes Go.ChangeAt Go.RowKit
theorem Ii {H:Type}{enc:TypeId×Value->H}{P:Program}{W:World}{k:Nat}{t e:TypeId}{v0:Value}{d0:DataW H}{p0:List MemPlace}(hk:0<k)(ht:P.underlying t=some (.slice e))(hc:P.cellsOf e=k)
  (hs: ∃a len cap,v0= .slice a len cap)(h0:DataW.Trod enc P W 0 (fun _=>true) true t v0 d0 p0):
  ∃ab n c,v0= .slice ab n c/\n<=c/\c<=maxLen/\(n=0∨ ∃gb ob bcs tb,ab=some ⟨gb,ob,none⟩/\WV W gb bcs tb/\
   ∀i,i<n-> ∃(l:List Value) (m:Nat) (x:DataW H×List MemPlace),l.length=k/\(∀j v,l[j]?=some v->bcs[ob+i*k+j]?=some v)/\DataW.trod enc P W 0 (fun _=>true) true m e l=some x):=by
 obtain⟨a,len,cap,rfl⟩:=hs;obtain⟨fuel,hf⟩:=h0;rcases Deep.open_slice ht hf with ⟨h1,_⟩|⟨a',len',cap',m,n,D,Pl,h1,hb,hl,hm,hmm,_,hel⟩
 ·simp[Value.cells]at h1;obtain⟨rfl,rfl,rfl⟩:=h1;exact⟨none,0,0,rfl,c_ _,eU0 _,.inl rfl⟩
 ·simp[Value.cells]at h1;obtain⟨rfl,rfl,rfl⟩:=h1;have hmc:m=cap:=hmm.trans (j_ rfl);refine⟨_,_,_,rfl,hl,hm,?_⟩;by_cases hn:len=0
  ·exact .inl hn
  right
  obtain⟨gb,ob,sp⟩:=a';obtain⟨c0,hc0,hd0⟩:=hel 0 (by omega);rw[hc]at hc0;obtain⟨_,hl0,hg0⟩:=World.cells?_some hc0;have h00:=hg0 0 hk;rw[show((⟨gb,ob,sp⟩:Addr).add (0*k)).add 0=⟨gb,ob,sp⟩ by simp[Addr.add]]at h00;obtain⟨v,hv0⟩: ∃v,c0[0]?=some v:=⟨c0[0]'(by omega),cQ0 (by omega)⟩
  obtain⟨hsp,bcs,tb,hR⟩:=Sn (h00.trans hv0)
  dsimp only at hsp hR
  subst hsp;refine⟨gb,ob,bcs,tb,rfl,hR,fun i hi=>?_⟩;obtain⟨ci,hci,hdi⟩:=hel i (by omega);rw[hc]at hci;obtain⟨_,hli,hgi⟩:=World.cells?_some hci;refine⟨ci,n,_,hli,fun j v hj=>?_,hdi⟩
  have hjl:j<k:=by
   have:=(eA0.1 hj).1;omega
  have:=hgi j hjl;rw[Deep.add_add,show(⟨gb,ob,none⟩:Addr).add (i*k+j)=⟨gb,ob+i*k+j,none⟩ by unfold Addr.add;split<;>simp<;>omega,hR.cell,hj]at this;exact this
theorem Le {H:Type}{enc:TypeId×Value->H}{W:World}{v0:Value}{d0:DataW H}{p0:List MemPlace}
  (hs: ∃a len cap,v0= .slice a len cap)(h0:DataW.Trod enc prog W 0 (fun _=>true) true 22 v0 d0 p0):
  ∃ab n c e gb ob bcs tb,v0= .slice ab n c/\n<=c/\c<=maxLen/\NatsAt W ab n e gb ob bcs tb:=by
 obtain⟨ab,n,c,rfl,hn,hc,h⟩:=Ii (k:=4) (by decide) r_ FG hs h0;rcases h with rfl|⟨gb,ob,bcs,tb,rfl,hR,hel⟩
 ·exact⟨_,_,_,fun _=>0,0,0,#[],0,rfl,hn,hc,.inl rfl,fun i hi=>absurd hi (gC0 _)⟩
 have: ∀i,i<n-> ∃N:Nat,N<2^256/\ ∀j v,(Zc N).toList[j]?=some v->bcs[ob+i*4+j]?=some v:=fun i hi=>by
  obtain⟨l,m,x,hl,hg,hd⟩:=hel i hi;obtain⟨N,hN,rfl⟩:=ON hl hd;exact⟨N,hN,hg⟩
 obtain⟨e,he⟩:=Deep.choose_lt this;exact⟨_,_,_,e,gb,ob,bcs,tb,rfl,hn,hc,.inr ⟨rfl,hR,fun i hi=>(he i hi).2⟩,fun i hi=>(he i hi).1⟩
theorem OO {H:Type}{enc:TypeId×Value->H}{P:Program}{w:World}{base:Nat}{spare:Nat->Bool}{held:Bool}{t e:TypeId}{fuel:Nat}{c0 c1:Value}{x:DataW H×List MemPlace}(ht:P.underlying t=some (.array 2 e))(hce:P.cellsOf e=1)
  (h:DataW.trod enc P w base spare held fuel t [c0,c1]=some x):
  ∃y0 y1 n,DataW.trod enc P w base spare held n e [c0]=some y0/\DataW.trod enc P w base spare held n e [c1]=some y1:=by
 obtain⟨xs,m,_,_,_,hl,hg⟩:=DataW.trod_array ht h;have h0:=hg 0 (by decide);have h1:=hg 1 (by decide);rw[hce]at h0 h1;simp at h0 h1;have e0:xs[0]?=some xs[0]:=cQ0 (by omega);have e1:xs[1]?=some xs[1]:=cQ0 (by omega);exact⟨_,_,m,h0.trans e0,h1.trans e1⟩
theorem xQ: ∀(l:List Value),l.toArray.size=2-> ∃a b,l=[a,b]
 |[a,b],_=>⟨a,b,rfl⟩
 |[],h=>by simp at h
 |[_],h=>by simp at h
 |_::_::_::_,h=>by simp at h
theorem Ij:prog.cellsOf 23=2:=by kernel_rfl
theorem Ik:prog.cellsOf 22=1:=by kernel_rfl
theorem xR {H:Type}{enc:TypeId×Value->H}{W:World}{fuel:Nat}{c:Value}{x:DataW H×List MemPlace}(h:DataW.trod enc prog W 0 (fun _=>true) true fuel 22 [c]=some x): ∃a len cap,c= .slice a len cap:=by
 rcases Deep.open_slice r_ h with ⟨h1,_⟩|⟨a,len,cap,_,_,_,_,h1,_⟩
 ·exact⟨none,0,0,by simpa using h1⟩
 ·exact⟨some a,len,cap,by simpa using h1⟩
theorem Il {H:Type}{enc:TypeId×Value->H}{W:World}{fuel:Nat}{c:Value}{x:DataW H×List MemPlace}(h:DataW.trod enc prog W 0 (fun _=>true) true fuel 22 [c]=some x):
  ∃ab n k e gb ob bcs tb,c= .slice ab n k/\n<=k/\k<=maxLen/\NatsAt W ab n e gb ob bcs tb:=by
 have hs:=xR h;obtain⟨a,len,cap,rfl⟩:=hs;exact Le ⟨a,len,cap,rfl⟩ ⟨fuel,h⟩
open Go.ChangeShapes Go.WideShapes Go.ChangeAt Go.RowKit
end Go.Proofs.YtnagnkhbamhfmaaGreatDoor
