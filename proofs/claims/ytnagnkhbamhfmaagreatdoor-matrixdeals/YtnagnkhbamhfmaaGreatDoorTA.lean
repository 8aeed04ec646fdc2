import Derived.Test.YtnagnkhbamhfmaaGreatDoorGWalk
import Derived.Test.YtnagnkhbamhfmaaGreatDoorGT
import Derived.Laws.AppendOwn
import Derived.Laws.MakeOwn
namespace Go.Proofs.YtnagnkhbamhfmaaGreatDoor
set_option linter.all false
open Go.RowKit
theorem Pc {P:Program}(w:World)(base:Nat)(t ty e:TypeId)(i:TypeInfo)(z:Value)(size bytes:Nat)(ht:P.underlying t=some (.slice e))(hi:P.info? e=some i)(hz:i.zero=some z)
  (hsize:i.size=size)(hby:i.bytes=bytes)(v:Value)(n:Nat)(xs:List Value)(hown:w.ownsRow base e size v n xs)
  (a:Addr)(m c:Nat)(news:List Value)(hl:news.length=m*size)(hnews: ∀j u,news[j]?=some u->w.cell? (a.add j)=some u)(h1: ∀u∈news,u.oneCell'=true)
  (h63:n+m<=maxLen)(hbytes:(n+m)*bytes<=140737488355328)(hm:0<m)(v':Value)(w':World)(hr:(Builtin.append_ #[t,t] ty #[v,.slice (some a) m c]).run P w= .ok v' w'):
  v'.ownBlock=v.ownBlock∨v'.ownBlock=some w.heap.size:=by
 subst hsize
 subst hby
 have hsmall:n+m<=9223372036854775807:=by simp only[maxLen]at h63;omega
 rcases hown.2 with ⟨rfl,rfl⟩|⟨g,cap,cur,rfl,hbg,hg,hnc,hcm,hcs,htake⟩
 ·have h2:=run_append_nil (P:=P) w t ty e i z ht hi hz a m c news hl hnews hm (by omega) (by have hb:=hbytes;simp only[B_]at hb;omega);rw[h2]at hr;cases hr
  exact .inr rfl
 ·by_cases hroom:n+m<=cap
  ·have hfit:n*i.size+news.length<=cur.size:=by rw[hl,hcs,<-aV0];exact z_ _ hroom
   have h2:=run_append_room (P:=P) w t ty e i ht hi g n cap cur hg a m c news hl hnews h1 hroom hfit;rw[h2]at hr;cases hr
   exact .inl rfl
  ·have holds: ∀j u,xs[j]?=some u->w.cell? ((⟨g,0,none⟩:Addr).add j)=some u:=hown.cells (g:=g) rfl
   have h2:=run_append_grow (P:=P) w t ty e i z ht hi hz ⟨g,0,none⟩ n cap xs hown.1 holds a m c news hl hnews (by omega) (by omega) (growslice_fits (by omega) hbytes);rw[h2]at hr;cases hr
   exact .inr rfl
theorem XD {w w':World}{S:List Nat}{base:Nat}{e:TypeId}{k:Nat}{v:Value}{n:Nat}{xs:List Value}(h:w.ownsRow base e k v n xs)(hk:Kept S w w')(hS: ∀b,v.ownBlock=some b->b∉S):w'.ownsRow base e k v n xs:=by
 refine⟨h.1,?_⟩;rcases h.2 with hn|⟨g,cap,cur,rfl,hb,hgg,rest⟩
 ·exact .inl hn
 ·exact .inr ⟨g,cap,cur,rfl,hb,(hk.block g (O_.1 hgg).1 (hS g rfl)).trans hgg,rest⟩
theorem own_below {w w':World}{base:Nat}{e:TypeId}{k:Nat}{v:Value}{n:Nat}{xs:List Value}(h:w.ownsRow base e k v n xs)(hb:Below w.heap.size w w'):w'.ownsRow base e k v n xs:=
 XD h (Kept.ofBelow hb) (by simp)
theorem We {w:World}{base:Nat}{e:TypeId}{k:Nat}{v:Value}{n:Nat}{xs:List Value}(h:w.ownsRow base e k v n xs): ∃ab c,v= .slice ab n c:=by
 rcases h.2 with ⟨rfl,rfl⟩|⟨g,cap,cur,rfl,_⟩
 ·exact⟨none,0,rfl⟩
 ·exact⟨_,_,rfl⟩
theorem T6 {w:World}{v v':Value}{g:Nat}(hp:v'.ownBlock=v.ownBlock∨v'.ownBlock=some w.heap.size)(hg:g<w.heap.size)(h:v.ownBlock≠some g):v'.ownBlock≠some g:=by
 rcases hp with hp|hp
 ·rw[hp];exact h
 ·rw[hp];intro e;cases e
  exact dB0 _ hg
theorem Ov {w:World}{base:Nat}{e:TypeId}{k:Nat}{v:Value}{n:Nat}{xs:List Value}(h:w.ownsRow base e k v n xs){g:Nat}(hg:w.heap.size<=g):v.ownBlock≠some g:=fun e=>by
 have:=(h.lt g e).2;omega
theorem Wr {v:Value}{g:Nat}(h:v.ownBlock≠some g):g∉v.ownBlock.toList:=by
 cases hv:v.ownBlock with
 |none=>simp
 |some b=>
  rw[hv]at h;simp only[Option.toList_some,D_];exact fun e=>h (by rw[e])
theorem Vx {w:World}{base:Nat}{e:TypeId}{k:Nat}{v:Value}{n:Nat}{xs:List Value}(h:w.ownsRow base e k v n xs): ∀g∈v.ownBlock.toList,base<=g:=by
 intro g hg
 cases hv:v.ownBlock with
 |none=>rw[hv]at hg;simp at hg
 |some b=>
  rw[hv]at hg;simp only[Option.toList_some,D_]at hg;rw[hg];exact(h.lt b hv).1
theorem Wf {cx:Array Value}(h:cx.all (·.oneCell')=true): ∀u∈cx.toList,u.oneCell'=true:=by
 intro u hu;rw[gL0]at h;obtain⟨j,hj,rfl⟩:=List.getElem_of_mem hu;exact h j (by simpa using hj)
section
variable {P:Program}{ops:Array Oper}{Q:Exit->Act->World->Prop}{rest:List Oper}{o:Oper}{a:Act}{w:World}
theorem JJ (hw:Region.wanted o (yielded ops a.tmps)=true)(s x:Operand)(t:TypeId)(ho:o.op= .call {callee:=.builtin .append,args:=#[s,x],argTypes:=#[t,t]})
  (base:Nat)(e:TypeId)(i:TypeInfo)(z:Value)(size bytes:Nat)(ht:P.underlying t=some (.slice e))(hi:P.info? e=some i)(hz:i.zero=some z)(hsize:i.size=size)(hby:i.bytes=bytes)(hzs:z.cells.size=size)(hsz:0<size)
  (v:Value)(n:Nat)(xs:List Value)(hs:a.eval s=v)(hown:w.ownsRow base e size v n xs)(gx c:Nat)(hx:a.eval x= .slice (some ⟨gx,0,none⟩) 1 c){cx:Array Value}{tx:TypeId}(rx:Row w gx cx tx)(hcx:cx.size=size)(h1:cx.all (·.oneCell')=true)
  (h63:n+1<=maxLen)(hbytes:(n+1)*bytes<=140737488355328)(hbase:base<=w.heap.size)
  (h: ∀v' w',w'.ownsRow base e size v' (n+1) (xs++cx.toList)->Kept v.ownBlock.toList w w'->(v'.ownBlock=v.ownBlock∨v'.ownBlock=some w.heap.size)->PW P ops Q rest (a.put o.dst v') w'):PW P ops Q (o::rest) a w:=by
 have hl:cx.toList.length=1*size:=by rw[A_,hcx,cM0]
 have hnews: ∀j u,cx.toList[j]?=some u->w.cell? ((⟨gx,0,none⟩:Addr).add j)=some u:=by
  intro j u hu;rw[o_]at hu;rw[Addr.add_mid,B_,cell_of_row w gx j cx tx (0,0) rx];exact hu
 obtain⟨v',w',hr,h2,h3,_⟩:=iA0 (P:=P) w base t o.type e i z size bytes ht hi hz hsize hby hzs hsz v n xs hown ⟨gx,0,none⟩ 1 c cx.toList hl hnews (Wf h1) h63 hbytes hbase;have hp:=Pc (P:=P) w base t o.type e i z size bytes ht hi hz hsize hby v n xs hown ⟨gx,0,none⟩ 1 c cx.toList hl hnews (Wf h1) h63 hbytes (by decide) v' w' hr;refine W8 hw v' w' ?_ (h v' w' h2 ⟨h3.os,h3.tape,h3.output,h3.size,fun k hk hn=>h3.block k hk fun e=>?_⟩ hp)
 ·unfold execOp;simp only[ho,resolve,invoke,builtin,p_,Y_,k_,cF0,dC0,eP0,hs,hx,hr]
 ·rw[<-e]at hn;simp at hn
end
def Wt (w:World)(base:Nat)(v:Value)(n:Nat)(f:Nat->Nat):Prop:=w.ownsRow base 57 4 v n (nsC n f).toList
theorem NF (w:World)(base:Nat)(f:Nat->Nat):Wt w base (.slice none 0 0) 0 f:=gM0 w base _ _
theorem WQ (n:Nat)(f:Nat->Nat):(nsC n f).toList++(Zc (f n)).toList=(nsC (n+1) f).toList:=by
 refine List.ext_getElem? fun j=>?_
 rw[gX0,A_,ZZ,o_,o_,o_];by_cases h:j<4*n
 ·rw[j_ h,Xo n f j h,Xo (n+1) f j (by omega)]
 ·rw[i_ h];by_cases h2:j<4*(n+1)
  ·have hn:Zc (f n)=#[.int .u64 (lm (f n) 0:Nat),.int .u64 (lm (f n) 1:Nat),.int .u64 (lm (f n) 2:Nat),.int .u64 (lm (f n) 3:Nat)]:=rfl;rw[Xo (n+1) f j h2,show j/4=n by omega,hn];have e:j-4*n=j%4:=by omega
   rw[e];have h4:j%4<4:=m_ _ (by decide)
   match j%4,h4 with
   |0,_=>rfl
   |1,_=>rfl
   |2,_=>rfl
   |3,_=>rfl
  ·rw[h_ (by rw[Zo];omega),h_ (by rw[ZZ];omega)]
theorem T7 {cur:Array Value}{n k:Nat}{xs:Array Value}(ht:cur.toList.take (n*k)=xs.toList)(i:Nat)(v:Value)(hi:i<n*k)(h:xs[i]?=some v):cur[i]?=some v:=by
 rw[<-o_,<-List.getElem?_take_of_lt hi,ht,o_];exact h
theorem Uq {w:World}{base:Nat}{ab:Option Addr}{n m c:Nat}{f:Nat->Nat}(h:Wt w base (.slice ab m c) n f)(hf: ∀i,i<n->f i<2^256):m=n/\ ∃gb cur,NatsAt w ab n f gb 0 cur 57:=by
 rcases h.2 with ⟨e,rfl⟩|⟨g,cap,cur,e,_,hg,hnc,_,hcs,htk⟩
 ·cases e
  exact⟨rfl,0,#[],.inl rfl,hf⟩
 ·cases e
  refine⟨rfl,g,cur,.inr ⟨rfl,Row.r hg,fun i hi j v hv=>?_⟩,hf⟩
  have hj:j<4:=by
   rw[o_]at hv;have:=(O_.1 hv).1;rw[Zo]at this;exact this
  refine T7 htk (0+i*4+j) v (by omega) ?_;have:=XY n f i hi (4*i) rfl j v hv;rw[show 0+i*4+j=4*i+j by omega];exact this
def SB (w:World)(base:Nat)(v:Value)(n:Nat)(u:Nat->Nat):Prop:=w.ownsRow base 3 1 v n (isC n u).toList
theorem G4 (w:World)(base:Nat)(u:Nat->Nat):SB w base (.slice none 0 0) 0 u:=gM0 w base _ _
theorem G5 (n:Nat)(u:Nat->Nat):(isC n u).toList++(#[.int .i64 (u n:Nat)]:Array Value).toList=(isC (n+1) u).toList:=by
 refine List.ext_getElem? fun j=>?_
 rw[gX0,A_,XZ,o_,o_,o_];by_cases h:j<n
 ·rw[j_ h,Wo n u j h,Wo (n+1) u j (by omega)]
 ·rw[i_ h];by_cases h2:j=n
  ·subst h2;rw[Wo (j+1) u j (by omega),fR0];rfl
  ·rw[h_ (by simp;omega),h_ (by rw[XZ];omega)]
theorem Pe:(Tryz.prog.info? 3).map (fun i=>(i.zero,i.size,i.bytes))=some (some (.int .i64 0),1,8):=by kernel_rfl
theorem T8: ∃i,Tryz.prog.info? 3=some i/\i.zero=some (.int .i64 0)/\i.size=1/\i.bytes=8:=by
 cases hi:Tryz.prog.info? 3 with
 |none=>have:=Pe;rw[hi]at this;cases this
 |some i=>
  have h:=Pe;rw[hi]at h;simp only[aS0,aL0,dE0]at h;exact⟨i,rfl,h.1,h.2.1,h.2.2⟩
section
variable {ops:Array Oper}{Q:Exit->Act->World->Prop}{rest:List Oper}{o:Oper}{a:Act}{w:World}
theorem Bl (hw:Region.wanted o (yielded ops a.tmps)=true)(s x:Operand)(ho:o.op= .call {callee:=.builtin .append,args:=#[s,x],argTypes:=#[50,50]})
  (base:Nat)(v:Value)(n:Nat)(u:Nat->Nat)(hs:a.eval s=v)(hown:SB w base v n u)(gx c:Nat)(hx:a.eval x= .slice (some ⟨gx,0,none⟩) 1 c){tx:TypeId}(rx:Row w gx #[.int .i64 (u n:Nat)] tx)(hn:n<4398046511103)(hbase:base<=w.heap.size)
  (h: ∀v' w',SB w' base v' (n+1) u->Kept v.ownBlock.toList w w'->(v'.ownBlock=v.ownBlock∨v'.ownBlock=some w.heap.size)->PW Tryz.prog ops Q rest (a.put o.dst v') w'):PW Tryz.prog ops Q (o::rest) a w:=by
 obtain⟨i,hi,hz,hsz,hby⟩:=T8;refine JJ hw s x 50 ho base 3 i _ 1 8 Tryz.underlying50 hi hz hsz hby rfl (by decide) v n _ hs hown gx c hx rx rfl (by simp[Value.oneCell']) (by unfold maxLen;omega) (by omega) hbase fun v' w' h1 h2 h3=>h v' w' ?_ h2 h3
 rw[G5]at h1;exact h1
end
theorem T9 (l:List UInt8)(a b:Nat)(h:b<=l.length):(⟨l.toArray⟩:ByteArray).extract a b=⟨((l.take b).drop a).toArray⟩:=by
 apply ByteArray.ext;rw[gH0];simp[List.drop_take]
section
variable {P:Program}{o:Oper}{ρ:Operand->Value}
theorem Bm (L:List UInt8):(⟨L.toArray⟩:ByteArray).size=L.length:=by simp[ByteArray.size]
theorem E3 (t:TypeId)(x lo:Operand)(hu:P.underlying t=some .string)(ho:o.op= .slice t x (some lo) none none)(L:List UInt8)(l:Nat)(hx:ρ x= .string ⟨L.toArray⟩)(hl:ρ lo= .int .i64 l)(hn:l<=L.length)(w:World):
  (execOp ρ o).run P w= .ok (.value (.string ⟨(L.drop l).toArray⟩)) w:=by
 have h1:(Instr.sliceAt t (.string ⟨L.toArray⟩) (some (.int .i64 l)) none none).run P w= .ok (.string ⟨(L.drop l).toArray⟩) w:=by
  rw[hV0 w t _ _ _ _ hu,run_slice_string_l w t ⟨L.toArray⟩ hu .i64 l (by omega) (by rw[Bm];omega),q_,Bm,T9 L l L.length (c_ _),List.take_length]
 unfold execOp;simp only[ho,hx,hl,aS0,dO0,p_,h1,k_];rfl
theorem xv (t:TypeId)(x lo hi:Operand)(hu:P.underlying t=some .string)(ho:o.op= .slice t x (some lo) (some hi) none)(L:List UInt8)(l h:Nat)(hx:ρ x= .string ⟨L.toArray⟩)(hl:ρ lo= .int .i64 l)(hh:ρ hi= .int .i64 h)(hlh:l<=h)(hn:h<=L.length)
  (R:List UInt8)(hR:(L.take h).drop l=R)(w:World):
  (execOp ρ o).run P w= .ok (.value (.string ⟨R.toArray⟩)) w:=by
 subst hR
 have h1:(Instr.sliceAt t (.string ⟨L.toArray⟩) (some (.int .i64 l)) (some (.int .i64 h)) none).run P w= .ok (.string ⟨((L.take h).drop l).toArray⟩) w:=by
  rw[hV0 w t _ _ _ _ hu,run_slice_string w t ⟨L.toArray⟩ .i64 .i64 l h hu (by omega) (by omega) (by rw[Bm];omega),q_,q_,T9 L l h hn]
 unfold execOp;simp only[ho,hx,hl,hh,aS0,dO0,p_,h1,k_];rfl
theorem xw (a c:List UInt8):(a==c)=decide (a=c):=by
 by_cases h:a=c
 ·simp[h]
 ·simp[h]
theorem zM (t:TypeId)(x y:Operand)(u:TypeId)(ho:o.op= .binOp .neq t x y u)(a c:List UInt8)(hx:ρ x= .string ⟨a.toArray⟩)(hy:ρ y= .string ⟨c.toArray⟩)(b:Bool)(hb:decide (a=c)= !b)(w:World):
  (execOp ρ o).run P w= .ok (.value (.bool b)) w:=by
 have e:(a==c)= !b:=(xw a c).trans hb;unfold execOp;simp only[ho,hx,hy];simp[eqGuard,go_sem,e]
theorem zN (x y:Operand)(ts:Array TypeId)(ho:o.op= .call {callee:=.builtin .min,args:=#[x,y],argTypes:=ts})(n m r:Nat)(hx:ρ x= .int .i64 n)(hy:ρ y= .int .i64 m)(hr:min n m=r)(w:World):
  (execOp ρ o).run P w= .ok (.value (.int .i64 r)) w:=by
 subst hr;unfold execOp;simp only[ho];simp[resolve,invoke,builtin,hx,hy,Builtin.min_,Builtin.min2]
 split<;>omega
end
theorem Xp (v:Value): ∀b,v.ownBlock=some b->b∉([]:List Nat):=fun _ _ h=>by cases h
theorem JK {v:Value}{g:Nat}(h:v.ownBlock≠some g): ∀b,v.ownBlock=some b->b∉[g]:=fun b hb hm=>by
 rw[D_.1 hm]at hb;exact h hb
theorem VY {w:World}{base:Nat}{e:TypeId}{k:Nat}{v:Value}{n:Nat}{xs:List Value}(h:w.ownsRow base e k v n xs){g:Nat}(hg:g<base):v.ownBlock≠some g:=fun e=>by
 have:=(h.lt g e).1;omega
theorem Wt.on {w w':World}{S:List Nat}{base:Nat}{v:Value}{n:Nat}{f:Nat->Nat}(h:Wt w base v n f)(hk:Kept S w w')(hS: ∀b,v.ownBlock=some b->b∉S):Wt w' base v n f:=XD h hk hS
theorem Wt.new {w:World}{base:Nat}{v:Value}{n:Nat}{f:Nat->Nat}(h:Wt w base v n f){g:Nat}(hg:w.heap.size<=g):v.ownBlock≠some g:=Ov h hg
theorem Wt.low {w:World}{base:Nat}{v:Value}{n:Nat}{f:Nat->Nat}(h:Wt w base v n f){g:Nat}(hg:g<base):v.ownBlock≠some g:=VY h hg
theorem Wt.base {w:World}{base:Nat}{v:Value}{n:Nat}{f:Nat->Nat}(h:Wt w base v n f): ∀g∈v.ownBlock.toList,base<=g:=Vx h
theorem SB.on {w w':World}{S:List Nat}{base:Nat}{v:Value}{n:Nat}{f:Nat->Nat}(h:SB w base v n f)(hk:Kept S w w')(hS: ∀b,v.ownBlock=some b->b∉S):SB w' base v n f:=XD h hk hS
theorem SB.new {w:World}{base:Nat}{v:Value}{n:Nat}{f:Nat->Nat}(h:SB w base v n f){g:Nat}(hg:w.heap.size<=g):v.ownBlock≠some g:=Ov h hg
theorem SB.low {w:World}{base:Nat}{v:Value}{n:Nat}{f:Nat->Nat}(h:SB w base v n f){g:Nat}(hg:g<base):v.ownBlock≠some g:=VY h hg
theorem SB.base {w:World}{base:Nat}{v:Value}{n:Nat}{f:Nat->Nat}(h:SB w base v n f): ∀g∈v.ownBlock.toList,base<=g:=Vx h
theorem Wt.from {w:World}{b b':Nat}{v:Value}{n:Nat}{f:Nat->Nat}(h:Wt w b v n f)(hb:b'<=b):Wt w b' v n f:=by
 refine⟨h.1,?_⟩;rcases h.2 with hn|⟨g,cap,cur,e,hg,rest⟩
 ·exact .inl hn
 ·exact .inr ⟨g,cap,cur,e,f_ hb hg,rest⟩
structure NumsAt (w:World)(ab:Option Addr)(n:Nat)(u:Nat->Nat)(gb ob:Nat)(bcs:Array Value)(tb:TypeId):Prop where
 at':n=0∨(ab=some ⟨gb,ob,none⟩/\WV w gb bcs tb/\ ∀i,i<n->bcs[ob+i*1]?=some (.int .i64 (u i:Nat)))
theorem NumsAt.below {w w2:World}{ab:Option Addr}{n:Nat}{u:Nat->Nat}{gb ob:Nat}{bcs:Array Value}{tb:TypeId}(h:NumsAt w ab n u gb ob bcs tb)(hb:Below w.heap.size w w2):NumsAt w2 ab n u gb ob bcs tb:=
 ⟨h.at'.imp id fun⟨h1,h2,h3⟩=>⟨h1,h2.belowAll hb,h3⟩⟩
theorem NumsAt.belowAll {w w2:World}{ab:Option Addr}{n:Nat}{u:Nat->Nat}{gb ob:Nat}{bcs:Array Value}{tb:TypeId}(h:NumsAt w ab n u gb ob bcs tb)(hb:Below w.heap.size w w2):NumsAt w2 ab n u gb ob bcs tb:=h.below hb
theorem NumsAt.take {w:World}{ab:Option Addr}{n:Nat}{u:Nat->Nat}{gb ob:Nat}{bcs:Array Value}{tb:TypeId}(h:NumsAt w ab n u gb ob bcs tb){m:Nat}(hm:m<=n):NumsAt w ab m u gb ob bcs tb:=by
 refine⟨?_⟩;rcases h.at' with h0|⟨h1,h2,h3⟩
 ·exact .inl (by omega)
 ·exact .inr ⟨h1,h2,fun i hi=>h3 i (by omega)⟩
theorem NumsAt.congr {w:World}{ab:Option Addr}{n:Nat}{u v:Nat->Nat}{gb ob:Nat}{bcs:Array Value}{tb:TypeId}(h:NumsAt w ab n u gb ob bcs tb)(he: ∀i,i<n->u i=v i):NumsAt w ab n v gb ob bcs tb:=
 ⟨h.at'.imp id fun⟨h1,h2,h3⟩=>⟨h1,h2,fun i hi=>by rw[<-he i hi];exact h3 i hi⟩⟩
theorem JL {w:World}{base:Nat}{ab:Option Addr}{n m c:Nat}{u:Nat->Nat}(h:SB w base (.slice ab m c) n u):m=n/\ ∃gb cur,NumsAt w ab n u gb 0 cur 3:=by
 rcases h.2 with ⟨e,rfl⟩|⟨g,cap,cur,e,_,hg,hnc,_,hcs,htk⟩
 ·cases e
  exact⟨rfl,0,#[],⟨.inl rfl⟩⟩
 ·cases e
  refine⟨rfl,g,cur,⟨.inr ⟨rfl,Row.r hg,fun i hi=>?_⟩⟩⟩;refine T7 htk (0+i*1) _ (by omega) ?_;rw[B_,M_];exact Wo n u i hi
theorem NatsAt.take {w:World}{ab:Option Addr}{n:Nat}{f:Nat->Nat}{gb ob:Nat}{bcs:Array Value}{tb:TypeId}(h:NatsAt w ab n f gb ob bcs tb){m:Nat}(hm:m<=n):NatsAt w ab m f gb ob bcs tb:=by
 refine⟨?_,fun i hi=>h.lt i (by omega)⟩;rcases h.at' with h0|⟨h1,h2,h3⟩
 ·exact .inl (by omega)
 ·exact .inr ⟨h1,h2,fun i hi=>h3 i (by omega)⟩
theorem NatsAt.congr {w:World}{ab:Option Addr}{n:Nat}{f h:Nat->Nat}{gb ob:Nat}{bcs:Array Value}{tb:TypeId}(hn:NatsAt w ab n f gb ob bcs tb)(he: ∀i,i<n->f i=h i):NatsAt w ab n h gb ob bcs tb:=
 ⟨hn.at'.imp id fun⟨h1,h2,h3⟩=>⟨h1,h2,fun i hi j v hv=>h3 i hi j v (by rw[he i hi];exact hv)⟩,fun i hi=>by rw[<-he i hi];exact hn.lt i hi⟩
theorem Ow {P:Program}{o:Oper}{ρ:Operand->Value}(t:TypeId)(x hi:Operand)(ho:o.op= .slice t x none (some hi) none)(hu:P.underlying t=some (.slice (P.elem t)))(z:Nat)(hz: ∀w,(sizeOf (P.elem t)).run P w= .ok z w)(ab:Option Addr)(n c m:Nat)(hx:ρ x= .slice ab n c)(hh:ρ hi= .int .i64 m)(hm:m<=c)(w:World):
  (execOp ρ o).run P w= .ok (.value (.slice ab m c)) w:=by
 have h1:(Instr.sliceAt t (.slice ab n c) none (some (.int .i64 m)) none).run P w= .ok (.slice ab m c) w:=by
  rw[run_sliceAt_slice w t _ _ _ _ hu,run_slice_h w t ab n c hu .i64 m (by omega) (by omega),hz,k_,q_];unfold sliced;by_cases hc:c=0
  ·rw[j_ hc];rfl
  ·rw[i_ hc]
   cases ab with
   |none=>rfl
   |some a=>
    cases a
    simp[Addr.add]
 unfold execOp;simp only[ho,hx,hh,aS0,dO0,p_,h1,k_];rfl
theorem YG (w:World):Below w.heap.size w w:=H_ _ _
theorem Bn {P:Program}{o:Oper}{ρ:Operand->Value}(x y:Operand)(ts:Array TypeId)(ho:o.op= .call {callee:=.builtin .max,args:=#[x,y],argTypes:=ts})(n m r:Int)(hx:ρ x= .int .i64 n)(hy:ρ y= .int .i64 m)(hr:(if m>n then m else n)=r)(w:World):
  (execOp ρ o).run P w= .ok (.value (.int .i64 r)) w:=by
 subst hr;unfold execOp;simp only[ho];simp[resolve,invoke,builtin,hx,hy,Builtin.max_,Builtin.max2]
theorem Zm:Tryz.prog.underlying 22=some (.slice (Tryz.prog.elem 22)):=by kernel_rfl
theorem Bo (A:Nat):nsC 1 (fun _=>A)=Zc A:=by
 apply Array.ext';rw[<-WQ];simp[nsC]
theorem Xz (n:Nat):madeCells (Value.agg #[.int .u64 0,.int .u64 0,.int .u64 0,.int .u64 0]).cells (n*4)=nsC n (fun _=>0):=by
 apply C_;intro i;by_cases hi:i<n*4
 ·rw[Xo n _ i (by omega)];have h0:lm 0 (i%4)=0:=by simp[lm]
  rw[h0];unfold madeCells;have hm:i%4=0∨i%4=1∨i%4=2∨i%4=3:=by omega
  rcases hm with h|h|h|h<;>simp[hi,Value.cells,h]
 ·rw[h_ (by rw[fM0];omega),h_ (by rw[ZZ];omega)]
theorem YA {w:World}{g n:Nat}{f:Nat->Nat}(h:Row w g (nsC n f) 57)(hf: ∀i,i<n->f i<2^256):NatsAt w (some ⟨g,0,none⟩) n f g 0 (nsC n f) 57:=
 ⟨.inr ⟨rfl,h.r,fun i hi=>XY n f i hi _ (by omega)⟩,hf⟩
end Go.Proofs.YtnagnkhbamhfmaaGreatDoor
