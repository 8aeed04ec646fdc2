import Derived.Test.YtcdahmommonnfaaGreatDoorJ3
import Derived.Laws.AppendOwn
import Derived.Laws.MakeOwn
namespace Go.Proofs.YtcdahmommonnfaaGreatDoor
set_option linter.all false
open Go.RowKit
open Go.Proofs.Tryz
theorem MV {P:Program}(w:World)(base:Nat)(t ty e:TypeId)(i:TypeInfo)(z:Value)(size bytes:Nat)(ht:P.underlying t=some (.slice e))(hi:P.info? e=some i)(hz:i.zero=some z)
  (hsize:i.size=size)(hby:i.bytes=bytes)(v:Value)(n:Nat)(xs:List Value)(hown:w.ownsRow base e size v n xs)
  (a:Addr)(m c:Nat)(news:List Value)(hl:news.length=m*size)(hnews: ∀j u,news[j]?=some u->w.cell? (a.add j)=some u)(h1: ∀u∈news,u.oneCell'=true)
  (h63:n+m<=maxLen)(hbytes:(n+m)*bytes<=140737488355328)(hm:0<m)(v':Value)(w':World)(hr:(Builtin.append_ #[t,t] ty #[v,.slice (some a) m c]).run P w= .ok v' w'):
  v'.ownBlock=v.ownBlock∨v'.ownBlock=some w.heap.size:=by
 subst hsize
 subst hby
 have hsmall:n+m<=9223372036854775807:=by simp only[maxLen]at h63;omega
 rcases hown.2 with ⟨rfl,rfl⟩|⟨g,cap,cur,rfl,hbg,hg,hnc,hcm,hcs,htake⟩
 ·have h2:=run_append_nil (P:=P) w t ty e i z ht hi hz a m c news hl hnews hm (by omega) (by have hb:=hbytes;simp only[Nat.zero_add]at hb;omega);rw[h2]at hr;cases hr
  exact .inr rfl
 ·by_cases hroom:n+m<=cap
  ·have hfit:n*i.size+news.length<=cur.size:=by rw[hl,hcs,<-Nat.add_mul];exact Nat.mul_le_mul_right _ hroom
   have h2:=run_append_room (P:=P) w t ty e i ht hi g n cap cur hg a m c news hl hnews h1 hroom hfit;rw[h2]at hr;cases hr
   exact .inl rfl
  ·have holds: ∀j u,xs[j]?=some u->w.cell? ((⟨g,0,none⟩:Addr).add j)=some u:=hown.cells (g:=g) rfl
   have h2:=run_append_grow (P:=P) w t ty e i z ht hi hz ⟨g,0,none⟩ n cap xs hown.1 holds a m c news hl hnews (by omega) (by omega) (growslice_fits (by omega) hbytes);rw[h2]at hr;cases hr
   exact .inr rfl
theorem PB {w w':World}{S:List Nat}{base:Nat}{e:TypeId}{k:Nat}{v:Value}{n:Nat}{xs:List Value}(h:w.ownsRow base e k v n xs)(hk:Kept S w w')(hS: ∀b,v.ownBlock=some b->b∉S):w'.ownsRow base e k v n xs:=by
 refine⟨h.1,?_⟩;rcases h.2 with hn|⟨g,cap,cur,rfl,hb,hgg,rest⟩
 ·exact .inl hn
 ·exact .inr ⟨g,cap,cur,rfl,hb,(hk.block g (Array.getElem?_eq_some_iff.1 hgg).1 (hS g rfl)).trans hgg,rest⟩
theorem UB {w w':World}{base:Nat}{e:TypeId}{k:Nat}{v:Value}{n:Nat}{xs:List Value}(h:w.ownsRow base e k v n xs)(hb:Below w.heap.size w w'):w'.ownsRow base e k v n xs:=
 PB h (Kept.ofBelow hb) (by simp)
theorem YW {w:World}{base:Nat}{e:TypeId}{k:Nat}{v:Value}{n:Nat}{xs:List Value}(h:w.ownsRow base e k v n xs): ∃ab c,v= .slice ab n c:=by
 rcases h.2 with ⟨rfl,rfl⟩|⟨g,cap,cur,rfl,_⟩
 ·exact⟨none,0,rfl⟩
 ·exact⟨_,_,rfl⟩
theorem Xw {w:World}{v v':Value}{g:Nat}(hp:v'.ownBlock=v.ownBlock∨v'.ownBlock=some w.heap.size)(hg:g<w.heap.size)(h:v.ownBlock≠some g):v'.ownBlock≠some g:=by
 rcases hp with hp|hp
 ·rw[hp];exact h
 ·rw[hp];intro e;cases e
  exact Nat.lt_irrefl _ hg
theorem TZ {w:World}{base:Nat}{e:TypeId}{k:Nat}{v:Value}{n:Nat}{xs:List Value}(h:w.ownsRow base e k v n xs){g:Nat}(hg:w.heap.size<=g):v.ownBlock≠some g:=fun e=>by
 have:=(h.lt g e).2;omega
theorem YX {v:Value}{g:Nat}(h:v.ownBlock≠some g):g∉v.ownBlock.toList:=by
 cases hv:v.ownBlock with
 |none=>simp
 |some b=>
  rw[hv]at h;simp only[Option.toList_some,List.mem_singleton];exact fun e=>h (by rw[e])
theorem Vs {w:World}{base:Nat}{e:TypeId}{k:Nat}{v:Value}{n:Nat}{xs:List Value}(h:w.ownsRow base e k v n xs): ∀g∈v.ownBlock.toList,base<=g:=by
 intro g hg
 cases hv:v.ownBlock with
 |none=>rw[hv]at hg;simp at hg
 |some b=>
  rw[hv]at hg;simp only[Option.toList_some,List.mem_singleton]at hg;rw[hg];exact(h.lt b hv).1
theorem WH {cx:Array Value}(h:cx.all (·.oneCell')=true): ∀u∈cx.toList,u.oneCell'=true:=by
 intro u hu;rw[Array.all_eq_true]at h;obtain⟨j,hj,rfl⟩:=List.getElem_of_mem hu;exact h j (by simpa using hj)
section
variable {P:Program}{ops:Array Oper}{Q:Exit->Act->World->Prop}{rest:List Oper}{o:Oper}{a:Act}{w:World}
theorem Qo (hw:Region.wanted o (yielded ops a.tmps)=true)(s x:Operand)(t:TypeId)(ho:o.op= .call {callee:=.builtin .append,args:=#[s,x],argTypes:=#[t,t]})
  (base:Nat)(e:TypeId)(i:TypeInfo)(z:Value)(size bytes:Nat)(ht:P.underlying t=some (.slice e))(hi:P.info? e=some i)(hz:i.zero=some z)(hsize:i.size=size)(hby:i.bytes=bytes)(hzs:z.cells.size=size)(hsz:0<size)
  (v:Value)(n:Nat)(xs:List Value)(hs:a.eval s=v)(hown:w.ownsRow base e size v n xs)(gx c:Nat)(hx:a.eval x= .slice (some ⟨gx,0,none⟩) 1 c){cx:Array Value}{tx:TypeId}(rx:Row w gx cx tx)(hcx:cx.size=size)(h1:cx.all (·.oneCell')=true)
  (h63:n+1<=maxLen)(hbytes:(n+1)*bytes<=140737488355328)(hbase:base<=w.heap.size)
  (h: ∀v' w',w'.ownsRow base e size v' (n+1) (xs++cx.toList)->Kept v.ownBlock.toList w w'->(v'.ownBlock=v.ownBlock∨v'.ownBlock=some w.heap.size)->PW P ops Q rest (a.put o.dst v') w'):PW P ops Q (o::rest) a w:=by
 have hl:cx.toList.length=1*size:=by rw[Array.length_toList,hcx,Nat.one_mul]
 have hnews: ∀j u,cx.toList[j]?=some u->w.cell? ((⟨gx,0,none⟩:Addr).add j)=some u:=by
  intro j u hu;rw[Array.getElem?_toList]at hu;rw[Addr.add_mid,Nat.zero_add,cell_of_row w gx j cx tx (0,0) rx];exact hu
 obtain⟨v',w',hr,h2,h3,_⟩:=run_append_own (P:=P) w base t o.type e i z size bytes ht hi hz hsize hby hzs hsz v n xs hown ⟨gx,0,none⟩ 1 c cx.toList hl hnews (WH h1) h63 hbytes hbase;have hp:=MV (P:=P) w base t o.type e i z size bytes ht hi hz hsize hby v n xs hown ⟨gx,0,none⟩ 1 c cx.toList hl hnews (WH h1) h63 hbytes (by decide) v' w' hr;refine Xt hw v' w' ?_ (h v' w' h2 ⟨h3.os,h3.tape,h3.output,h3.size,fun k hk hn=>h3.block k hk fun e=>?_⟩ hp)
 ·unfold execOp;simp only[ho,resolve,invoke,builtin,Sem.run_bind,Sem.run_pure,Result.andThen_ok,List.map_toArray,List.map_cons,List.map_nil,hs,hx,hr]
 ·rw[<-e]at hn;simp at hn
end
def Ve (w:World)(base:Nat)(v:Value)(n:Nat)(f:Nat->Nat):Prop:=w.ownsRow base 39 4 v n (nsC n f).toList
theorem PC (w:World)(base:Nat)(f:Nat->Nat):Ve w base (.slice none 0 0) 0 f:=World.ownsRow_nil w base _ _
theorem T0 (n:Nat)(f:Nat->Nat):(nsC n f).toList++(Zc (f n)).toList=(nsC (n+1) f).toList:=by
 refine List.ext_getElem? fun j=>?_
 rw[List.getElem?_append,Array.length_toList,Z7,Array.getElem?_toList,Array.getElem?_toList,Array.getElem?_toList];by_cases h:j<4*n
 ·rw[if_pos h,Y8 n f j h,Y8 (n+1) f j (by omega)]
 ·rw[if_neg h];by_cases h2:j<4*(n+1)
  ·have hn:Zc (f n)=#[.int .u64 (lm (f n) 0:Nat),.int .u64 (lm (f n) 1:Nat),.int .u64 (lm (f n) 2:Nat),.int .u64 (lm (f n) 3:Nat)]:=rfl;rw[Y8 (n+1) f j h2,show j/4=n by omega,hn];have e:j-4*n=j%4:=by omega
   rw[e];have h4:j%4<4:=Nat.mod_lt _ (by decide)
   match j%4,h4 with
   |0,_=>rfl
   |1,_=>rfl
   |2,_=>rfl
   |3,_=>rfl
  ·rw[Array.getElem?_eq_none (by rw[Zt];omega),Array.getElem?_eq_none (by rw[Z7];omega)]
theorem Rf {cur:Array Value}{n k:Nat}{xs:Array Value}(ht:cur.toList.take (n*k)=xs.toList)(i:Nat)(v:Value)(hi:i<n*k)(h:xs[i]?=some v):cur[i]?=some v:=by
 rw[<-Array.getElem?_toList,<-List.getElem?_take_of_lt hi,ht,Array.getElem?_toList];exact h
theorem UC {w:World}{base:Nat}{ab:Option Addr}{n m c:Nat}{f:Nat->Nat}(h:Ve w base (.slice ab m c) n f)(hf: ∀i,i<n->f i<2^256):m=n/\ ∃gb cur,NatsAt w ab n f gb 0 cur 39:=by
 rcases h.2 with ⟨e,rfl⟩|⟨g,cap,cur,e,_,hg,hnc,_,hcs,htk⟩
 ·cases e
  exact⟨rfl,0,#[],.inl rfl,hf⟩
 ·cases e
  refine⟨rfl,g,cur,.inr ⟨rfl,Row.r hg,fun i hi j v hv=>?_⟩,hf⟩
  have hj:j<4:=by
   rw[Array.getElem?_toList]at hv;have:=(Array.getElem?_eq_some_iff.1 hv).1;rw[Zt]at this;exact this
  refine Rf htk (0+i*4+j) v (by omega) ?_;have:=XX n f i hi (4*i) rfl j v hv;rw[show 0+i*4+j=4*i+j by omega];exact this
def T1 (w:World)(base:Nat)(v:Value)(n:Nat)(u:Nat->Nat):Prop:=w.ownsRow base 3 1 v n (isC n u).toList
theorem PD (w:World)(base:Nat)(u:Nat->Nat):T1 w base (.slice none 0 0) 0 u:=World.ownsRow_nil w base _ _
theorem JM (n:Nat)(u:Nat->Nat):(isC n u).toList++(#[.int .i64 (u n:Nat)]:Array Value).toList=(isC (n+1) u).toList:=by
 refine List.ext_getElem? fun j=>?_
 rw[List.getElem?_append,Array.length_toList,Xh,Array.getElem?_toList,Array.getElem?_toList,Array.getElem?_toList];by_cases h:j<n
 ·rw[if_pos h,XB n u j h,XB (n+1) u j (by omega)]
 ·rw[if_neg h];by_cases h2:j=n
  ·subst h2;rw[XB (j+1) u j (by omega),Nat.sub_self];rfl
  ·rw[Array.getElem?_eq_none (by simp;omega),Array.getElem?_eq_none (by rw[Xh];omega)]
theorem Rg:(prog.info? 3).map (fun i=>(i.zero,i.size,i.bytes))=some (some (.int .i64 0),1,8):=by kernel_rfl
theorem Rh: ∃i,prog.info? 3=some i/\i.zero=some (.int .i64 0)/\i.size=1/\i.bytes=8:=by
 cases hi:prog.info? 3 with
 |none=>have:=Rg;rw[hi]at this;cases this
 |some i=>
  have h:=Rg;rw[hi]at h;simp only[Option.map_some,Option.some.injEq,Prod.mk.injEq]at h;exact⟨i,rfl,h.1,h.2.1,h.2.2⟩
section
variable {ops:Array Oper}{Q:Exit->Act->World->Prop}{rest:List Oper}{o:Oper}{a:Act}{w:World}
theorem Fz (hw:Region.wanted o (yielded ops a.tmps)=true)(s x:Operand)(ho:o.op= .call {callee:=.builtin .append,args:=#[s,x],argTypes:=#[54,54]})
  (base:Nat)(v:Value)(n:Nat)(f:Nat->Nat)(hs:a.eval s=v)(hown:Ve w base v n f)(gx c:Nat)(hx:a.eval x= .slice (some ⟨gx,0,none⟩) 1 c){tx:TypeId}(rx:Row w gx (Zc (f n)) tx)(hn:n<4398046511103)(hbase:base<=w.heap.size)
  (h: ∀v' w',Ve w' base v' (n+1) f->Kept v.ownBlock.toList w w'->(v'.ownBlock=v.ownBlock∨v'.ownBlock=some w.heap.size)->PW prog ops Q rest (a.put o.dst v') w'):PW prog ops Q (o::rest) a w:=by
 obtain⟨i,hi,hz,hsz,hby⟩:=YL;refine Qo hw s x 54 ho base 39 i _ 4 32 underlying54 hi hz hsz hby rfl (by decide) v n _ hs hown gx c hx rx (Zt _) (ZA _) (by unfold maxLen;omega) (by omega) hbase fun v' w' h1 h2 h3=>h v' w' ?_ h2 h3
 rw[T0]at h1;exact h1
theorem UD (hw:Region.wanted o (yielded ops a.tmps)=true)(s x:Operand)(ho:o.op= .call {callee:=.builtin .append,args:=#[s,x],argTypes:=#[62,62]})
  (base:Nat)(v:Value)(n:Nat)(u:Nat->Nat)(hs:a.eval s=v)(hown:T1 w base v n u)(gx c:Nat)(hx:a.eval x= .slice (some ⟨gx,0,none⟩) 1 c){tx:TypeId}(rx:Row w gx #[.int .i64 (u n:Nat)] tx)(hn:n<4398046511103)(hbase:base<=w.heap.size)
  (h: ∀v' w',T1 w' base v' (n+1) u->Kept v.ownBlock.toList w w'->(v'.ownBlock=v.ownBlock∨v'.ownBlock=some w.heap.size)->PW prog ops Q rest (a.put o.dst v') w'):PW prog ops Q (o::rest) a w:=by
 obtain⟨i,hi,hz,hsz,hby⟩:=Rh;refine Qo hw s x 62 ho base 3 i _ 1 8 underlying62 hi hz hsz hby rfl (by decide) v n _ hs hown gx c hx rx rfl (by simp[Value.oneCell']) (by unfold maxLen;omega) (by omega) hbase fun v' w' h1 h2 h3=>h v' w' ?_ h2 h3
 rw[JM]at h1;exact h1
end
theorem Va (l:List UInt8)(a b:Nat)(h:b<=l.length):(⟨l.toArray⟩:ByteArray).extract a b=⟨((l.take b).drop a).toArray⟩:=by
 apply ByteArray.ext;rw[ByteArray.data_extract];simp[List.drop_take]
section
variable {P:Program}{o:Oper}{ρ:Operand->Value}
theorem MW (L:List UInt8):(⟨L.toArray⟩:ByteArray).size=L.length:=by simp[ByteArray.size]
theorem Hn (t:TypeId)(x lo:Operand)(hu:P.underlying t=some .string)(ho:o.op= .slice t x (some lo) none none)(L:List UInt8)(l:Nat)(hx:ρ x= .string ⟨L.toArray⟩)(hl:ρ lo= .int .i64 l)(hn:l<=L.length)(w:World):
  (execOp ρ o).run P w= .ok (.value (.string ⟨(L.drop l).toArray⟩)) w:=by
 have h1:(Instr.sliceAt t (.string ⟨L.toArray⟩) (some (.int .i64 l)) none none).run P w= .ok (.string ⟨(L.drop l).toArray⟩) w:=by
  rw[run_sliceAt_string w t _ _ _ _ hu,run_slice_string_l w t ⟨L.toArray⟩ hu .i64 l (by omega) (by rw[MW];omega),Int.toNat_natCast,MW,Va L l L.length (Nat.le_refl _),List.take_length]
 unfold execOp;simp only[ho,hx,hl,Option.map_some,Option.map_none,Sem.run_bind,h1,Result.andThen_ok];rfl
theorem DA (t:TypeId)(x hi:Operand)(hu:P.underlying t=some .string)(ho:o.op= .slice t x none (some hi) none)(L:List UInt8)(h:Nat)(hx:ρ x= .string ⟨L.toArray⟩)(hh:ρ hi= .int .i64 h)(hn:h<=L.length)(w:World):
  (execOp ρ o).run P w= .ok (.value (.string ⟨(L.take h).toArray⟩)) w:=by
 have h1:(Instr.sliceAt t (.string ⟨L.toArray⟩) none (some (.int .i64 h)) none).run P w= .ok (.string ⟨(L.take h).toArray⟩) w:=by
  rw[run_sliceAt_string w t _ _ _ _ hu,run_slice_string_h w t ⟨L.toArray⟩ hu .i64 h (by omega) (by rw[MW];omega),Int.toNat_natCast,Va L 0 h hn,List.drop_zero]
 unfold execOp;simp only[ho,hx,hh,Option.map_some,Option.map_none,Sem.run_bind,h1,Result.andThen_ok];rfl
theorem Bv (t:TypeId)(x lo hi:Operand)(hu:P.underlying t=some .string)(ho:o.op= .slice t x (some lo) (some hi) none)(L:List UInt8)(l h:Nat)(hx:ρ x= .string ⟨L.toArray⟩)(hl:ρ lo= .int .i64 l)(hh:ρ hi= .int .i64 h)(hlh:l<=h)(hn:h<=L.length)
  (R:List UInt8)(hR:(L.take h).drop l=R)(w:World):
  (execOp ρ o).run P w= .ok (.value (.string ⟨R.toArray⟩)) w:=by
 subst hR
 have h1:(Instr.sliceAt t (.string ⟨L.toArray⟩) (some (.int .i64 l)) (some (.int .i64 h)) none).run P w= .ok (.string ⟨((L.take h).drop l).toArray⟩) w:=by
  rw[run_sliceAt_string w t _ _ _ _ hu,run_slice_string w t ⟨L.toArray⟩ .i64 .i64 l h hu (by omega) (by omega) (by rw[MW];omega),Int.toNat_natCast,Int.toNat_natCast,Va L l h hn]
 unfold execOp;simp only[ho,hx,hl,hh,Option.map_some,Option.map_none,Sem.run_bind,h1,Result.andThen_ok];rfl
theorem DB (a c:List UInt8):(a==c)=decide (a=c):=by
 by_cases h:a=c
 ·simp[h]
 ·simp[h]
theorem X4 (t:TypeId)(x y:Operand)(u:TypeId)(ho:o.op= .binOp .eql t x y u)(a c:List UInt8)(hx:ρ x= .string ⟨a.toArray⟩)(hy:ρ y= .string ⟨c.toArray⟩)(b:Bool)(hb:decide (a=c)=b)(w:World):
  (execOp ρ o).run P w= .ok (.value (.bool b)) w:=by
 subst hb;unfold execOp;simp only[ho,hx,hy];simp[eqGuard,go_sem];exact DB a c
theorem OL (t:TypeId)(x y:Operand)(u:TypeId)(ho:o.op= .binOp .neq t x y u)(a c:List UInt8)(hx:ρ x= .string ⟨a.toArray⟩)(hy:ρ y= .string ⟨c.toArray⟩)(b:Bool)(hb:decide (a=c)= !b)(w:World):
  (execOp ρ o).run P w= .ok (.value (.bool b)) w:=by
 have e:(a==c)= !b:=(DB a c).trans hb;unfold execOp;simp only[ho,hx,hy];simp[eqGuard,go_sem,e]
theorem Bw (x:Operand)(ho:o.op= .convert 122 9 x)(g off cap n:Nat)(l:List UInt8)(hx:ρ x= .slice (some ⟨g,off,none⟩) n cap)(hn:l.length=n){cs:Array Value}{t:TypeId}(w:World)(hr:WD w g cs t)
  (hc: ∀j,j<l.length->cs[off+j]?=some (.int .u8 (yb l j:Nat))):(execOp ρ o).run prog w= .ok (.value (.string ⟨l.toArray⟩)) w:=by
 subst hn
 have h:=run_convert_bytes_back (P:=prog) w 122 9 5 ⟨g,off,none⟩ cap l underlying122 underlying5 underlying9 (fun j hj=>by
  rw[Addr.add_mid,hr.cell,hc j hj];unfold yb;rw[List.getD_eq_getElem?_getD,List.getElem?_eq_getElem hj]
  rfl)
 unfold execOp;simp only[ho,hx,Sem.run_bind,h,Result.andThen_ok];rfl
theorem Bx (t:TypeId)(x y:Operand)(u:TypeId)(ho:o.op= .binOp .neq t x y u)(n m:Bool)(hx:ρ x= .bool n)(hy:ρ y= .bool m)(hu:P.underlying t=some .bool)(b:Bool)(hb:(n !=m)=b)(w:World):
  (execOp ρ o).run P w= .ok (.value (.bool b)) w:=by
 subst hb;unfold execOp;simp only[ho,hx,hy]
 cases n<;>cases m<;>simp[eqGuard,go_sem,hu]
end
theorem Xo (v:Value): ∀b,v.ownBlock=some b->b∉([]:List Nat):=fun _ _ h=>by cases h
theorem VL {v:Value}{g:Nat}(h:v.ownBlock≠some g): ∀b,v.ownBlock=some b->b∉[g]:=fun b hb hm=>by
 rw[List.mem_singleton.1 hm]at hb;exact h hb
theorem Qp {w:World}{base:Nat}{e:TypeId}{k:Nat}{v:Value}{n:Nat}{xs:List Value}(h:w.ownsRow base e k v n xs){g:Nat}(hg:g<base):v.ownBlock≠some g:=fun e=>by
 have:=(h.lt g e).1;omega
theorem Ve.on {w w':World}{S:List Nat}{base:Nat}{v:Value}{n:Nat}{f:Nat->Nat}(h:Ve w base v n f)(hk:Kept S w w')(hS: ∀b,v.ownBlock=some b->b∉S):Ve w' base v n f:=PB h hk hS
theorem Ve.new {w:World}{base:Nat}{v:Value}{n:Nat}{f:Nat->Nat}(h:Ve w base v n f){g:Nat}(hg:w.heap.size<=g):v.ownBlock≠some g:=TZ h hg
theorem Ve.low {w:World}{base:Nat}{v:Value}{n:Nat}{f:Nat->Nat}(h:Ve w base v n f){g:Nat}(hg:g<base):v.ownBlock≠some g:=Qp h hg
theorem Ve.base {w:World}{base:Nat}{v:Value}{n:Nat}{f:Nat->Nat}(h:Ve w base v n f): ∀g∈v.ownBlock.toList,base<=g:=Vs h
theorem T1.on {w w':World}{S:List Nat}{base:Nat}{v:Value}{n:Nat}{f:Nat->Nat}(h:T1 w base v n f)(hk:Kept S w w')(hS: ∀b,v.ownBlock=some b->b∉S):T1 w' base v n f:=PB h hk hS
theorem T1.new {w:World}{base:Nat}{v:Value}{n:Nat}{f:Nat->Nat}(h:T1 w base v n f){g:Nat}(hg:w.heap.size<=g):v.ownBlock≠some g:=TZ h hg
theorem T1.low {w:World}{base:Nat}{v:Value}{n:Nat}{f:Nat->Nat}(h:T1 w base v n f){g:Nat}(hg:g<base):v.ownBlock≠some g:=Qp h hg
theorem T1.base {w:World}{base:Nat}{v:Value}{n:Nat}{f:Nat->Nat}(h:T1 w base v n f): ∀g∈v.ownBlock.toList,base<=g:=Vs h
theorem Ve.from {w:World}{b b':Nat}{v:Value}{n:Nat}{f:Nat->Nat}(h:Ve w b v n f)(hb:b'<=b):Ve w b' v n f:=by
 refine⟨h.1,?_⟩;rcases h.2 with hn|⟨g,cap,cur,e,hg,rest⟩
 ·exact .inl hn
 ·exact .inr ⟨g,cap,cur,e,Nat.le_trans hb hg,rest⟩
structure NumsAt (w:World)(ab:Option Addr)(n:Nat)(u:Nat->Nat)(gb ob:Nat)(bcs:Array Value)(tb:TypeId):Prop where
 at':n=0∨(ab=some ⟨gb,ob,none⟩/\WD w gb bcs tb/\ ∀i,i<n->bcs[ob+i*1]?=some (.int .i64 (u i:Nat)))
theorem NumsAt.below {w w2:World}{ab:Option Addr}{n:Nat}{u:Nat->Nat}{gb ob:Nat}{bcs:Array Value}{tb:TypeId}(h:NumsAt w ab n u gb ob bcs tb)(hb:Below w.heap.size w w2):NumsAt w2 ab n u gb ob bcs tb:=
 ⟨h.at'.imp id fun⟨h1,h2,h3⟩=>⟨h1,h2.belowAll hb,h3⟩⟩
theorem NumsAt.belowAll {w w2:World}{ab:Option Addr}{n:Nat}{u:Nat->Nat}{gb ob:Nat}{bcs:Array Value}{tb:TypeId}(h:NumsAt w ab n u gb ob bcs tb)(hb:Below w.heap.size w w2):NumsAt w2 ab n u gb ob bcs tb:=h.below hb
theorem NumsAt.take {w:World}{ab:Option Addr}{n:Nat}{u:Nat->Nat}{gb ob:Nat}{bcs:Array Value}{tb:TypeId}(h:NumsAt w ab n u gb ob bcs tb){m:Nat}(hm:m<=n):NumsAt w ab m u gb ob bcs tb:=by
 refine⟨?_⟩;rcases h.at' with h0|⟨h1,h2,h3⟩
 ·exact .inl (by omega)
 ·exact .inr ⟨h1,h2,fun i hi=>h3 i (by omega)⟩
theorem NumsAt.congr {w:World}{ab:Option Addr}{n:Nat}{u v:Nat->Nat}{gb ob:Nat}{bcs:Array Value}{tb:TypeId}(h:NumsAt w ab n u gb ob bcs tb)(he: ∀i,i<n->u i=v i):NumsAt w ab n v gb ob bcs tb:=
 ⟨h.at'.imp id fun⟨h1,h2,h3⟩=>⟨h1,h2,fun i hi=>by rw[<-he i hi];exact h3 i hi⟩⟩
theorem Ri {w:World}{base:Nat}{ab:Option Addr}{n m c:Nat}{u:Nat->Nat}(h:T1 w base (.slice ab m c) n u):m=n/\ ∃gb cur,NumsAt w ab n u gb 0 cur 3:=by
 rcases h.2 with ⟨e,rfl⟩|⟨g,cap,cur,e,_,hg,hnc,_,hcs,htk⟩
 ·cases e
  exact⟨rfl,0,#[],⟨.inl rfl⟩⟩
 ·cases e
  refine⟨rfl,g,cur,⟨.inr ⟨rfl,Row.r hg,fun i hi=>?_⟩⟩⟩;refine Rf htk (0+i*1) _ (by omega) ?_;rw[Nat.zero_add,Nat.mul_one];exact XB n u i hi
theorem NatsAt.take {w:World}{ab:Option Addr}{n:Nat}{f:Nat->Nat}{gb ob:Nat}{bcs:Array Value}{tb:TypeId}(h:NatsAt w ab n f gb ob bcs tb){m:Nat}(hm:m<=n):NatsAt w ab m f gb ob bcs tb:=by
 refine⟨?_,fun i hi=>h.lt i (by omega)⟩;rcases h.at' with h0|⟨h1,h2,h3⟩
 ·exact .inl (by omega)
 ·exact .inr ⟨h1,h2,fun i hi=>h3 i (by omega)⟩
theorem NatsAt.congr {w:World}{ab:Option Addr}{n:Nat}{f h:Nat->Nat}{gb ob:Nat}{bcs:Array Value}{tb:TypeId}(hn:NatsAt w ab n f gb ob bcs tb)(he: ∀i,i<n->f i=h i):NatsAt w ab n h gb ob bcs tb:=
 ⟨hn.at'.imp id fun⟨h1,h2,h3⟩=>⟨h1,h2,fun i hi j v hv=>h3 i hi j v (by rw[he i hi];exact hv)⟩,fun i hi=>by rw[<-he i hi];exact hn.lt i hi⟩
theorem T2 {P:Program}{o:Oper}{ρ:Operand->Value}(t:TypeId)(x hi:Operand)(ho:o.op= .slice t x none (some hi) none)(hu:P.underlying t=some (.slice (P.elem t)))(z:Nat)(hz: ∀w,(sizeOf (P.elem t)).run P w= .ok z w)(ab:Option Addr)(n c m:Nat)(hx:ρ x= .slice ab n c)(hh:ρ hi= .int .i64 m)(hm:m<=c)(w:World):
  (execOp ρ o).run P w= .ok (.value (.slice ab m c)) w:=by
 have h1:(Instr.sliceAt t (.slice ab n c) none (some (.int .i64 m)) none).run P w= .ok (.slice ab m c) w:=by
  rw[run_sliceAt_slice w t _ _ _ _ hu,run_slice_h w t ab n c hu .i64 m (by omega) (by omega),hz,Result.andThen_ok,Int.toNat_natCast];unfold sliced;by_cases hc:c=0
  ·rw[if_pos hc];rfl
  ·rw[if_neg hc]
   cases ab with
   |none=>rfl
   |some a=>
    cases a
    simp[Addr.add]
 unfold execOp;simp only[ho,hx,hh,Option.map_some,Option.map_none,Sem.run_bind,h1,Result.andThen_ok];rfl
theorem Z9 (w:World):Below w.heap.size w w:=Below.refl _ _
theorem ZN:prog.underlying 54=some (.slice (prog.elem 54)):=by kernel_rfl
theorem WI (n:Nat):madeCells (Value.agg #[.int .u64 0,.int .u64 0,.int .u64 0,.int .u64 0]).cells (n*4)=nsC n (fun _=>0):=by
 apply Array.ext_getElem?;intro i;by_cases hi:i<n*4
 ·rw[Y8 n _ i (by omega)];have h0:lm 0 (i%4)=0:=by simp[lm]
  rw[h0];unfold madeCells;have hm:i%4=0∨i%4=1∨i%4=2∨i%4=3:=by omega
  rcases hm with h|h|h|h<;>simp[hi,Value.cells,h]
 ·rw[Array.getElem?_eq_none (by rw[size_madeCells];omega),Array.getElem?_eq_none (by rw[Z7];omega)]
theorem T3 {w:World}{g n:Nat}{f:Nat->Nat}(h:Row w g (nsC n f) 39)(hf: ∀i,i<n->f i<2^256):NatsAt w (some ⟨g,0,none⟩) n f g 0 (nsC n f) 39:=
 ⟨.inr ⟨rfl,h.r,fun i hi=>XX n f i hi _ (by omega)⟩,hf⟩
theorem UE {w:World}{base:Nat}{vx v1 vy:Value}{n k:Nat}{e:TypeId}{xs:List Value}(hy:w.ownsRow base e k vy n xs)(hp:v1.ownBlock=vx.ownBlock∨v1.ownBlock=some w.heap.size)(z: ∀b,vy.ownBlock=some b->vx.ownBlock≠some b): ∀b,vy.ownBlock=some b->v1.ownBlock≠some b:=fun b hb e'=>by
 rcases hp with h|h
 ·exact z b hb (h▸e')
 ·rw[h]at e';cases e'
  exact TZ hy (Nat.le_refl _) hb
theorem VM {vx vy:Value}(z: ∀b,vy.ownBlock=some b->vx.ownBlock≠some b): ∀b,vx.ownBlock=some b->vy.ownBlock≠some b:=fun b h e=>z b e h
theorem Vt {vx vy:Value}(z: ∀b,vy.ownBlock=some b->vx.ownBlock≠some b): ∀b,vy.ownBlock=some b->b∉vx.ownBlock.toList:=fun b h=>YX (z b h)
end Go.Proofs.YtcdahmommonnfaaGreatDoor
