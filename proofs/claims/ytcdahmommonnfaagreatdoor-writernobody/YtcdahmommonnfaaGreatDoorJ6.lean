import Derived.Test.YtcdahmommonnfaaGreatDoorJ5
namespace Go.Proofs.YtcdahmommonnfaaGreatDoor
set_option linter.all false
open Go.RowKit
section
variable {Q:Nat}[NeZero Q]
def PlN (w:World)(base:Nat)(v:Value)(L:List (Fin Q)):Prop:= ∃gT N,v= .slice (some ⟨gT,0,none⟩) L.length N/\base<=gT/\L.length<=N/\Row w gT (nsC N (fun i=>(pco L i).val)) 39
theorem PlN.below {w w':World}{base:Nat}{v:Value}{L:List (Fin Q)}(h:PlN w base v L)(hb:Below w.heap.size w w'):PlN w' base v L:=by
 obtain⟨gT,N,h1,h2,h3,h4⟩:=h;exact⟨gT,N,h1,h2,h3,h4.belowAll hb⟩
theorem PlN.low {w:World}{base base':Nat}{v:Value}{L:List (Fin Q)}(h:PlN w base v L)(hb:base'<=base):PlN w base' v L:=by
 obtain⟨gT,N,h1,h2,h3,h4⟩:=h;exact⟨gT,N,h1,Nat.le_trans hb h2,h3,h4⟩
theorem PlN.at' {w:World}{base:Nat}{v:Value}{L:List (Fin Q)}(h:PlN w base v L)(hQ:Q<2^256):DC w v L:=by
 obtain⟨gT,N,h1,h2,h3,h4⟩:=h;exact⟨_,_,gT,0,_,_,h1,(T3 h4 fun i _=>Nat.lt_trans (pco L i).isLt hQ).take h3⟩
theorem DD {w:World}{g n base:Nat}{F:Nat->Nat}{L:List (Fin Q)}(r:Row w g (nsC n F) 39)(hg:base<=g)(hF: ∀i,i<n->F i<Q)(hL: ∀i,pco (fl n F:List (Fin Q)) i=pco L i):PlN w base (.slice (some ⟨g,0,none⟩) (yTn F n) n) (YM L):=by
 obtain⟨h1,h2⟩:=Bt n F L hF hL;have h3:=Px F n
 rw[XP n F (fun i=>(pco (YM L) i).val) (fun i hi=>by
  show F i=(pco (YM L) i).val
  by_cases e:i<yTn F n
  ·exact h2 i e
  ·rw[Qm F n i (by omega) hi,TT _ i (by omega)];rfl)]at r
 rw[h1];exact⟨g,n,rfl,hg,by omega,r⟩
end
section
variable {Q:Nat}[NeZero Q]{g gr gf P G:Nat}{w:World}
end
def anB (B:Nat->Bool):Nat->Bool
 |0=>false
 |n+1=>anB B n||B n
theorem UF (B:Nat->Bool): ∀n,anB B n=true↔ ∃k,k<n/\B k=true
 |0=>⟨fun h=>(by cases h),fun⟨k,hk,_⟩=>absurd hk (by omega)⟩
 |n+1=>by
  show(anB B n||B n)=true↔_
  rw[Bool.or_eq_true,UF B n];constructor
  ·rintro(⟨k,hk,e⟩|e)
   ·exact⟨k,by omega,e⟩
   ·exact⟨n,by omega,e⟩
  ·rintro⟨k,hk,e⟩;by_cases h:k=n
   ·exact .inr (h▸e)
   ·exact .inl ⟨k,by omega,e⟩
section
variable {Q:Nat}[NeZero Q]{g gr gf P G:Nat}{w:World}
end
section
variable {Q:Nat}[NeZero Q]{g gr gf P G:Nat}{w:World}
def e4 (b:Bool):Int:=if b then 4 else 0
def RcP (b:Bool)(w:World)(v:Value)(L:List (Fin Q)):Prop:=(b=false->DC w v L)/\(b=true->v= .slice none 0 0)
end
structure ZsAt (w:World)(ab:Option Addr)(n:Nat)(Z:Nat->Int)(gb ob:Nat)(bcs:Array Value)(tb:TypeId):Prop where
 at':n=0∨(ab=some ⟨gb,ob,none⟩/\WD w gb bcs tb/\ ∀i,i<n->bcs[ob+i*1]?=some (.int .i64 (Z i)))
theorem ZsAt.below {w w2:World}{ab:Option Addr}{n:Nat}{Z:Nat->Int}{gb ob:Nat}{bcs:Array Value}{tb:TypeId}(h:ZsAt w ab n Z gb ob bcs tb)(hb:Below w.heap.size w w2):ZsAt w2 ab n Z gb ob bcs tb:=
 ⟨h.at'.imp id fun⟨h1,h2,h3⟩=>⟨h1,h2.belowAll hb,h3⟩⟩
theorem ZsAt.congr {w:World}{ab:Option Addr}{n:Nat}{Z Z':Nat->Int}{gb ob:Nat}{bcs:Array Value}{tb:TypeId}(h:ZsAt w ab n Z gb ob bcs tb)(he: ∀i,i<n->Z i=Z' i):ZsAt w ab n Z' gb ob bcs tb:=
 ⟨h.at'.imp id fun⟨h1,h2,h3⟩=>⟨h1,h2,fun i hi=>by rw[<-he i hi];exact h3 i hi⟩⟩
theorem NumsAt.zs {w:World}{ab:Option Addr}{n:Nat}{u:Nat->Nat}{gb ob:Nat}{bcs:Array Value}{tb:TypeId}(h:NumsAt w ab n u gb ob bcs tb):ZsAt w ab n (fun i=>((u i:Nat):Int)) gb ob bcs tb:=⟨h.at'⟩
theorem JQ:(Tryz.prog.info? 54).map (fun i=>(i.zero,i.size,i.bytes))=some (some (.slice none 0 0),1,24):=by kernel_rfl
theorem JR: ∃i,Tryz.prog.info? 54=some i/\i.zero=some (.slice none 0 0)/\i.size=1/\i.bytes=24:=by
 have h:=JQ
 cases hi:Tryz.prog.info? 54 with
 |none=>rw[hi]at h;cases h
 |some i=>
  rw[hi]at h;simp only[Option.map_some,Option.some.injEq,Prod.mk.injEq]at h;exact⟨i,rfl,h.1,h.2.1,h.2.2⟩
section
variable {Q:Nat}[NeZero Q]{g gr gf P G:Nat}{w:World}
def onK (k i:Nat):Nat:=if i=k then 1 else 0
def wtP (I:Nat->Nat)(n k:Nat):List (Fin Q):=tTh ivF (fun i=>(fi (I i):Fin Q)) (fun i=>(fi (onK k i):Fin Q)) n
def wtV (I:Nat->Nat)(n k j:Nat):Nat->Nat->Nat:=fun a b=>if b<k∨(b=k/\a<j)then(pco (wtP I n b:List (Fin Q)) a).val else 0
end
section
variable {P:Program}{ops:Array Oper}{Q:Exit->Act->World->Prop}{rest:List Oper}{o:Oper}{a:Act}{w:World}
theorem WJ {fn:Func}(hw:Region.wanted o (yielded ops a.tmps)=true)(f:FuncId)(t:Tmp)(args:Array Operand)(ts:Array TypeId)
  (ho:o.op= .call {callee:=.value (.tmp t),args:=args,argTypes:=ts})(caps:Array Value)(hcl:a.eval (.tmp t)= .func (.func f) #[] caps)(hf:P.funcs[f]?=some fn)(hb:(fn.name== "runtime.NumGoroutine" ||fn.body.isNone)=false)
  (vs:Array Value)(hv':args.toList.map a.eval=vs.toList){R:Ending->World->Prop}(hc:Calls P f (vs++caps) w R)
  (h: ∀e w',R e w'-> ∃v,e= .returned v/\PW P ops Q rest (a.put o.dst v) w'):PW P ops Q (o::rest) a w:=by
 refine⟨?_⟩;unfold wpList;rw[if_pos hw];left
 have hv:args.map a.eval=vs:=by apply Array.toList_inj.1;rw[Array.toList_map];exact hv'
 have hr:=ZM (P:=P) hf hb (vs++caps) w
 have hd:(execOp a.eval o).run P w= .ok (.enter f (vs++caps)) w:=by
  unfold execOp;simp only[ho,resolve,hv,hcl];simp[Deferred.ofValue,invoke,hr]
 unfold Oper.wp;rw[hd,Oper.upon_enter]
 exact hc.mono fun e w' hR=>by
  obtain⟨v,he,hp⟩:=h e w' hR;subst he;exact hp.out
theorem UG (hw:Region.wanted o (yielded ops a.tmps)=true)(t:TypeId)(ho:o.op= .alloc t)(v:Value)(hz: ∀w,(zeroValue t).run P w= .ok v w)(hv:v.cells=#[v])
  (h: ∀g w',w.heap.size<=g->Row w' g #[v] t->Kept [] w w'->PW P ops Q rest (a.put o.dst (.pointer (some ⟨g,0,none⟩))) w'):PW P ops Q (o::rest) a w:=
 W5 hw (fun g=>.pointer (some ⟨g,0,none⟩)) t #[v] (by unfold execOp;simp only[ho,Instr.alloc,Sem.run_bind,hz,Result.andThen_ok,newVar,hv,newRow];rfl) h
theorem FD (hw:Region.wanted o (yielded ops a.tmps)=true)(t e:TypeId)(ho:o.op= .buildSlice t 0 #[])(ie:TypeInfo)(hu:P.underlying t=some (.slice e))(hie:P.info? e=some ie)
  (h: ∀g w',w.heap.size<=g->Row w' g #[] e->Kept [] w w'->PW P ops Q rest (a.put o.dst (.slice (some ⟨g,0,none⟩) 0 0)) w'):PW P ops Q (o::rest) a w:=by
 refine W5 hw (fun g=>.slice (some ⟨g,0,none⟩) 0 0) e #[] ?_ h
 have hr:(Instr.buildSlice t 0 #[]).run P w= .ok (.slice (some ⟨w.heap.size,0,none⟩) 0 0) (w.alloc (.cells #[] e)):=by
  simp[Instr.buildSlice,run_underlying hu,sizeOf,typeInfo,hie,newRow,Instr.fill]
  congr 2
  exact Array.eq_empty_of_size_eq_zero (by simp)
 unfold execOp;simp only[ho,Sem.run_bind];simp only[List.map_toArray,List.map_nil,hr];rfl
theorem FE (t:TypeId)(x lo:Operand){ρ:Operand->Value}(ho:o.op= .slice t x (some lo) none none)(hu:P.underlying t=some (.slice (P.elem t)))(z:Nat)(hz: ∀w,(sizeOf (P.elem t)).run P w= .ok z w)(g off n c m:Nat)(hx:ρ x= .slice (some ⟨g,off,none⟩) n c)(hh:ρ lo= .int .i64 m)(hm:m<=n)(hmc:n<=c)(w:World):
  (execOp ρ o).run P w= .ok (.value (.slice (some ⟨g,if c=m then off else off+m*z,none⟩) (n-m) (c-m))) w:=by
 have h1:(Instr.sliceAt t (.slice (some ⟨g,off,none⟩) n c) (some (.int .i64 m)) none none).run P w= .ok (.slice (some ⟨g,if c=m then off else off+m*z,none⟩) (n-m) (c-m)) w:=by
  rw[run_sliceAt_slice w t _ _ _ _ hu,run_slice_l w t _ n c hu .i64 m (by omega) (by omega),hz,Result.andThen_ok,Int.toNat_natCast];unfold sliced;by_cases e:c=m
  ·rw[if_pos e,if_pos e]
  ·rw[if_neg e,if_neg e,Option.map_some];rw[show(⟨g,off,none⟩:Addr).add (m*z)=⟨g,off+m*z,none⟩ by unfold Addr.add;split<;>simp<;>omega]
 unfold execOp;simp only[ho,hx,hh,Option.map_some,Option.map_none,Sem.run_bind,h1,Result.andThen_ok];rfl
theorem JS (hw:Region.wanted o (yielded ops a.tmps)=true)(s x:Operand)(t:TypeId)(ho:o.op= .call {callee:=.builtin .append,args:=#[s,x],argTypes:=#[t,t]})
  (base:Nat)(e:TypeId)(i:TypeInfo)(z:Value)(size bytes:Nat)(ht:P.underlying t=some (.slice e))(hi:P.info? e=some i)(hz:i.zero=some z)(hsize:i.size=size)(hby:i.bytes=bytes)(hzs:z.cells.size=size)(hsz:0<size)
  (v:Value)(n:Nat)(xs:List Value)(hs:a.eval s=v)(hown:w.ownsRow base e size v n xs)(gx m c:Nat)(hx:a.eval x= .slice (some ⟨gx,0,none⟩) m c){cx:Array Value}{tx:TypeId}(rx:Row w gx cx tx)(hcx:cx.size=m*size)(h1:cx.all (·.oneCell')=true)
  (h63:n+m<=maxLen)(hbytes:(n+m)*bytes<=140737488355328)(hbase:base<=w.heap.size)
  (h: ∀v' w',w'.ownsRow base e size v' (n+m) (xs++cx.toList)->Kept v.ownBlock.toList w w'->PW P ops Q rest (a.put o.dst v') w'):PW P ops Q (o::rest) a w:=by
 have hl:cx.toList.length=m*size:=by rw[Array.length_toList,hcx]
 have hnews: ∀j u,cx.toList[j]?=some u->w.cell? ((⟨gx,0,none⟩:Addr).add j)=some u:=by
  intro j u hu;rw[Array.getElem?_toList]at hu;rw[Addr.add_mid,Nat.zero_add,cell_of_row w gx j cx tx (0,0) rx];exact hu
 obtain⟨v',w',hr,h2,h3,_⟩:=run_append_own (P:=P) w base t o.type e i z size bytes ht hi hz hsize hby hzs hsz v n xs hown ⟨gx,0,none⟩ m c cx.toList hl hnews (WH h1) h63 hbytes hbase;refine Xt hw v' w' ?_ (h v' w' h2 ⟨h3.os,h3.tape,h3.output,h3.size,fun k hk hn=>h3.block k hk fun e=>?_⟩)
 ·unfold execOp;simp only[ho,resolve,invoke,builtin,Sem.run_bind,Sem.run_pure,Result.andThen_ok,List.map_toArray,List.map_cons,List.map_nil,hs,hx,hr]
 ·rw[<-e]at hn;simp at hn
end
theorem T5 (n:Nat)(f:Nat->Nat): ∀m,(nsC n f).toList++(nsC m (fun i=>f (n+i))).toList=(nsC (n+m) f).toList
 |0=>by
  have h:(nsC 0 (fun i=>f (n+i))).toList=[]:=by
   apply List.eq_nil_of_length_eq_zero;rw[Array.length_toList,Z7]
  rw[h,List.append_nil,Nat.add_zero]
 |m+1=>by
  rw[<-T0 m,<-List.append_assoc,T5 n f m,T0,Nat.add_assoc]
theorem Qs (n:Nat)(f:Nat->Nat):(nsC n f).all (·.oneCell')=true:=by
 rw[Array.all_eq_true];intro i hi;have h:=Y8 n f i (by rw[Z7]at hi;exact hi);rw[Array.getElem?_eq_getElem hi]at h;rw[Option.some.inj h];rfl
theorem DE {v:Value}{g s x:Nat}(hp:v.ownBlock=some g∨v.ownBlock=some s)(h1:x≠g)(h2:x<s):v.ownBlock≠some x:=fun e=>by
 rcases hp with h|h<;>rw[h]at e<;>cases e
 ·exact h1 rfl
 ·exact Nat.lt_irrefl _ h2
theorem JT {w:World}{base g m N:Nat}{f:Nat->Nat}(r:Row w g (nsC N f) 39)(hb:base<=g)(hm:m<=N)(hN:N<=1000):Ve w base (.slice (some ⟨g,0,none⟩) m N) m f:=by
 refine⟨by rw[Array.length_toList,Z7];omega,.inr ⟨g,N,_,rfl,hb,r,hm,by unfold maxLen;omega,by rw[Z7];omega,?_⟩⟩;have h:=T5 m f (N-m);rw[show m+(N-m)=N by omega]at h;rw[<-h];apply List.take_left';rw[Array.length_toList,Z7];omega
theorem JU {P:Program}(w:World)(base:Nat)(t tn ty e:TypeId)(i:TypeInfo)(z:Value)(size bytes:Nat)(kn:IntKind)(ht:P.underlying t=some (.slice e))(htn:P.underlying tn=some (.int kn))(hi:P.info? e=some i)(hz:i.zero=some z)
  (hsize:i.size=size)(hby:i.bytes=bytes)(hzs:z.cells.size=size)(hsz:0<size)(hz1: ∀m,∀u∈(Builtin.zeroCells z.cells m).toList,u.oneCell'=true)
  (g cap n:Nat)(xs:List Value)(hown:w.ownsRow base e size (.slice (some ⟨g,0,none⟩) n cap) n xs)(m:Nat)
  (h63:n+m<=maxLen)(hbytes:(n+m)*bytes<=140737488355328)(hbase:base<=w.heap.size):
  ∃v' w',(Builtin.append_ #[t,tn] ty #[.slice (some ⟨g,0,none⟩) n cap,.int .i64 m]).run P w= .ok v' w'/\w'.ownsRow base e size v' (n+m) (xs++(Builtin.zeroCells z.cells m).toList)/\w.grownBy w' (some g)/\(v'.ownBlock=some g∨v'.ownBlock=some w.heap.size):=by
 subst hsize
 subst hby
 have hsmall:n+m<=9223372036854775807:=by simp only[maxLen]at h63;omega
 have hw:IntKind.i64.wrap (m:Int)=m:=by rw[IntKind.wrap_i64];omega
 have hneg: ¬((m:Int)<0):=by omega
 have hmb:m*i.bytes<=140737488355328:=Nat.le_trans (Nat.mul_le_mul_right _ (by omega)) hbytes
 have h48i: ¬(281474976710656<(m:Int)*(i.bytes:Int)):=by
  rw[<-Int.natCast_mul];omega
 generalize hN:(Builtin.zeroCells z.cells m)=N;have hl:N.toList.length=m*i.size:=by rw[Array.length_toList,<-hN,size_zeroCells,hzs]
 have h1: ∀u∈N.toList,u.oneCell'=true:=hN▸hz1 m
 have hlen:(xs++N.toList).length=(n+m)*i.size:=by rw[List.length_append,hown.1,hl,Nat.add_mul]
 have hN0:m=0->N=#[]:=fun h=>by rw[<-hN,h];simp[Builtin.zeroCells]
 rcases hown.2 with ⟨h0,_⟩|⟨g',cap',cur,he,hbg,hg,hnc,hcm,hcs,htake⟩
 ·cases h0
 ·obtain⟨rfl,rfl⟩:g=g'/\cap=cap':=by
   simp only[Value.slice.injEq,Option.some.injEq,Addr.mk.injEq,and_true,true_and]at he;exact he
  by_cases hroom:n+m<=cap
  ·have hfit:n*i.size+N.toList.length<=cur.size:=by rw[hl,hcs,<-Nat.add_mul];exact Nat.mul_le_mul_right _ hroom
   have hst:=run_storeCells_at P g (n*i.size) e N.toList 0 cur w hg (by simpa using hfit) h1;simp only[Nat.add_zero]at hst
   have hr:(Builtin.append_ #[t,tn] ty #[.slice (some ⟨g,0,none⟩) n cap,.int .i64 m]).run P w= .ok (.slice (some ⟨g,0,none⟩) (n+m) cap) (w.setRow g (cur.toList.take (n*i.size)++N.toList++cur.toList.drop (n*i.size+N.toList.length)).toArray):=by
    by_cases hm:m=0
    ·have hns:m*i.size=0:=by rw[hm,Nat.zero_mul]
     have hN1:=hN0 hm;rw[hN1]at hst ⊢;have hst':(storeCells {block:=g,off:=n*i.size} []).run P w= .ok () (w.setRow g (cur.toList.take (n*i.size)++#[].toList++cur.toList.drop (n*i.size+(#[]:Array Value).toList.length)).toArray):=hst;simp only[Array.toList_empty]at hst' ⊢;simp[Builtin.append_,run_underlying ht,run_underlying htn,sizeOf,typeInfo,hi,asInt,asIntOf,hw,hneg,h48i,hns,hroom,Addr.add_lit,hst']
    ·have hns: ¬(m*i.size=0):=Nat.mul_ne_zero hm (by omega);simp[Builtin.append_,run_underlying ht,run_underlying htn,sizeOf,typeInfo,zeroValue,hi,hz,asInt,asIntOf,hw,hm,hneg,hns,h48i,hroom,hN,Addr.add_lit,hst]
   refine⟨_,_,hr,⟨hlen,.inr ⟨g,cap,_,rfl,hbg,setRow_heap w g cur _ e _ hg,hroom,hcm,?_,?_⟩⟩,⟨rfl,rfl,rfl,by simp,fun k _ hk=>setRow_other w g k _ (fun e=>hk (by rw[e]))⟩,.inl rfl⟩
   ·simp only[List.size_toArray,List.length_append,List.length_take,List.length_drop,Array.length_toList];rw[Array.length_toList]at hfit;omega
   ·rw[htake,<-hlen];exact List.take_left
  ·have hm:m≠0:=by omega
   have hns: ¬(m*i.size=0):=Nat.mul_ne_zero hm (by omega);have holds: ∀j u,xs[j]?=some u->w.cell? ((⟨g,0,none⟩:Addr).add j)=some u:=hown.cells (g:=g) rfl
   have hfo:=run_firstCells_some (P:=P) w.drew i.size n ⟨g,0,none⟩ n cap xs hown.1 (by simpa using holds);have h63': ¬(9223372036854775807<((n:Int)+(m:Int))):=by omega
   have h48': ¬(281474976710656<Builtin.nextslicecap (n+m) cap*i.bytes):=by have:=growslice_fits (old:=cap) (by omega) hbytes;omega
   have hge:=grownCap_ge w (n+m) cap e;have hcm':grownCap w (n+m) cap e<=maxLen:=grownCap_le_maxLen w (n+m) cap e h63
   have hr:(Builtin.append_ #[t,tn] ty #[.slice (some ⟨g,0,none⟩) n cap,.int .i64 m]).run P w= .ok (.slice (some ⟨w.heap.size,0,none⟩) (n+m) (grownCap w (n+m) cap e))
     (w.drew.alloc (.cells (xs.toArray++N++Builtin.zeroCells z.cells (grownCap w (n+m) cap e-(n+m))) e)):=by
    simp[Builtin.append_,run_underlying ht,run_underlying htn,sizeOf,typeInfo,zeroValue,hi,hz,asInt,asIntOf,hw,hm,hneg,hns,h48i,hroom,h63',h48',Question.forced,hfo,newRow,grownCap,hN]
   refine⟨_,_,hr,⟨hlen,.inr ⟨w.heap.size,_,_,rfl,hbase,heap_alloc_new w.drew _,hge,hcm',?_,?_⟩⟩,⟨rfl,rfl,rfl,by simp,fun k hk _=>_root_.Go.heap_alloc_old w.drew _ hk⟩,.inr rfl⟩
   ·have hN2:N.size=m*i.size:=by rw[<-Array.length_toList];exact hl
    simp only[Array.size_append,List.size_toArray,size_zeroCells,hzs,hown.1,hN2,<-Nat.add_mul]
    congr 1
    omega
   ·simp only[Array.toList_append,List.append_assoc];rw[<-List.append_assoc,<-hlen];exact List.take_left
section
variable {ops:Array Oper}{Q:Exit->Act->World->Prop}{rest:List Oper}{o:Oper}{a:Act}{w:World}
theorem FF (hw:Region.wanted o (yielded ops a.tmps)=true)(s x:Operand)(ho:o.op= .call {callee:=.builtin .append,args:=#[s,x],argTypes:=#[54,3]})
  (base g cap n:Nat)(f:Nat->Nat)(hs:a.eval s= .slice (some ⟨g,0,none⟩) n cap)(hown:Ve w base (.slice (some ⟨g,0,none⟩) n cap) n f)(m:Nat)(hx:a.eval x= .int .i64 m)(hf: ∀i,i<m->f (n+i)=0)(hn:n+m<=1000)(hbase:base<=w.heap.size)
  (h: ∀v' w',Ve w' base v' (n+m) f->Kept [g] w w'->(v'.ownBlock=some g∨v'.ownBlock=some w.heap.size)->PW Tryz.prog ops Q rest (a.put o.dst v') w'):PW Tryz.prog ops Q (o::rest) a w:=by
 obtain⟨i,hi,hz,hsz,hby⟩:=YL;have hzc: ∀m,Builtin.zeroCells (Value.agg #[.int .u64 0,.int .u64 0,.int .u64 0,.int .u64 0]).cells m=nsC m (fun _=>0):=fun m=>WI m
 obtain⟨v',w',hr,h2,h3,h4⟩:=JU (P:=Tryz.prog) w base 54 3 o.type 39 i _ 4 32 .i64 Tryz.underlying54 Tryz.underlying3 hi hz hsz hby rfl (by decide) (fun m u hu=>WH (Qs m (fun _=>0)) u (by rw[<-hzc];exact hu)) g cap n _ hown m (by unfold maxLen;omega) (by omega) hbase;rw[hzc,XP m (fun _=>0) (fun i=>f (n+i)) (fun i hi=>(hf i hi).symm),T5]at h2;refine Xt hw v' w' ?_ (h v' w' h2 ⟨h3.os,h3.tape,h3.output,h3.size,fun k hk hn=>h3.block k hk fun e=>hn (by cases e;simp)⟩ h4);unfold execOp;simp only[ho,resolve,invoke,builtin,Sem.run_bind,Sem.run_pure,Result.andThen_ok,List.map_toArray,List.map_cons,List.map_nil,hs,hx,hr]
end
section
variable {P:Program}
section
variable {ops:Array Oper}{C:World->Prop}{Q:Act->World->Prop}{fn:Nat->Bool}{k:Nat}{L:DL}{a:Act}{w:World}{o:Oper}
end
end
end Go.Proofs.YtcdahmommonnfaaGreatDoor
