import Derived.Test.YtnagnkhbamhfmaaGreatDoorPY
namespace Go.Proofs.YtnagnkhbamhfmaaGreatDoor
set_option linter.all false
open Go.RowKit
section
variable {P:Program}{ops:Array Oper}{Q:Exit->Act->World->Prop}{rest:List Oper}{o:Oper}{a:Act}{w:World}
theorem KS {fn:Func}(hw:Region.wanted o (yielded ops a.tmps)=true)(f:FuncId)(t:Tmp)(args:Array Operand)(ts:Array TypeId)
  (ho:o.op= .call {callee:=.value (.tmp t),args:=args,argTypes:=ts})(caps:Array Value)(hcl:a.eval (.tmp t)= .func (.func f) #[] caps)(hf:P.funcs[f]?=some fn)(hb:(fn.name== "runtime.NumGoroutine" ||fn.body.isNone)=false)
  (vs:Array Value)(hv':args.toList.map a.eval=vs.toList){R:Ending->World->Prop}(hc:Calls P f (vs++caps) w R)
  (h: ∀e w',R e w'-> ∃v,e= .returned v/\PW P ops Q rest (a.put o.dst v) w'):PW P ops Q (o::rest) a w:=by
 refine⟨?_⟩;unfold wpList;rw[if_pos hw];left
 have hv:args.map a.eval=vs:=by apply Array.toList_inj.1;rw[Array.toList_map];exact hv'
 have hr:=ZY (P:=P) hf hb (vs++caps) w
 have hd:(execOp a.eval o).run P w= .ok (.enter f (vs++caps)) w:=by
  unfold execOp;simp only[ho,resolve,hv,hcl];simp[Deferred.ofValue,invoke,hr]
 unfold Oper.wp;rw[hd,Oper.upon_enter]
 exact hc.mono fun e w' hR=>by
  obtain⟨v,he,hp⟩:=h e w' hR;subst he;exact hp.out
theorem V9 (hw:Region.wanted o (yielded ops a.tmps)=true)(t:TypeId)(ho:o.op= .alloc t)(v:Value)(hz: ∀w,(zeroValue t).run P w= .ok v w)(hv:v.cells=#[v])
  (h: ∀g w',w.heap.size<=g->Row w' g #[v] t->Kept [] w w'->PW P ops Q rest (a.put o.dst (.pointer (some ⟨g,0,none⟩))) w'):PW P ops Q (o::rest) a w:=
 W9 hw (fun g=>.pointer (some ⟨g,0,none⟩)) t #[v] (by unfold execOp;simp only[ho,Instr.alloc,Sem.run_bind,hz,Result.andThen_ok,newVar,hv,newRow];rfl) h
end
theorem S8 (n:Nat)(f:Nat->Nat): ∀m,(nsC n f).toList++(nsC m (fun i=>f (n+i))).toList=(nsC (n+m) f).toList
 |0=>by
  have h:(nsC 0 (fun i=>f (n+i))).toList=[]:=by
   apply List.eq_nil_of_length_eq_zero;rw[Array.length_toList,ZX]
  rw[h,List.append_nil,Nat.add_zero]
 |m+1=>by
  rw[<-Uw m,<-List.append_assoc,S8 n f m,Uw,Nat.add_assoc]
theorem KU (n:Nat)(f:Nat->Nat):(nsC n f).all (·.oneCell')=true:=by
 rw[Array.all_eq_true];intro i hi;have h:=Xg n f i (by rw[ZX]at hi;exact hi);rw[Array.getElem?_eq_getElem hi]at h;rw[Option.some.inj h];rfl
theorem BI {v:Value}{g s x:Nat}(hp:v.ownBlock=some g∨v.ownBlock=some s)(h1:x≠g)(h2:x<s):v.ownBlock≠some x:=fun e=>by
 rcases hp with h|h<;>rw[h]at e<;>cases e
 ·exact h1 rfl
 ·exact Nat.lt_irrefl _ h2
theorem Hn {w:World}{base g m N:Nat}{f:Nat->Nat}(r:Row w g (nsC N f) 57)(hb:base<=g)(hm:m<=N)(hN:N<=1000):Vg w base (.slice (some ⟨g,0,none⟩) m N) m f:=by
 refine⟨by rw[Array.length_toList,ZX];omega,.inr ⟨g,N,_,rfl,hb,r,hm,by unfold maxLen;omega,by rw[ZX];omega,?_⟩⟩;have h:=S8 m f (N-m);rw[show m+(N-m)=N by omega]at h;rw[<-h];apply List.take_left';rw[Array.length_toList,ZX];omega
theorem Ho {P:Program}(w:World)(base:Nat)(t tn ty e:TypeId)(i:TypeInfo)(z:Value)(size bytes:Nat)(kn:IntKind)(ht:P.underlying t=some (.slice e))(htn:P.underlying tn=some (.int kn))(hi:P.info? e=some i)(hz:i.zero=some z)
  (hsize:i.size=size)(hby:i.bytes=bytes)(hzs:z.cells.size=size)(hsz:0<size)(hz1: ∀m,∀u∈(Builtin.zeroCells z.cells m).toList,u.oneCell'=true)
  (g cap n:Nat)(xs:List Value)(hown:w.ownsRow base e size (.slice (some ⟨g,0,none⟩) n cap) n xs)(m:Nat)
  (h63:n+m<=maxLen)(hbytes:(n+m)*bytes<=140737488355328)(hbase:base<=w.heap.size):
  ∃v' w',(Builtin.append_ #[t,tn] ty #[.slice (some ⟨g,0,none⟩) n cap,.int .i64 m]).run P w= .ok v' w'/\w'.ownsRow base e size v' (n+m) (xs++(Builtin.zeroCells z.cells m).toList)/\w.grownBy w' (some g)/\(v'.ownBlock=some g∨v'.ownBlock=some w.heap.size):=by
 subst hsize
 subst hby
 have hsmall:n+m<=9223372036854775807:=by simp only[maxLen]at h63;omega
 have hw:IntKind.i64.wrap (m:Int)=m:=by rw[IntKind.wrap_i64];omega
 have hneg: ¬((m:Int)<0):=by omega
 have hmb:m*i.bytes<=140737488355328:=Nat.le_trans (Nat.mul_le_mul_right _ (by omega)) hbytes
 have h48i: ¬(281474976710656<(m:Int)*(i.bytes:Int)):=by
  rw[<-Int.natCast_mul];omega
 generalize hN:(Builtin.zeroCells z.cells m)=N;have hl:N.toList.length=m*i.size:=by rw[Array.length_toList,<-hN,size_zeroCells,hzs]
 have h1: ∀u∈N.toList,u.oneCell'=true:=hN▸hz1 m
 have hlen:(xs++N.toList).length=(n+m)*i.size:=by rw[List.length_append,hown.1,hl,Nat.add_mul]
 have hN0:m=0->N=#[]:=fun h=>by rw[<-hN,h];simp[Builtin.zeroCells]
 rcases hown.2 with ⟨h0,_⟩|⟨g',cap',cur,he,hbg,hg,hnc,hcm,hcs,htake⟩
 ·cases h0
 ·obtain⟨rfl,rfl⟩:g=g'/\cap=cap':=by
   simp only[Value.slice.injEq,Option.some.injEq,Addr.mk.injEq,and_true,true_and]at he;exact he
  by_cases hroom:n+m<=cap
  ·have hfit:n*i.size+N.toList.length<=cur.size:=by rw[hl,hcs,<-Nat.add_mul];exact Nat.mul_le_mul_right _ hroom
   have hst:=run_storeCells_at P g (n*i.size) e N.toList 0 cur w hg (by simpa using hfit) h1;simp only[Nat.add_zero]at hst
   have hr:(Builtin.append_ #[t,tn] ty #[.slice (some ⟨g,0,none⟩) n cap,.int .i64 m]).run P w= .ok (.slice (some ⟨g,0,none⟩) (n+m) cap) (w.setRow g (cur.toList.take (n*i.size)++N.toList++cur.toList.drop (n*i.size+N.toList.length)).toArray):=by
    by_cases hm:m=0
    ·have hns:m*i.size=0:=by rw[hm,Nat.zero_mul]
     have hN1:=hN0 hm;rw[hN1]at hst ⊢;have hst':(storeCells {block:=g,off:=n*i.size} []).run P w= .ok () (w.setRow g (cur.toList.take (n*i.size)++#[].toList++cur.toList.drop (n*i.size+(#[]:Array Value).toList.length)).toArray):=hst;simp only[Array.toList_empty]at hst' ⊢;simp[Builtin.append_,run_underlying ht,run_underlying htn,sizeOf,typeInfo,hi,asInt,asIntOf,hw,hneg,h48i,hns,hroom,Addr.add_lit,hst']
    ·have hns: ¬(m*i.size=0):=Nat.mul_ne_zero hm (by omega);simp[Builtin.append_,run_underlying ht,run_underlying htn,sizeOf,typeInfo,zeroValue,hi,hz,asInt,asIntOf,hw,hm,hneg,hns,h48i,hroom,hN,Addr.add_lit,hst]
   refine⟨_,_,hr,⟨hlen,.inr ⟨g,cap,_,rfl,hbg,setRow_heap w g cur _ e _ hg,hroom,hcm,?_,?_⟩⟩,⟨rfl,rfl,rfl,by simp,fun k _ hk=>setRow_other w g k _ (fun e=>hk (by rw[e]))⟩,.inl rfl⟩
   ·simp only[List.size_toArray,List.length_append,List.length_take,List.length_drop,Array.length_toList];rw[Array.length_toList]at hfit;omega
   ·rw[htake,<-hlen];exact List.take_left
  ·have hm:m≠0:=by omega
   have hns: ¬(m*i.size=0):=Nat.mul_ne_zero hm (by omega);have holds: ∀j u,xs[j]?=some u->w.cell? ((⟨g,0,none⟩:Addr).add j)=some u:=hown.cells (g:=g) rfl
   have hfo:=run_firstCells_some (P:=P) w.drew i.size n ⟨g,0,none⟩ n cap xs hown.1 (by simpa using holds);have h63': ¬(9223372036854775807<((n:Int)+(m:Int))):=by omega
   have h48': ¬(281474976710656<Builtin.nextslicecap (n+m) cap*i.bytes):=by have:=growslice_fits (old:=cap) (by omega) hbytes;omega
   have hge:=grownCap_ge w (n+m) cap e;have hcm':grownCap w (n+m) cap e<=maxLen:=grownCap_le_maxLen w (n+m) cap e h63
   have hr:(Builtin.append_ #[t,tn] ty #[.slice (some ⟨g,0,none⟩) n cap,.int .i64 m]).run P w= .ok (.slice (some ⟨w.heap.size,0,none⟩) (n+m) (grownCap w (n+m) cap e))
     (w.drew.alloc (.cells (xs.toArray++N++Builtin.zeroCells z.cells (grownCap w (n+m) cap e-(n+m))) e)):=by
    simp[Builtin.append_,run_underlying ht,run_underlying htn,sizeOf,typeInfo,zeroValue,hi,hz,asInt,asIntOf,hw,hm,hneg,hns,h48i,hroom,h63',h48',Question.forced,hfo,newRow,grownCap,hN]
   refine⟨_,_,hr,⟨hlen,.inr ⟨w.heap.size,_,_,rfl,hbase,heap_alloc_new w.drew _,hge,hcm',?_,?_⟩⟩,⟨rfl,rfl,rfl,by simp,fun k hk _=>_root_.Go.heap_alloc_old w.drew _ hk⟩,.inr rfl⟩
   ·have hN2:N.size=m*i.size:=by rw[<-Array.length_toList];exact hl
    simp only[Array.size_append,List.size_toArray,size_zeroCells,hzs,hown.1,hN2,<-Nat.add_mul]
    congr 1
    omega
   ·simp only[Array.toList_append,List.append_assoc];rw[<-List.append_assoc,<-hlen];exact List.take_left
section
variable {ops:Array Oper}{Q:Exit->Act->World->Prop}{rest:List Oper}{o:Oper}{a:Act}{w:World}
theorem DF (hw:Region.wanted o (yielded ops a.tmps)=true)(s x:Operand)(ho:o.op= .call {callee:=.builtin .append,args:=#[s,x],argTypes:=#[22,3]})
  (base g cap n:Nat)(f:Nat->Nat)(hs:a.eval s= .slice (some ⟨g,0,none⟩) n cap)(hown:Vg w base (.slice (some ⟨g,0,none⟩) n cap) n f)(m:Nat)(hx:a.eval x= .int .i64 m)(hf: ∀i,i<m->f (n+i)=0)(hn:n+m<=1000)(hbase:base<=w.heap.size)
  (h: ∀v' w',Vg w' base v' (n+m) f->Kept [g] w w'->(v'.ownBlock=some g∨v'.ownBlock=some w.heap.size)->PW Tryz.prog ops Q rest (a.put o.dst v') w'):PW Tryz.prog ops Q (o::rest) a w:=by
 obtain⟨i,hi,hz,hsz,hby⟩:=Yn;have hzc: ∀m,Builtin.zeroCells (Value.agg #[.int .u64 0,.int .u64 0,.int .u64 0,.int .u64 0]).cells m=nsC m (fun _=>0):=fun m=>Xq m
 obtain⟨v',w',hr,h2,h3,h4⟩:=Ho (P:=Tryz.prog) w base 22 3 o.type 57 i _ 4 32 .i64 Tryz.underlying22 Tryz.underlying3 hi hz hsz hby rfl (by decide) (fun m u hu=>VJ (KU m (fun _=>0)) u (by rw[<-hzc];exact hu)) g cap n _ hown m (by unfold maxLen;omega) (by omega) hbase;rw[hzc,Yq m (fun _=>0) (fun i=>f (n+i)) (fun i hi=>(hf i hi).symm),S8]at h2;refine WD hw v' w' ?_ (h v' w' h2 ⟨h3.os,h3.tape,h3.output,h3.size,fun k hk hn=>h3.block k hk fun e=>hn (by cases e;simp)⟩ h4);unfold execOp;simp only[ho,resolve,invoke,builtin,Sem.run_bind,Sem.run_pure,Result.andThen_ok,List.map_toArray,List.map_cons,List.map_nil,hs,hx,hr]
end
section
variable {P:Program}
section
variable {ops:Array Oper}{C:World->Prop}{Q:Act->World->Prop}{fn:Nat->Bool}{k:Nat}{L:DL}{a:Act}{w:World}{o:Oper}
end
end
end Go.Proofs.YtnagnkhbamhfmaaGreatDoor
