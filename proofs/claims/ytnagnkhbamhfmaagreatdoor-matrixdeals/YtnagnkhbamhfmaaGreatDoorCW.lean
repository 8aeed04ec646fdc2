import Derived.Test.YtnagnkhbamhfmaaGreatDoorPY
namespace Go.Proofs.YtnagnkhbamhfmaaGreatDoor
set_option linter.all false
open Go.RowKit
section
variable {P:Program}{ops:Array Oper}{Q:Exit->Act->World->Prop}{rest:List Oper}{o:Oper}{a:Act}{w:World}
theorem J2 {fn:Func}(hw:Region.wanted o (yielded ops a.tmps)=true)(f:FuncId)(t:Tmp)(args:Array Operand)(ts:Array TypeId)
  (ho:o.op= .call {callee:=.value (.tmp t),args:=args,argTypes:=ts})(caps:Array Value)(hcl:a.eval (.tmp t)= .func (.func f) #[] caps)(hf:P.funcs[f]?=some fn)(hb:(fn.name== "runtime.NumGoroutine" ||fn.body.isNone)=false)
  (vs:Array Value)(hv':args.toList.map a.eval=vs.toList){R:Ending->World->Prop}(hc:Calls P f (vs++caps) w R)
  (h: ∀e w',R e w'-> ∃v,e= .returned v/\PW P ops Q rest (a.put o.dst v) w'):PW P ops Q (o::rest) a w:=by
 refine⟨?_⟩;unfold wpList;rw[j_ hw];left
 have hv:args.map a.eval=vs:=by apply bO0.1;rw[aR0];exact hv'
 have hr:=Z4 (P:=P) hf hb (vs++caps) w
 have hd:(execOp a.eval o).run P w= .ok (.enter f (vs++caps)) w:=by
  unfold execOp;simp only[ho,resolve,hv,hcl];simp[Deferred.ofValue,invoke,hr]
 unfold Oper.wp;rw[hd,Oper.upon_enter]
 exact hc.mono fun e w' hR=>by
  obtain⟨v,he,hp⟩:=h e w' hR;subst he;exact hp.out
theorem Se (hw:Region.wanted o (yielded ops a.tmps)=true)(t:TypeId)(ho:o.op= .alloc t)(v:Value)(hz: ∀w,(zeroValue t).run P w= .ok v w)(hv:v.cells=#[v])
  (h: ∀g w',w.heap.size<=g->Row w' g #[v] t->Kept [] w w'->PW P ops Q rest (a.put o.dst (.pointer (some ⟨g,0,none⟩))) w'):PW P ops Q (o::rest) a w:=
 VP hw (fun g=>.pointer (some ⟨g,0,none⟩)) t #[v] (by unfold execOp;simp only[ho,Instr.alloc,p_,hz,k_,newVar,hv,newRow];rfl) h
end
theorem Sf (n:Nat)(f:Nat->Nat): ∀m,(nsC n f).toList++(nsC m (fun i=>f (n+i))).toList=(nsC (n+m) f).toList
 |0=>by
  have h:(nsC 0 (fun i=>f (n+i))).toList=[]:=by
   apply bK0;rw[A_,ZZ]
  rw[h,dP0,cC0]
 |m+1=>by
  rw[<-WQ m,<-dL0,Sf n f m,WQ,iJ0]
theorem OC (n:Nat)(f:Nat->Nat):(nsC n f).all (·.oneCell')=true:=by
 rw[gL0];intro i hi;have h:=Xo n f i (by rw[ZZ]at hi;exact hi);rw[S_ hi]at h;rw[aI0 h];rfl
theorem zU {v:Value}{g s x:Nat}(hp:v.ownBlock=some g∨v.ownBlock=some s)(h1:x≠g)(h2:x<s):v.ownBlock≠some x:=fun e=>by
 rcases hp with h|h<;>rw[h]at e<;>cases e
 ·exact h1 rfl
 ·exact dB0 _ h2
theorem Fm {w:World}{base g m N:Nat}{f:Nat->Nat}(r:Row w g (nsC N f) 57)(hb:base<=g)(hm:m<=N)(hN:N<=1000):Wt w base (.slice (some ⟨g,0,none⟩) m N) m f:=by
 refine⟨by rw[A_,ZZ];omega,.inr ⟨g,N,_,rfl,hb,r,hm,by unfold maxLen;omega,by rw[ZZ];omega,?_⟩⟩;have h:=Sf m f (N-m);rw[show m+(N-m)=N by omega]at h;rw[<-h];apply List.take_left';rw[A_,ZZ];omega
theorem Fo {P:Program}(w:World)(base:Nat)(t tn ty e:TypeId)(i:TypeInfo)(z:Value)(size bytes:Nat)(kn:IntKind)(ht:P.underlying t=some (.slice e))(htn:P.underlying tn=some (.int kn))(hi:P.info? e=some i)(hz:i.zero=some z)
  (hsize:i.size=size)(hby:i.bytes=bytes)(hzs:z.cells.size=size)(hsz:0<size)(hz1: ∀m,∀u∈(Builtin.zeroCells z.cells m).toList,u.oneCell'=true)
  (g cap n:Nat)(xs:List Value)(hown:w.ownsRow base e size (.slice (some ⟨g,0,none⟩) n cap) n xs)(m:Nat)
  (h63:n+m<=maxLen)(hbytes:(n+m)*bytes<=140737488355328)(hbase:base<=w.heap.size):
  ∃v' w',(Builtin.append_ #[t,tn] ty #[.slice (some ⟨g,0,none⟩) n cap,.int .i64 m]).run P w= .ok v' w'/\w'.ownsRow base e size v' (n+m) (xs++(Builtin.zeroCells z.cells m).toList)/\w.grownBy w' (some g)/\(v'.ownBlock=some g∨v'.ownBlock=some w.heap.size):=by
 subst hsize
 subst hby
 have hsmall:n+m<=9223372036854775807:=by simp only[maxLen]at h63;omega
 have hw:IntKind.i64.wrap (m:Int)=m:=by rw[J_];omega
 have hneg: ¬((m:Int)<0):=by omega
 have hmb:m*i.bytes<=140737488355328:=f_ (z_ _ (by omega)) hbytes
 have h48i: ¬(281474976710656<(m:Int)*(i.bytes:Int)):=by
  rw[<-cJ0];omega
 generalize hN:(Builtin.zeroCells z.cells m)=N;have hl:N.toList.length=m*i.size:=by rw[A_,<-hN,iB0,hzs]
 have h1: ∀u∈N.toList,u.oneCell'=true:=hN▸hz1 m
 have hlen:(xs++N.toList).length=(n+m)*i.size:=by rw[bC0,hown.1,hl,aV0]
 have hN0:m=0->N=#[]:=fun h=>by rw[<-hN,h];simp[Builtin.zeroCells]
 rcases hown.2 with ⟨h0,_⟩|⟨g',cap',cur,he,hbg,hg,hnc,hcm,hcs,htake⟩
 ·cases h0
 ·obtain⟨rfl,rfl⟩:g=g'/\cap=cap':=by
   simp only[gN0,aL0,Addr.mk.injEq,and_true,true_and]at he;exact he
  by_cases hroom:n+m<=cap
  ·have hfit:n*i.size+N.toList.length<=cur.size:=by rw[hl,hcs,<-aV0];exact z_ _ hroom
   have hst:=run_storeCells_at P g (n*i.size) e N.toList 0 cur w hg (by simpa using hfit) h1;simp only[cC0]at hst
   have hr:(Builtin.append_ #[t,tn] ty #[.slice (some ⟨g,0,none⟩) n cap,.int .i64 m]).run P w= .ok (.slice (some ⟨g,0,none⟩) (n+m) cap) (w.setRow g (cur.toList.take (n*i.size)++N.toList++cur.toList.drop (n*i.size+N.toList.length)).toArray):=by
    by_cases hm:m=0
    ·have hns:m*i.size=0:=by rw[hm,cD0]
     have hN1:=hN0 hm;rw[hN1]at hst ⊢;have hst':(storeCells {block:=g,off:=n*i.size} []).run P w= .ok () (w.setRow g (cur.toList.take (n*i.size)++#[].toList++cur.toList.drop (n*i.size+(#[]:Array Value).toList.length)).toArray):=hst;simp only[Array.toList_empty]at hst' ⊢;simp[Builtin.append_,V_ ht,V_ htn,sizeOf,typeInfo,hi,asInt,asIntOf,hw,hneg,h48i,hns,hroom,Addr.add_lit,hst']
    ·have hns: ¬(m*i.size=0):=Nat.mul_ne_zero hm (by omega);simp[Builtin.append_,V_ ht,V_ htn,sizeOf,typeInfo,zeroValue,hi,hz,asInt,asIntOf,hw,hm,hneg,hns,h48i,hroom,hN,Addr.add_lit,hst]
   refine⟨_,_,hr,⟨hlen,.inr ⟨g,cap,_,rfl,hbg,setRow_heap w g cur _ e _ hg,hroom,hcm,?_,?_⟩⟩,⟨rfl,rfl,rfl,by simp,fun k _ hk=>setRow_other w g k _ (fun e=>hk (by rw[e]))⟩,.inl rfl⟩
   ·simp only[List.size_toArray,bC0,dT0,cG0,A_];rw[A_]at hfit;omega
   ·rw[htake,<-hlen];exact List.take_left
  ·have hm:m≠0:=by omega
   have hns: ¬(m*i.size=0):=Nat.mul_ne_zero hm (by omega);have holds: ∀j u,xs[j]?=some u->w.cell? ((⟨g,0,none⟩:Addr).add j)=some u:=hown.cells (g:=g) rfl
   have hfo:=run_firstCells_some (P:=P) w.drew i.size n ⟨g,0,none⟩ n cap xs hown.1 (by simpa using holds);have h63': ¬(9223372036854775807<((n:Int)+(m:Int))):=by omega
   have h48': ¬(281474976710656<Builtin.nextslicecap (n+m) cap*i.bytes):=by have:=growslice_fits (old:=cap) (by omega) hbytes;omega
   have hge:=grownCap_ge w (n+m) cap e;have hcm':grownCap w (n+m) cap e<=maxLen:=grownCap_le_maxLen w (n+m) cap e h63
   have hr:(Builtin.append_ #[t,tn] ty #[.slice (some ⟨g,0,none⟩) n cap,.int .i64 m]).run P w= .ok (.slice (some ⟨w.heap.size,0,none⟩) (n+m) (grownCap w (n+m) cap e))
     (w.drew.alloc (.cells (xs.toArray++N++Builtin.zeroCells z.cells (grownCap w (n+m) cap e-(n+m))) e)):=by
    simp[Builtin.append_,V_ ht,V_ htn,sizeOf,typeInfo,zeroValue,hi,hz,asInt,asIntOf,hw,hm,hneg,hns,h48i,hroom,h63',h48',Question.forced,hfo,newRow,grownCap,hN]
   refine⟨_,_,hr,⟨hlen,.inr ⟨w.heap.size,_,_,rfl,hbase,gO0 w.drew _,hge,hcm',?_,?_⟩⟩,⟨rfl,rfl,rfl,by simp,fun k hk _=>_root_.Go.heap_alloc_old w.drew _ hk⟩,.inr rfl⟩
   ·have hN2:N.size=m*i.size:=by rw[<-A_];exact hl
    simp only[Array.size_append,List.size_toArray,iB0,hzs,hown.1,hN2,<-aV0]
    congr 1
    omega
   ·simp only[Array.toList_append,dL0];rw[<-dL0,<-hlen];exact List.take_left
section
variable {ops:Array Oper}{Q:Exit->Act->World->Prop}{rest:List Oper}{o:Oper}{a:Act}{w:World}
theorem BF (hw:Region.wanted o (yielded ops a.tmps)=true)(s x:Operand)(ho:o.op= .call {callee:=.builtin .append,args:=#[s,x],argTypes:=#[22,3]})
  (base g cap n:Nat)(f:Nat->Nat)(hs:a.eval s= .slice (some ⟨g,0,none⟩) n cap)(hown:Wt w base (.slice (some ⟨g,0,none⟩) n cap) n f)(m:Nat)(hx:a.eval x= .int .i64 m)(hf: ∀i,i<m->f (n+i)=0)(hn:n+m<=1000)(hbase:base<=w.heap.size)
  (h: ∀v' w',Wt w' base v' (n+m) f->Kept [g] w w'->(v'.ownBlock=some g∨v'.ownBlock=some w.heap.size)->PW Tryz.prog ops Q rest (a.put o.dst v') w'):PW Tryz.prog ops Q (o::rest) a w:=by
 obtain⟨i,hi,hz,hsz,hby⟩:=Yn;have hzc: ∀m,Builtin.zeroCells (Value.agg #[.int .u64 0,.int .u64 0,.int .u64 0,.int .u64 0]).cells m=nsC m (fun _=>0):=fun m=>Xz m
 obtain⟨v',w',hr,h2,h3,h4⟩:=Fo (P:=Tryz.prog) w base 22 3 o.type 57 i _ 4 32 .i64 Tryz.underlying22 Tryz.underlying3 hi hz hsz hby rfl (by decide) (fun m u hu=>Wf (OC m (fun _=>0)) u (by rw[<-hzc];exact hu)) g cap n _ hown m (by unfold maxLen;omega) (by omega) hbase;rw[hzc,Yw m (fun _=>0) (fun i=>f (n+i)) (fun i hi=>(hf i hi).symm),Sf]at h2;refine W8 hw v' w' ?_ (h v' w' h2 ⟨h3.os,h3.tape,h3.output,h3.size,fun k hk hn=>h3.block k hk fun e=>hn (by cases e;simp)⟩ h4);unfold execOp;simp only[ho,resolve,invoke,builtin,p_,Y_,k_,cF0,dC0,eP0,hs,hx,hr]
end
section
variable {P:Program}
section
variable {ops:Array Oper}{C:World->Prop}{Q:Act->World->Prop}{fn:Nat->Bool}{k:Nat}{L:DL}{a:Act}{w:World}{o:Oper}
theorem OD (hw:Region.wanted o (yielded ops a.tmps)=true)(s x:Operand)(t:TypeId)(ho:o.op= .call {callee:=.builtin .append,args:=#[s,x],argTypes:=#[t,t]})
  (base:Nat)(e:TypeId)(i:TypeInfo)(z:Value)(size bytes:Nat)(ht:P.underlying t=some (.slice e))(hi:P.info? e=some i)(hz:i.zero=some z)(hsize:i.size=size)(hby:i.bytes=bytes)(hzs:z.cells.size=size)(hsz:0<size)
  (v:Value)(n:Nat)(xs:List Value)(hs:a.eval s=v)(hown:w.ownsRow base e size v n xs)(gx c:Nat)(hx:a.eval x= .slice (some ⟨gx,0,none⟩) 1 c){cx:Array Value}{tx:TypeId}(rx:Row w gx cx tx)(hcx:cx.size=size)(h1:cx.all (·.oneCell')=true)
  (h63:n+1<=maxLen)(hbytes:(n+1)*bytes<=140737488355328)(hbase:base<=w.heap.size)
  (h: ∀w2,Below w.heap.size w w2-> ∀v' w3,w3.ownsRow base e size v' (n+1) (xs++cx.toList)->Kept v.ownBlock.toList w2 w3->(v'.ownBlock=v.ownBlock∨v'.ownBlock=some w2.heap.size)->(fn k=false->C w3)/\EW P ops C Q fn L (a.put o.dst v') w3):EW P ops C Q fn ((k,o,true)::L) a w:=by
 refine T2 hw fun w2 hb=>?_
 have own2:=own_below hown hb;have rx2:=rx.belowAll hb;have hl:cx.toList.length=1*size:=by rw[A_,hcx,cM0]
 have hnews: ∀j u,cx.toList[j]?=some u->w2.cell? ((⟨gx,0,none⟩:Addr).add j)=some u:=by
  intro j u hu;rw[o_]at hu;rw[Addr.add_mid,B_,cell_of_row w2 gx j cx tx (0,0) rx2];exact hu
 have hbase2:base<=w2.heap.size:=f_ hbase hb.size;obtain⟨v',w',hr,h2,h3,_⟩:=iA0 (P:=P) w2 base t o.type e i z size bytes ht hi hz hsize hby hzs hsz v n xs own2 ⟨gx,0,none⟩ 1 c cx.toList hl hnews (Wf h1) h63 hbytes hbase2;have hp:=Pc (P:=P) w2 base t o.type e i z size bytes ht hi hz hsize hby v n xs own2 ⟨gx,0,none⟩ 1 c cx.toList hl hnews (Wf h1) h63 hbytes (by decide) v' w' hr
 have hd:(execOp a.eval o).run P w2= .ok (.value v') w':=by
  unfold execOp;simp only[ho,resolve,invoke,builtin,p_,Y_,k_,cF0,dC0,eP0,hs,hx,hr]
 rw[hd]
 exact h w2 hb v' w' h2 ⟨h3.os,h3.tape,h3.output,h3.size,fun k hk hn=>h3.block k hk fun e=>by
  rw[<-e]at hn
  simp at hn⟩ hp
end
end
end Go.Proofs.YtnagnkhbamhfmaaGreatDoor
