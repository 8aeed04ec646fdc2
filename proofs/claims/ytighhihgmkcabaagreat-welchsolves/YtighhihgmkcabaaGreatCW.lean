import Derived.Test.YtighhihgmkcabaaGreatPY
namespace Go.Proofs.YtighhihgmkcabaaGreat
open Go.RowKit
set_option linter.unusedVariables false
set_option linter.unusedSimpArgs false
section
variable {P:Program}{ops:Array Oper}{Q:Exit->Act->World->Prop}{rest:List Oper}{o:Oper}{a:Act}{w:World}
theorem pw_newv (hw:Region.wanted o (yielded ops a.tmps)=true)(t:TypeId)(ho:o.op= .alloc t)(v:Value)(hz: ∀w,(zeroValue t).run P w= .ok v w)(hv:v.cells=#[v])
  (h: ∀g w',w.heap.size<=g->Row w' g #[v] t->Kept [] w w'->PW P ops Q rest (a.put o.dst (.pointer (some ⟨g,0,none⟩))) w'):PW P ops Q (o::rest) a w:=
 pw_made hw (fun g=>.pointer (some ⟨g,0,none⟩)) t #[v] (by unfold execOp;simp only[ho,Instr.alloc,Sem.run_bind,hz,Result.andThen_ok,newVar,hv,newRow];rfl) h
theorem pw_lit0 (hw:Region.wanted o (yielded ops a.tmps)=true)(t e:TypeId)(ho:o.op= .buildSlice t 0 #[])(ie:TypeInfo)(hu:P.underlying t=some (.slice e))(hie:P.info? e=some ie)
  (h: ∀g w',w.heap.size<=g->Row w' g #[] e->Kept [] w w'->PW P ops Q rest (a.put o.dst (.slice (some ⟨g,0,none⟩) 0 0)) w'):PW P ops Q (o::rest) a w:=by
 refine pw_made hw (fun g=>.slice (some ⟨g,0,none⟩) 0 0) e #[] ?_ h
 have hr:(Instr.buildSlice t 0 #[]).run P w= .ok (.slice (some ⟨w.heap.size,0,none⟩) 0 0) (w.alloc (.cells #[] e)):=by
  simp[Instr.buildSlice,run_underlying hu,sizeOf,typeInfo,hie,newRow,Instr.fill]
  congr 2
  exact Array.eq_empty_of_size_eq_zero (by simp)
 unfold execOp
 simp only[ho,Sem.run_bind];simp only[List.map_toArray,List.map_nil,hr]
 rfl
theorem y_rests (t:TypeId)(x lo:Operand){ρ:Operand->Value}(ho:o.op= .slice t x (some lo) none none)(hu:P.underlying t=some (.slice (P.elem t)))(z:Nat)(hz: ∀w,(sizeOf (P.elem t)).run P w= .ok z w)(g off n c m:Nat)(hx:ρ x= .slice (some ⟨g,off,none⟩) n c)(hh:ρ lo= .int .i64 m)(hm:m<=n)(hmc:n<=c)(w:World):
  (execOp ρ o).run P w= .ok (.value (.slice (some ⟨g,if c=m then off else off+m*z,none⟩) (n-m) (c-m))) w:=by
 have h1:(Instr.sliceAt t (.slice (some ⟨g,off,none⟩) n c) (some (.int .i64 m)) none none).run P w= .ok (.slice (some ⟨g,if c=m then off else off+m*z,none⟩) (n-m) (c-m)) w:=by
  rw[run_sliceAt_slice w t _ _ _ _ hu,run_slice_l w t _ n c hu .i64 m (by omega) (by omega),hz,Result.andThen_ok,Int.toNat_natCast]
  unfold sliced
  by_cases e:c=m
  ·rw[if_pos e,if_pos e]
  ·rw[if_neg e,if_neg e,Option.map_some]
   rw[show(⟨g,off,none⟩:Addr).add (m*z)=⟨g,off+m*z,none⟩ by unfold Addr.add;split<;>simp<;>omega]
 unfold execOp
 simp only[ho,hx,hh,Option.map_some,Option.map_none,Sem.run_bind,h1,Result.andThen_ok]
 rfl
end
section
variable {ops:Array Oper}{Q:Exit->Act->World->Prop}{rest:List Oper}{o:Oper}{a:Act}{w:World}
end
section
variable {P:Program}
section
variable {ops:Array Oper}{C:World->Prop}{Q:Act->World->Prop}{fn:Nat->Bool}{k:Nat}{L:DL}{a:Act}{w:World}{o:Oper}
theorem ew_app1 (hw:Region.wanted o (yielded ops a.tmps)=true)(s x:Operand)(t:TypeId)(ho:o.op= .call {callee:=.builtin .append,args:=#[s,x],argTypes:=#[t,t]})
  (base:Nat)(e:TypeId)(i:TypeInfo)(z:Value)(size bytes:Nat)(ht:P.underlying t=some (.slice e))(hi:P.info? e=some i)(hz:i.zero=some z)(hsize:i.size=size)(hby:i.bytes=bytes)(hzs:z.cells.size=size)(hsz:0<size)
  (v:Value)(n:Nat)(xs:List Value)(hs:a.eval s=v)(hown:w.ownsRow base e size v n xs)(gx c:Nat)(hx:a.eval x= .slice (some ⟨gx,0,none⟩) 1 c){cx:Array Value}{tx:TypeId}(rx:Row w gx cx tx)(hcx:cx.size=size)(h1:cx.all (·.oneCell')=true)
  (h63:n+1<=maxLen)(hbytes:(n+1)*bytes<=140737488355328)(hbase:base<=w.heap.size)
  (h: ∀w2,Below w.heap.size w w2-> ∀v' w3,w3.ownsRow base e size v' (n+1) (xs++cx.toList)->Kept v.ownBlock.toList w2 w3->(v'.ownBlock=v.ownBlock∨v'.ownBlock=some w2.heap.size)->(fn k=false->C w3)/\EW P ops C Q fn L (a.put o.dst v') w3):EW P ops C Q fn ((k,o,true)::L) a w:=by
 refine ew_hard hw fun w2 hb=>?_
 have own2:=own_below hown hb
 have rx2:=rx.belowAll hb
 have hl:cx.toList.length=1*size:=by rw[Array.length_toList,hcx,Nat.one_mul]
 have hnews: ∀j u,cx.toList[j]?=some u->w2.cell? ((⟨gx,0,none⟩:Addr).add j)=some u:=by
  intro j u hu
  rw[Array.getElem?_toList]at hu
  rw[Addr.add_mid,Nat.zero_add,cell_of_row w2 gx j cx tx (0,0) rx2]
  exact hu
 have hbase2:base<=w2.heap.size:=Nat.le_trans hbase hb.size
 obtain⟨v',w',hr,h2,h3,_⟩:=run_append_own (P:=P) w2 base t o.type e i z size bytes ht hi hz hsize hby hzs hsz v n xs own2 ⟨gx,0,none⟩ 1 c cx.toList hl hnews (cells_one h1) h63 hbytes hbase2
 have hp:=app_place (P:=P) w2 base t o.type e i z size bytes ht hi hz hsize hby v n xs own2 ⟨gx,0,none⟩ 1 c cx.toList hl hnews (cells_one h1) h63 hbytes (by decide) v' w' hr
 have hd:(execOp a.eval o).run P w2= .ok (.value v') w':=by
  unfold execOp
  simp only[ho,resolve,invoke,builtin,Sem.run_bind,Sem.run_pure,Result.andThen_ok,List.map_toArray,List.map_cons,List.map_nil,hs,hx,hr]
 rw[hd]
 exact h w2 hb v' w' h2 ⟨h3.os,h3.tape,h3.output,h3.size,fun k hk hn=>h3.block k hk fun e=>by
  rw[<-e]at hn
  simp at hn⟩ hp
end
end
end Go.Proofs.YtighhihgmkcabaaGreat
