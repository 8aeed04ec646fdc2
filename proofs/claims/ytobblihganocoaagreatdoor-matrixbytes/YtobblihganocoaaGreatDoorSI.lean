import Derived.Test.YtobblihganocoaaGreatDoorSH
import Derived.Laws.IdiomCopy
import Derived.Laws.MakeOwn
import Derived.Test.YtobblihganocoaaGreatDoorGU
import Derived.Test.YtobblihganocoaaGreatDoorTie
import Derived.Test.YtobblihganocoaaGreatDoorCards
import Derived.LaidMore
import Derived.Lib.LaidTab
import Derived.SevenTiedAt
set_option maxRecDepth 100000
set_option maxHeartbeats 2000000
namespace Go.Proofs.YtobblihganocoaaGreatDoor
open Go.RowKit
open Go.Proofs.Tryz
set_option linter.unusedVariables false
def hv (q:Bool)(v B:Nat->Nat)(c:Nat)(i:Nat):Value:=
 if i=0 then .bool q else if i<9 then .int .u32 (v (i-1):Nat)else if i<73 then .int .u8 (B (i-9):Nat)else .int .u64 c
def hC (q:Bool)(v B:Nat->Nat)(c:Nat):Array Value:=Array.ofFn (n:=74) fun i=>hv q v B c i
theorem Xp (q:Bool)(v B:Nat->Nat)(c:Nat):(hC q v B c).size=74:=by simp[hC]
theorem Wu (q:Bool)(v B:Nat->Nat)(c i:Nat)(h:i<74):(hC q v B c)[i]?=some (hv q v B c i):=by simp[hC,h]
theorem NJ {q:Bool}{v B:Nat->Nat}{c:Nat}{a:Array Value}(hs:a.size=74)(h: ∀i,i<74->a[i]?=some (hv q v B c i)):a=hC q v B c:=by
 apply Array.ext_getElem?
 intro i
 by_cases hi:i<74
 ·rw[h i hi,Wu _ _ _ _ _ hi]
 ·rw[Array.getElem?_eq_none (by omega),Array.getElem?_eq_none (by rw[Xp];omega)]
theorem zr (q:Bool)(v B:Nat->Nat)(c:Nat):(hC q v B c).all (·.oneCell')=true:=by
 rw[Array.all_eq_true]
 intro i hi
 have:(hC q v B c)[i]=hv q v B c i:=by simp[hC]
 rw[this]
 unfold hv
 split
 ·rfl
 ·split
  ·rfl
  ·split<;>rfl
theorem Fz {q:Bool}{v v' B B':Nat->Nat}{c:Nat}(hvv: ∀i,i<8->v i=v' i)(hb: ∀i,i<64->B i=B' i):hC q v B c=hC q v' B' c:=by
 refine NJ (Xp _ _ _ _) fun i hi=>?_
 rw[Wu _ _ _ _ _ hi]
 unfold hv
 by_cases h0:i=0
 ·rw[if_pos h0,if_pos h0]
 rw[if_neg h0,if_neg h0]
 by_cases h1:i<9
 ·rw[if_pos h1,if_pos h1,hvv _ (by omega)]
 rw[if_neg h1,if_neg h1]
 by_cases h2:i<73
 ·rw[if_pos h2,if_pos h2,hb _ (by omega)]
 ·rw[if_neg h2,if_neg h2]
theorem xT (q:Bool)(v B:Nat->Nat)(c:Nat): ∀j x,(rC .u32 8 v).toList[j]?=some x->(hC q v B c)[1+j]?=some x:=by
 intro j x hx
 have hj:j<8:=by
  rcases Nat.lt_or_ge j 8 with h|h
  ·exact h
  ·rw[List.getElem?_eq_none (by rw[Array.length_toList,ZB];exact h)]at hx;cases hx
 rw[Array.getElem?_toList,ZO _ _ _ _ hj]at hx
 rw[Wu _ _ _ _ _ (by omega),<-hx]
 unfold hv
 rw[if_neg (by omega),if_pos (by omega),Nat.add_sub_cancel_left]
theorem xU (q:Bool)(v B:Nat->Nat)(c:Nat): ∀j x,(rC .u8 64 B).toList[j]?=some x->(hC q v B c)[9+j]?=some x:=by
 intro j x hx
 have hj:j<64:=by
  rcases Nat.lt_or_ge j 64 with h|h
  ·exact h
  ·rw[List.getElem?_eq_none (by rw[Array.length_toList,ZB];exact h)]at hx;cases hx
 rw[Array.getElem?_toList,ZO _ _ _ _ hj]at hx
 rw[Wu _ _ _ _ _ (by omega),<-hx]
 unfold hv
 rw[if_neg (by omega),if_neg (by omega),if_pos (by omega),Nat.add_sub_cancel_left]
theorem Br (q:Bool)(v B:Nat->Nat)(c k:Nat)(h:k<8):(hC q v B c)[1+k]?=some (.int .u32 (v k:Nat)):=by
 rw[Wu _ _ _ _ _ (by omega)];unfold hv;rw[if_neg (by omega),if_pos (by omega),Nat.add_sub_cancel_left]
theorem zv (q:Bool)(v B:Nat->Nat)(c:Nat): ∀j x,(hC q v B c).toList[j]?=some x->(hC q v B c)[0+j]?=some x:=by
 intro j x hx
 rw[Nat.zero_add,<-Array.getElem?_toList];exact hx
theorem Bs (q:Bool)(v v' B:Nat->Nat)(c:Nat):Tg (hC q v B c) 1 (rC .u32 8 v').toList=hC q v' B c:=by
 have hl:(rC .u32 8 v').toList.length=8:=by rw[Array.length_toList,ZB]
 refine NJ (by rw[VW,Xp]) fun i hi=>?_
 rw[Vh _ _ _ _ (by rw[hl,Xp];omega),hl]
 by_cases h:1<=i/\i<1+8
 ·rw[if_pos h,Array.getElem?_toList,ZO _ _ _ _ (by omega)]
  unfold hv
  rw[if_neg (by omega),if_pos (by omega)]
 ·rw[if_neg h,Wu _ _ _ _ _ hi]
  unfold hv
  by_cases h0:i=0
  ·rw[if_pos h0,if_pos h0]
  ·rw[if_neg h0,if_neg h0,if_neg (show ¬i<9 by omega),if_neg (show ¬i<9 by omega)]
theorem Bt (q:Bool)(v B:Nat->Nat)(c d:Nat):(hC q v B c).setIfInBounds 73 (.int .u64 (d:Nat))=hC q v B d:=by
 refine NJ (by rw[Array.size_setIfInBounds,Xp]) fun i hi=>?_
 rw[Array.getElem?_setIfInBounds]
 by_cases h:73=i
 ·subst h
  rw[if_pos rfl,if_pos (by rw[Xp];omega)]
  rfl
 ·rw[if_neg h,Wu _ _ _ _ _ hi]
  unfold hv
  by_cases h0:i=0
  ·rw[if_pos h0,if_pos h0]
  ·rw[if_neg h0,if_neg h0]
   by_cases h1:i<9
   ·rw[if_pos h1,if_pos h1]
   ·rw[if_neg h1,if_neg h1,if_pos (by omega),if_pos (by omega)]
def b8s (l:List UInt8):List Value:=l.map fun b=>.int .u8 (b.toNat:Int)
theorem Z8 (l:List UInt8):(b8s l).length=l.length:=by simp[b8s]
theorem VN (l:List UInt8)(j:Nat)(h:j<l.length):(b8s l)[j]?=some (.int .u8 (bf l j:Nat)):=by
 unfold b8s bf
 rw[List.getElem?_map,List.getD_eq_getElem?_getD,List.getElem?_eq_getElem h]
 rfl
theorem Oz (l:List UInt8): ∀x∈b8s l,x.oneCell'=true:=by
 intro x hx
 obtain⟨b,_,rfl⟩:=List.mem_map.1 hx
 rfl
def cpB (B:Nat->Nat)(F:Nat)(l:List UInt8)(i:Nat):Nat:=if F<=i/\i<F+l.length then bf l (i-F)else B i
theorem J9 (q:Bool)(v B:Nat->Nat)(c F:Nat)(l:List UInt8)(h:F+l.length<=64):Tg (hC q v B c) (9+F) (b8s l)=hC q v (cpB B F l) c:=by
 refine NJ (by rw[VW,Xp]) fun i hi=>?_
 rw[Vh _ _ _ _ (by rw[Z8,Xp];omega),Z8]
 unfold hv cpB
 by_cases h1:9+F<=i/\i<9+F+l.length
 ·rw[if_pos h1,VN _ _ (by omega),if_neg (by omega),if_neg (by omega),if_pos (by omega),if_pos (by omega),show i-9-F=i-(9+F) by omega]
 ·rw[if_neg h1,Wu _ _ _ _ _ hi]
  unfold hv
  by_cases h0:i=0
  ·rw[if_pos h0,if_pos h0]
  rw[if_neg h0,if_neg h0]
  by_cases h2:i<9
  ·rw[if_pos h2,if_pos h2]
  rw[if_neg h2,if_neg h2]
  by_cases h3:i<73
  ·rw[if_pos h3,if_pos h3,if_neg (by omega)]
  ·rw[if_neg h3,if_neg h3]
theorem Pf:(Tryz.prog.info? 187).map (·.size)=some 74:=by kernel_rfl
theorem Ia (w:World):(zeroValue 187).run Tryz.prog w= .ok (.agg (hC false (fun _=>0) (fun _=>0) 0)) w:=by
 have h:(Tryz.prog.info? 187).map (fun i=>(i.zero,i.size))=some (some (.agg (hC false (fun _=>0) (fun _=>0) 0)),74):=by kernel_rfl
 exact(zero_of_info h).1 w
section
variable {P:Program}{o:Oper}{ρ:Operand->Value}
theorem NK (t e:TypeId)(x lo:Operand)(n:Nat)(hu:P.underlying t=some (.array n e))(hz: ∀w,(sizeOf e).run P w= .ok 1 w)(ho:o.op= .slice t x (some lo) none none)(g off l:Nat)(hx:ρ x= .pointer (some ⟨g,off,none⟩))(hl:ρ lo= .int .i64 l)
  (hn:l<n)(w:World):(execOp ρ o).run P w= .ok (.value (.slice (some ⟨g,off+l,none⟩) (n-l) (n-l))) w:=by
 have hA:P.arrayLen t=n:=by simp[Program.arrayLen,hu]
 have hE:P.elem t=e:=by simp[Program.elem,hu]
 have hr:=run_sliceAt_array_l (P:=P) w t ⟨g,off,none⟩ (by rw[hA,hE];exact hu) .i64 l (by omega) (by rw[hA];omega)
 unfold execOp
 simp only[ho,hx,hl,Option.map_some,Option.map_none,Sem.run_bind]
 rw[hr,hA,hE,hz]
 unfold slicedAt
 simp only[Int.toNat_natCast,Result.andThen_ok]
 rw[if_neg (by omega),Nat.mul_one,Addr.add_mid]
 rfl
theorem MY (t e:TypeId)(x:Operand)(n:Nat)(hu:P.underlying t=some (.array n e))(hz: ∀w,(sizeOf e).run P w= .ok 1 w)(ho:o.op= .slice t x none none none)(g off:Nat)(hx:ρ x= .pointer (some ⟨g,off,none⟩))
  (hn:0<n)(w:World):(execOp ρ o).run P w= .ok (.value (.slice (some ⟨g,off,none⟩) n n)) w:=by
 have hA:P.arrayLen t=n:=by simp[Program.arrayLen,hu]
 have hE:P.elem t=e:=by simp[Program.elem,hu]
 have hr:=run_sliceAt_array_all (P:=P) w t ⟨g,off,none⟩ (by rw[hA,hE];exact hu)
 unfold execOp
 simp only[ho,hx,Option.map_none,Sem.run_bind]
 rw[hr,hA,hE,hz]
 unfold slicedAt
 simp only[Result.andThen_ok]
 rw[if_neg (by omega),Nat.zero_mul,Addr.add_mid]
 rfl
theorem MZ (l:List UInt8)(k:Nat)(h:k<=l.length):(⟨l.toArray⟩:ByteArray).extract k (⟨l.toArray⟩:ByteArray).size=⟨(l.drop k).toArray⟩:=by
 apply ByteArray.ext
 rw[ByteArray.data_extract]
 simp[ByteArray.size]
 exact List.take_of_length_le (by simp)
theorem FB (t:TypeId)(x lo:Operand)(hu:P.underlying t=some .string)(ho:o.op= .slice t x (some lo) none none)(L:List UInt8)(l:Nat)(hx:ρ x= .string ⟨L.toArray⟩)(hl:ρ lo= .int .i64 l)(hn:l<=L.length)(w:World):
  (execOp ρ o).run P w= .ok (.value (.string ⟨(L.drop l).toArray⟩)) w:=by
 have hs:(⟨L.toArray⟩:ByteArray).size=L.length:=by simp[ByteArray.size]
 have h1:(Instr.sliceAt t (.string ⟨L.toArray⟩) (some (.int .i64 l)) none none).run P w= .ok (.string ⟨(L.drop l).toArray⟩) w:=by
  rw[run_sliceAt_string w t _ _ _ _ hu,run_slice_string_l w t ⟨L.toArray⟩ hu .i64 l (by omega) (by rw[hs];omega),Int.toNat_natCast,MZ L l hn]
 unfold execOp
 simp only[ho,hx,hl,Option.map_some,Option.map_none,Sem.run_bind,h1,Result.andThen_ok]
 rfl
end
section
variable {P:Program}{olds:WT}{p:Nat->Nat}{W:World}{F:Act->Ct->Prop}{n:Nat}{l:List Oper}{pl:List Sp}{a:Act}{ct:Ct}{o:Oper}
theorem FC (k:Nat)(c:Array Value)(v:Value){t:TypeId}{old:Array Value}(hct:ct k=some (t,old))(hst: ∀w,Row w (Z4 olds p k) old t-> ∃w2,(execOp a.eval o).run P w= .ok (.value v) w2/\Row w2 (Z4 olds p k) c t/\Only (Z4 olds p k) w w2)
  (h:MX P olds p W F (n+1) l pl (a.put o.dst v) (XW ct k (t,c))):MX P olds p W F n (o::l) ((fun _=>v,[],none,[(k,c)])::pl) a ct:=by
 refine⟨⟨⟨.inl ⟨v,rfl⟩,fun x hx=>?_,fun w hk hrw=>?_⟩,?_⟩⟩
 ·obtain rfl:x=(k,c):=List.mem_singleton.1 hx
  exact⟨_,hct⟩
 ·obtain⟨w2,hr,r2,ho⟩:=hst w (hrw k (List.mem_append_right _ (List.mem_singleton.2 rfl)) _ hct)
  rw[hr]
  refine⟨ho.os,ho.tape,ho.output,by rw[ho.size];exact Nat.le_refl _,fun b _ hne=>ho.block b (hne (k,c) (List.mem_singleton.2 rfl)),fun x hx y hy=>?_,.inl ⟨rfl,rfl⟩⟩
  obtain rfl:x=(k,c):=List.mem_singleton.1 hx
  obtain rfl:(t,old)=y:=Option.some.inj (hct.symm.trans hy)
  exact r2
 ·rw[Ll n _ _ k c ct hct];exact h.out
theorem Pg (w:World)(dT sT ty e:TypeId)(g off m cap:Nat)(L:List UInt8)(hd:P.underlying dT=some (.slice e))(hz: ∀w,(sizeOf e).run P w= .ok 1 w)(n:Nat)(hn:min L.length m=n)
  (hth:w.there g off n):(Builtin.copy_ #[dT,sT] ty #[.slice (some ⟨g,off,none⟩) m cap,.string ⟨L.toArray⟩]).run P w= .ok (goInt n) (w.setCells g off (b8s (L.take n))):=by
 have hs:(⟨L.toArray⟩:ByteArray).size=L.length:=by simp[ByteArray.size]
 have hle:n<=L.length:=by omega
 have hcells:((⟨L.toArray⟩:ByteArray).extract 0 n).data.map (fun b=>Value.int .u8 (b.toNat:Int))=(b8s (L.take n)).toArray:=by
  rw[ByteArray.data_extract]
  simp[b8s]
 have hlen:(b8s (L.take n)).length=n:=by rw[Z8,List.length_take];omega
 have hst:=run_storeCells_cells (P:=P) g off (b8s (L.take n)) 0 w (fun j hj=>(hth j (by omega)).1) (fun j hj=>(hth j (by omega)).2) (Oz _)
 rw[Nat.add_zero]at hst
 have hmin:Nat.min (⟨L.toArray⟩:ByteArray).size m=n:=by rw[hs];exact hn
 simp only[Builtin.copy_,List.getElem?_toArray,List.getElem?_cons_zero,List.getElem?_cons_succ];simp only[Sem.run_bind,run_underlying hd,Result.andThen_ok,Builtin.lenOf,Sem.run_pure,hz,Builtin.firstCells,hmin,hcells,hst]
theorem NL (k:Nat)(d s:Operand)(dT sT e:TypeId)(ho:o.op= .call {callee:=.builtin .copy,args:=#[d,s],argTypes:=#[dT,sT]})(hud:P.underlying dT=some (.slice e))(hz: ∀w,(sizeOf e).run P w= .ok 1 w)
  (off m cap:Nat){t:TypeId}{old:Array Value}(hct:ct k=some (t,old))(hx:a.eval d= .slice (some ⟨Z4 olds p k,off,none⟩) m cap)(L:List UInt8)(hy:a.eval s= .string ⟨L.toArray⟩)(q:Nat)(hq:min L.length m=q)
  (hold:off+q<=old.size)(c:Array Value)(hc:Tg old off (b8s (L.take q))=c)
  (h:MX P olds p W F (n+1) l pl (a.put o.dst (.int .i64 (q:Nat))) (XW ct k (t,c))):MX P olds p W F n (o::l) ((fun _=>.int .i64 (q:Nat),[],none,[(k,c)])::pl) a ct:=by
 subst hc
 refine FC k _ (.int .i64 (q:Nat)) hct (fun w hr=>⟨w.setCells (Z4 olds p k) off (b8s (L.take q)),?_,Row.setCells _ _ hr,Xv _ _ _ _⟩) h
 have:=Pg (P:=P) w dT sT o.type e (Z4 olds p k) off m cap L hud hz q hq (W2 hr off q hold)
 unfold execOp
 simp only[ho]
 simp[resolve,invoke,builtin,hx,hy,this,goInt]
end
theorem Ib (l:List UInt8)(n i:Nat)(h:i<n):bf (l.take n) i=bf l i:=by
 unfold bf;rw[List.getD_eq_getElem?_getD,List.getD_eq_getElem?_getD,List.getElem?_take_of_lt h]
theorem Bu (L:List UInt8)(B:Nat->Nat)(F j:Nat)(hF:F<64)(hle:64*(j+1)<=L.length)(hB: ∀i,i<F->B i=bf L (64*j+i)):
  ∀i,i<64->cpB B F ((L.drop (64*j+F)).take (64-F)) i=bf L (64*j+i):=by
 intro i hi
 have hl:((L.drop (64*j+F)).take (64-F)).length=64-F:=by rw[List.length_take,List.length_drop];omega
 unfold cpB
 rw[hl]
 by_cases h:F<=i
 ·rw[if_pos (by omega),Ib _ _ _ (by omega),JZ,show 64*j+F+(i-F)=64*j+i by omega]
 ·rw[if_neg (by omega),hB i (by omega)]
theorem Bv (L:List UInt8)(B:Nat->Nat)(F j q:Nat)(hq:64*j+F+q=L.length)(hB: ∀i,i<F->B i=bf L (64*j+i)):
  ∀i,i<F+q->cpB B F ((L.drop (64*j+F)).take q) i=bf L (64*j+i):=by
 intro i hi
 have hl:((L.drop (64*j+F)).take q).length=q:=by rw[List.length_take,List.length_drop];omega
 unfold cpB
 rw[hl]
 by_cases h:F<=i
 ·rw[if_pos (by omega),Ib _ _ _ (by omega),JZ,show 64*j+F+(i-F)=64*j+i by omega]
 ·rw[if_neg (by omega),hB i (by omega)]
theorem zw {B:Nat->Nat}(h: ∀i,B i<256)(F:Nat)(l:List UInt8)(i:Nat):cpB B F l i<256:=by
 unfold cpB
 split
 ·exact Bf _ _
 ·exact h i
structure HS (l:List UInt8)(B:Nat->Nat):Prop where
 b: ∀i,i<l.length%64->B i=bf l (64*(l.length/64)+i)
 lt: ∀i,B i<256
theorem SM (q:Bool)(v B:Nat->Nat)(c g0:Nat)(w:World)(r0:Row w g0 (hC q v B c) 187):
  Calls Tryz.prog 145 #[.pointer (some ⟨g0,0,none⟩)] w fun e w'=>e= .returned (.int .i64 (c%64:Nat))/\Below w.heap.size w w':=by
 go_enter func145,ntmps145
 iterate 2 go_step
 apply Za [] [_] trivial List.nodup_nil
 ·intro p;refine m_V (.int .i64 0) (fun _=>rfl) ?_;refine Zd ?_;intro w2 hkw hrw hnew hdis;replace r0:=hkw.ro r0
  have sb:=k_b hkw
  clear hkw hrw hnew hdis
  iterate 3 go_step
  refine Zq ?_;refine q_W ?_;refine q_V (.pointer (some ⟨g0,0,none⟩)) (Yc _ rfl g0 0 rfl) ?_;refine q_V _ (Zi 187 _ 3 rfl g0 0 rfl _ underlying187 _ rfl 0 sizeOf60) ?_
  refine Zy (by rfl) 60 _ rfl _ (73) rfl r0 (.int .u64 (c:Nat)) (Wu _ _ _ _ 73 (by omega)) isAgg60 (q_W ?_)
  refine q_V _ (Bm _ _ _ _ rfl c 64 rfl rfl (by omega)) ?_;refine q_V (.int .i64 (c%64:Nat)) (Wd _ _ _ rfl .u64 .i64 underlying60 underlying3 ((c%64:Nat):Int) _ rfl (wrap_i64 _ (by omega))) ?_;intro w3 hqb;replace sb:=b_o sb hqb;clear hqb
  go_wp2
  go_ret
  exact⟨rfl,sb⟩
 ·rfl
structure AdH (wr w:World)(g N:Nat)(L:List UInt8)(j F:Nat)(B:Nat->Nat):Prop where
 r:Row wr g (hC true (ab (bf L) j) B N) 187
 b: ∀i,i<F->B i=bf L (64*j+i)
 lt: ∀i,B i<256
 kept:Kept [g] w wr
theorem FD (L:List UInt8)(B:Nat->Nat)(N m f0 ls g0:Nat)(w:World)(hN:L.length=N)(hNl:N<1152921504606846976)(hm:N=64*m+f0+ls)(hf:f0<64)(hB: ∀i,i<f0->B i=bf L (64*m+i))(hlt: ∀i,B i<256)
  (r0:Row w g0 (hC true (ab (bf L) m) B (64*m+f0)) 187)(kT:KT w)(hg:0≠g0):
  Calls Tryz.prog 94 #[.pointer (some ⟨g0,0,none⟩),.string ⟨(L.drop (64*m+f0)).toArray⟩] w fun e w'=>e= .returned (.tuple #[])/\
   ∃B',HS L B'/\Row w' g0 (hC true (ab (bf L) (N/64)) B' N) 187/\Kept [g0] w w':=by
 have sk:=Kept.refl [g0] w
 have hls:(L.drop (64*m+f0)).length=ls:=by rw[List.length_drop];omega
 have hsz:(⟨(L.drop (64*m+f0)).toArray⟩:ByteArray).size=ls:=by simp only[ByteArray.size,List.size_toArray];exact hls
 have hr0:(64*m+f0)%64=f0:=by omega
 go_enter func94,ntmps94
 iterate 3 go_step
 refine Zq ?_;refine q_W ?_;refine q_V _ (EI _ _ _ _ rfl (some ⟨g0,0,none⟩) rfl rfl _ underlying142) ?_;refine q_V (.pointer (some ⟨g0,0,none⟩)) (Yc _ rfl g0 0 rfl) ?_;refine q_V _ (Zi 187 _ 0 rfl g0 0 rfl _ underlying187 _ rfl 0 sizeOf4) ?_
 refine Zy (by rfl) 4 _ rfl _ (0) rfl r0 (.bool true) (Wu _ _ _ _ 0 (by omega)) isAgg4 (q_W ?_)
 refine q_V _ (Zz _ _ rfl true rfl) ?_;refine q_P false (.bool false) ?_;intro w2 hqb;replace r0:=r0.belowAll hqb;replace sk:=sk.on hqb;clear hqb
 iterate 7 go_step
 apply Za [] [_,_,_] trivial List.nodup_nil
 ·intro p;refine m_W ?_;refine m_K 145 func145 #[.pointer (some ⟨g0,0,none⟩)] (fun w' hk=>SM _ _ _ _ g0 w' (hk.row r0 (by simp))) ?_;refine Zd ?_;intro w3 hkw hrw hnew hdis;replace r0:=hkw.ro r0
  replace sk:=sk.trans hkw (by simp)
  clear hkw hrw hnew hdis
  rw[hr0]
  iterate 3 go_step
  apply Za [(g0,187,hC true (ab (bf L) m) B (64*m+f0))] [_,_,_,_,_,_,_,_,_,_,_] ⟨r0,trivial⟩ (by simp<;>omega)
  ·intro p;refine m_W ?_;refine m_V (.pointer (some ⟨g0,0,none⟩)) (Yc _ rfl g0 0 rfl) ?_;refine m_V _ (Zi 187 _ 3 rfl g0 0 rfl _ underlying187 _ rfl 0 sizeOf60) ?_
   refine Yb 0 60 _ rfl (73) rfl rfl (.int .u64 (64*m+f0:Nat)) (Wu _ _ _ _ 73 (by omega)) isAgg60 (m_W ?_)
   refine m_V (.int .i64 (ls:Nat)) (fun w'=>(J0 _ _ rfl ⟨(L.drop (64*m+f0)).toArray⟩ rfl underlying9 w').trans (by rw[hsz])) ?_
   refine m_V (.int .u64 (ls:Nat)) (Wd _ _ _ rfl .i64 .u64 underlying3 underlying60 (ls:Int) _ rfl (xd _ (by omega))) ?_;refine m_V _ (Bi _ _ _ _ rfl (64*m+f0) ls rfl rfl (by omega)) ?_;refine m_V (.pointer (some ⟨g0,0,none⟩)) (Yc _ rfl g0 0 rfl) ?_;refine m_V _ (Zi 187 _ 3 rfl g0 0 rfl _ underlying187 _ rfl 0 sizeOf60) ?_;refine Y0 0 60 _ _ rfl (73) rfl rfl .u64 (((64*m+f0+ls:Nat):Int)) rfl sizeOf60 (by rw[Xp];omega) (hC true (ab (bf L) m) B (64*m+f0+ls)) (Bt _ _ _ _ _) ?_;simp only[Act.put];refine Zd ?_;intro w4 hkw hrw hnew hdis
   have zr0:Row w4 (g0) (hC true (ab (bf L) m) B (64*m+f0+ls)) 187:=hrw 0 (187,hC true (ab (bf L) m) B (64*m+f0+ls)) rfl
   replace sk:=sk.trans hkw (by simp)
   clear hkw hrw hnew hdis r0
   have r0:=zr0
   clear zr0
   iterate 4 go_step
   apply Za [] [_,_,_,_,_,_] trivial List.nodup_nil
   ·intro p;refine m_W ?_
    refine m_V (.int .i64 (ls:Nat)) (fun w'=>(J0 _ _ rfl ⟨(L.drop (64*m+f0)).toArray⟩ rfl underlying9 w').trans (by rw[hsz])) ?_
    refine m_V _ (Yf _ _ _ _ rfl f0 ls rfl rfl (by omega)) ?_;refine m_V _ (Uw _ _ _ _ rfl (f0+ls) 64 rfl rfl (by omega) (by omega)) ?_;refine m_V (.int .i64 0) (fun _=>rfl) ?_;refine Zd ?_;intro w5 hkw hrw hnew hdis;replace r0:=hkw.ro r0
    replace sk:=sk.trans hkw (by simp)
    clear hkw hrw hnew hdis
    have H0:AdH w5 w g0 N L (m+0) f0 B:=⟨by rw[hm];exact r0,hB,hlt,sk⟩
    have HD:Hid (L.length=N/\N<1152921504606846976/\N=64*m+f0+ls/\f0<64/\KT w/\0≠g0):=⟨hN,hNl,hm,hf,kT,hg⟩
    generalize hn:(f0+ls)/64=n
    have HN:Hid ((f0+ls)/64=n):=hn
    clear r0 sk hr0 hls hsz hB hlt hN hNl kT hg hn
    go_wp2_with fail
    go_loopg [1,4,5,32] n (fun g s1 s4 s5 s32 wr=> ∃k F B,k+g=n/\s32= .int .i64 (k:Nat)/\s1= .string ⟨(L.drop (64*(m+k)+F)).toArray⟩/\s4= .int .i64 (F:Nat)/\F<64/\(F=0∨(k=0/\F=f0))/\AdH wr w g0 N L (m+k) F B)
    case atStart=>exact⟨0,f0,B,by omega,rfl,rfl,rfl,hf,.inr ⟨rfl,rfl⟩,H0⟩
    case round=>
     obtain⟨k,F,B,hk,rfl,rfl,rfl,hF,hFk,r0,hB,hlt,sk⟩:=hrel
     obtain⟨hN,hNl,hm,hf,kT,hg⟩:=HD.out
     have hn:=HN.out
     clear H0
     cases gk with
     |zero=>
      obtain rfl:k=n:=by omega
      have hq:min (L.drop (64*(m+k)+F)).length (64-F)=N%64-F:=by rw[List.length_drop];omega
      have hcp:Tg (hC true (ab (bf L) (m+k)) B N) (9+F) (b8s ((L.drop (64*(m+k)+F)).take (N%64-F)))=hC true (ab (bf L) (m+k)) (cpB B F ((L.drop (64*(m+k)+F)).take (N%64-F))) N:=
       J9 _ _ _ _ _ _ (by rw[List.length_take,List.length_drop];omega)
      have hHS:HS L (cpB B F ((L.drop (64*(m+k)+F)).take (N%64-F))):=by
       refine⟨fun i hi=>?_,zw hlt _ _⟩
       rw[hN]at hi ⊢
       rw[Bv L B F (m+k) (N%64-F) (by omega) hB i (by omega),show N/64=m+k by omega]
      have hj:N/64=m+k:=by omega
      have hk64:F+(N%64-F)<=64:=by omega
      generalize N%64-F=q at*
      clear hk hm hn hFk HD HN hB hlt
      go_step
      apply Za [] [_] trivial List.nodup_nil
      ·intro p;refine m_V _ (Uo _ _ _ _ rfl k k rfl rfl false (decide_eq_false (by omega))) ?_;refine Zd ?_;intro w6 hkw hrw hnew hdis;replace r0:=hkw.ro r0
       replace sk:=sk.trans hkw (by simp)
       clear hkw hrw hnew hdis
       iterate 7 go_step
       apply Za [(g0,187,hC true (ab (bf L) (m+k)) B N)] [_,_,_,_,_,_,_] ⟨r0,trivial⟩ (by simp<;>omega)
       ·intro p;refine m_W ?_;refine m_V (.pointer (some ⟨g0,0,none⟩)) (Yc _ rfl g0 0 rfl) ?_;refine m_V _ (Zi 187 _ 2 rfl g0 0 rfl _ underlying187 _ rfl 63 sizeOf185) ?_;refine m_V _ (NK 185 5 _ _ 64 underlying185 sizeOf5 rfl g0 9 F rfl rfl (by omega)) ?_
        refine NL 0 _ _ _ _ 5 rfl underlying81 sizeOf5 (9+F) (64-F) (64-F) rfl rfl (L.drop (64*(m+k)+F)) rfl q hq (by rw[Xp];omega) (hC true (ab (bf L) (m+k)) (cpB B F ((L.drop (64*(m+k)+F)).take q)) N) hcp (m_W ?_)
        refine Zd ?_;intro w7 hkw hrw hnew hdis
        have zr0:Row w7 (g0) (hC true (ab (bf L) (m+k)) (cpB B F ((L.drop (64*(m+k)+F)).take q)) N) 187:=hrw 0 (187,hC true (ab (bf L) (m+k)) (cpB B F ((L.drop (64*(m+k)+F)).take q)) N) rfl
        replace sk:=sk.trans hkw (by simp)
        clear hkw hrw hnew hdis r0
        have r0:=zr0
        clear zr0
        go_wp2
        go_end0
        exact⟨rfl,_,hHS,by rw[hj];exact r0,sk⟩
       ·rfl
      ·rfl
     |succ g=>
      have hle:64*(m+k+1)<=L.length:=by omega
      have hq:min (L.drop (64*(m+k)+F)).length (64-F)=64-F:=by rw[List.length_drop];omega
      have hcp:Tg (hC true (ab (bf L) (m+k)) B N) (9+F) (b8s ((L.drop (64*(m+k)+F)).take (64-F)))=hC true (ab (bf L) (m+k)) (fun i=>bf L (64*(m+k)+i)) N:=by
       rw[J9 _ _ _ _ _ _ (by rw[List.length_take,List.length_drop];omega)]
       exact Fz (fun _ _=>rfl) (Bu L B F (m+k) hF hle hB)
      have hdr:(L.drop (64*(m+k)+F)).drop (64-F)=L.drop (64*(m+(k+1))+0):=by
       rw[List.drop_drop,show 64*(m+k)+F+(64-F)=64*(m+(k+1))+0 by omega]
      have hlen:64-F<=(L.drop (64*(m+k)+F)).length:=by rw[List.length_drop];omega
      have hkn:(k:Int)<(n:Int):=by omega
      have hab:ab (bf L) (m+(k+1))=cmp (ab (bf L) (m+k)) (fun i=>bf L (64*(m+k)+i)):=rfl
      have hV: ∀i,(ab (bf L) (m+k)) i<4294967296:=Be _ _
      have hbb: ∀i,(fun i=>bf L (64*(m+k)+i)) i<256:=fun i=>Bf _ _
      clear hB hlt hle hFk
      go_step
      apply Za [] [_] trivial List.nodup_nil
      ·intro p;refine m_V _ (Uo _ _ _ _ rfl k n rfl rfl true (decide_eq_true hkn)) ?_;refine Zd ?_;intro w6 hkw hrw hnew hdis;replace r0:=hkw.ro r0
       replace sk:=sk.trans hkw (by simp)
       clear hkw hrw hnew hdis
       iterate 10 go_step
       apply Za [(g0,187,hC true (ab (bf L) (m+k)) B N)] [_,_,_,_,_,_,_,_] ⟨r0,trivial⟩ (by simp<;>omega)
       ·intro p;refine m_W ?_;refine m_V (.pointer (some ⟨g0,0,none⟩)) (Yc _ rfl g0 0 rfl) ?_;refine m_V _ (Zi 187 _ 2 rfl g0 0 rfl _ underlying187 _ rfl 63 sizeOf185) ?_;refine m_V _ (NK 185 5 _ _ 64 underlying185 sizeOf5 rfl g0 9 F rfl rfl (by omega)) ?_
        refine NL 0 _ _ _ _ 5 rfl underlying81 sizeOf5 (9+F) (64-F) (64-F) rfl rfl (L.drop (64*(m+k)+F)) rfl (64-F) hq (by rw[Xp];omega) (hC true (ab (bf L) (m+k)) (fun i=>bf L (64*(m+k)+i)) N) hcp (m_W ?_)
        refine Zd ?_;intro w7 hkw hrw hnew hdis
        have zr0:Row w7 (g0) (hC true (ab (bf L) (m+k)) (fun i=>bf L (64*(m+k)+i)) N) 187:=hrw 0 (187,hC true (ab (bf L) (m+k)) (fun i=>bf L (64*(m+k)+i)) N) rfl
        replace sk:=sk.trans hkw (by simp)
        clear hkw hrw hnew hdis r0
        have r0:=zr0
        clear zr0
        iterate 3 go_step
        apply Za [] [_,_,_,_] trivial List.nodup_nil
        ·intro p;refine m_W ?_
         refine m_V (.string ⟨(L.drop (64*(m+(k+1))+0)).toArray⟩) ((fun w'=>(FB _ _ _ underlying9 rfl (L.drop (64*(m+k)+F)) (64-F) rfl rfl hlen w').trans (by rw[hdr]))) ?_
         refine Zd ?_;intro w8 hkw hrw hnew hdis;replace r0:=hkw.ro r0
         replace sk:=sk.trans hkw (by simp)
         clear hkw hrw hnew hdis
         have kT8:=kT.kept sk (by simpa using hg)
         iterate 3 go_step
         apply Zg (by kernel_rfl) [(g0,187,hC true (ab (bf L) (m+k)) (fun i=>bf L (64*(m+k)+i)) N)] [_,_,_,_,_,_,_,_,_,_,_,_,_] ⟨r0,trivial⟩ (by simp<;>omega)
         ·intro p;refine m_W ?_;refine m_V (.pointer (some ⟨g0,0,none⟩)) (Yc _ rfl g0 0 rfl) ?_;refine m_V _ (Zi 187 _ 1 rfl g0 0 rfl _ underlying187 _ rfl 7 sizeOf184) ?_
          refine Wp 0 184 _ rfl (1) rfl rfl (rC .u32 8 (ab (bf L) (m+k))) (xT _ _ _ _) _ underlying184 rfl (by rw[ZB];exact UE) (m_W ?_)
          refine m_V (.pointer (some ⟨g0,0,none⟩)) (Yc _ rfl g0 0 rfl) ?_;refine m_V _ (Zi 187 _ 2 rfl g0 0 rfl _ underlying187 _ rfl 63 sizeOf185) ?_
          refine Wp 0 185 _ rfl (9) rfl rfl (rC .u8 64 (fun i=>bf L (64*(m+k)+i))) (xU _ _ _ _) _ underlying185 rfl (by rw[ZB];exact NG) (m_W ?_)
          refine m_K 146 func146 #[.agg (rC .u32 8 (ab (bf L) (m+k))),.agg (rC .u8 64 (fun i=>bf L (64*(m+k)+i)))] (fun w' hk=>J8 (ab (bf L) (m+k)) (fun i=>bf L (64*(m+k)+i)) hV hbb w' (kT8.kept hk (by simpa using hg))) ?_
          refine m_V (.pointer (some ⟨g0,0,none⟩)) (Yc _ rfl g0 0 rfl) ?_;refine m_V _ (Zi 187 _ 1 rfl g0 0 rfl _ underlying187 _ rfl 7 sizeOf184) ?_;refine Vx 0 184 _ _ rfl 1 rfl rfl (rC .u32 8 (cmp (ab (bf L) (m+k)) (fun i=>bf L (64*(m+k)+i)))) rfl (by rw[ZB];exact UE) (by rw[ZB,Xp];omega) (XR _ _ _) (hC true (cmp (ab (bf L) (m+k)) (fun i=>bf L (64*(m+k)+i))) (fun i=>bf L (64*(m+k)+i)) N) (Bs _ _ _ _ _) ?_;simp only[Act.put];refine Zd ?_;intro w9 hkw hrw hnew hdis
          have zr0:Row w9 (g0) (hC true (cmp (ab (bf L) (m+k)) (fun i=>bf L (64*(m+k)+i))) (fun i=>bf L (64*(m+k)+i)) N) 187:=hrw 0 (187,hC true (cmp (ab (bf L) (m+k)) (fun i=>bf L (64*(m+k)+i))) (fun i=>bf L (64*(m+k)+i)) N) rfl
          replace sk:=sk.trans hkw (by simp)
          clear hkw hrw hnew hdis r0
          have r0:=zr0
          clear zr0
          iterate 2 go_step
          apply Za [] [_] trivial List.nodup_nil
          ·intro p;refine m_V (.int .i64 0) (fun _=>rfl) ?_;refine Zd ?_;intro w10 hkw hrw hnew hdis;replace r0:=hkw.ro r0
           replace sk:=sk.trans hkw (by simp)
           clear hkw hrw hnew hdis
           iterate 2 go_step
           apply Za [] [_,_] trivial List.nodup_nil
           ·intro p;refine m_V _ (Yf _ _ _ _ rfl k 1 rfl rfl (by omega)) ?_;refine Zd ?_;intro w11 hkw hrw hnew hdis;replace r0:=hkw.ro r0
            replace sk:=sk.trans hkw (by simp)
            clear hkw hrw hnew hdis
            go_wp2
            go_roundg g
            ·exact⟨k+1,0,(fun i=>bf L (64*(m+k)+i)),by omega,rfl,rfl,rfl,by omega,.inl rfl,by rw[hab];exact r0,fun i hi=>by omega,hbb,sk⟩
            omega
           ·rfl
          ·rfl
         ·kernel_rfl
        ·rfl
       ·rfl
      ·rfl
   ·rfl
  ·rfl
 ·rfl
theorem Ic (l s:List UInt8)(B:Nat->Nat)(g0:Nat)(w:World)(hl:(l++s).length<1152921504606846976)(hB:HS l B)
  (r0:Row w g0 (hC true (sw l) B l.length) 187)(kT:KT w)(hg:0≠g0):
  Calls Tryz.prog 94 #[.pointer (some ⟨g0,0,none⟩),.string ⟨s.toArray⟩] w fun e w'=>e= .returned (.tuple #[])/\
   ∃B',HS (l++s) B'/\Row w' g0 (hC true (sw (l++s)) B' (l++s).length) 187/\Kept [g0] w w':=by
 have e1:l.length=64*(l.length/64)+l.length%64:=by omega
 have e2:ab (bf l) (l.length/64)=ab (bf (l++s)) (l.length/64):=NB _ fun i hi=>(Ox l s i (by omega)).symm
 have e3:(l++s).drop (64*(l.length/64)+l.length%64)=s:=by rw[<-e1];exact List.drop_left
 have r1:Row w g0 (hC true (ab (bf (l++s)) (l.length/64)) B (64*(l.length/64)+l.length%64)) 187:=by
  rw[<-e2,<-e1];exact r0
 have h:=FD (l++s) B (l++s).length (l.length/64) (l.length%64) s.length g0 w rfl hl (by rw[List.length_append];omega) (by omega)
  (fun i hi=>(hB.b i hi).trans (Ox l s _ (by omega)).symm) hB.lt r1 kT hg
 rw[e3]at h
 exact h
theorem RP: ∃i,Tryz.prog.info? 5=some i/\i.zero=some (.int .u8 0)/\i.size=1/\i.bytes=1:=by
 have h:(Tryz.prog.info? 5).map (fun i=>(i.zero,i.size,i.bytes))=some (some (.int .u8 0),1,1):=by kernel_rfl
 cases hq:Tryz.prog.info? 5 with
 |none=>simp[hq]at h
 |some i=>
  simp[hq]at h
  exact⟨i,rfl,h.1,h.2.1,h.2.2⟩
theorem Bw (n:Nat):madeCells #[.int .u8 0] n=rC .u8 n fun _=>0:=by
 apply Array.ext_getElem?
 intro i
 by_cases hi:i<n
 ·rw[ZO _ _ _ _ hi]
  unfold madeCells
  simp[hi,Nat.mod_one]
 ·rw[Array.getElem?_eq_none (by rw[size_madeCells];omega),Array.getElem?_eq_none (by rw[ZB];omega)]
theorem Ie:Tryz.prog.built 187 [(0,.bool true),(1,.agg (rC .u32 8 ivf))]=some (hC true ivf (fun _=>0) 0):=by kernel_rfl
section
variable {P:Program}{olds:WT}{p:Nat->Nat}{W:World}{F:Act->Ct->Prop}{n:Nat}{l:List Oper}{pl:List Sp}{a:Act}{ct:Ct}{o:Oper}{ρ:Operand->Value}
theorem FE (x y:Operand)(ho:o.op= .makeSlice 81 x y)(k:IntKind)(m:Nat)(hx:a.eval x= .int k m)(hy:a.eval y= .int k m)(hm:m<=16777216)
  (h:MX Tryz.prog olds p W F (n+1) l pl (a.put o.dst (.slice (some ⟨p n,0,none⟩) m m)) (XW ct (2*n+1) (5,rC .u8 m fun _=>0))):
  MX Tryz.prog olds p W F n (o::l) ((fun q=>.slice (some ⟨q n,0,none⟩) m m,[],some (5,rC .u8 m fun _=>0),[])::pl) a ct:=
 Tc (fun g=>.slice (some ⟨g,0,none⟩) m m) 5 _ (fun w=>by
  obtain⟨i,h1,h2,h3,h4⟩:=RP
  have hr:=run_makeSlice (P:=Tryz.prog) w 81 5 i (.int .u8 0) underlying81 h1 h2 k k (m:Int) (m:Int) (by omega) (by omega) (by rw[Int.toNat_natCast,h3];omega) (by rw[h4];omega) (by omega)
  rw[Int.toNat_natCast,h3,Nat.mul_one,show(Value.int IntKind.u8 0).cells=#[.int .u8 0]from rfl,Bw]at hr
  unfold execOp
  simp only[ho,hx,hy,Sem.run_bind,hr,Result.andThen_ok]
  rfl) h
theorem SN (t:TypeId)(x y:Operand)(ho:o.op= .indexAddr t x y)(g off len cap:Nat)(hx:ρ x= .slice (some ⟨g,off,none⟩) len cap)(i:Nat)(hy:ρ y= .int .i64 i)(hi:i<len)(e:TypeId)(hu:P.underlying t=some (.slice e))
  (hz: ∀w,(sizeOf e).run P w= .ok 1 w)(r:Nat)(hr:off+i=r)(w:World):(execOp ρ o).run P w= .ok (.value (.pointer (some ⟨g,r,none⟩))) w:=by
 subst hr
 have:=Zu (P:=P) (o:=o) t x y ho g off len cap hx i hy hi e hu 1 hz w
 rw[Nat.mul_one]at this
 exact this
theorem zx (t:TypeId)(x y:Operand)(ho:o.op= .indexAddr t x y)(g off:Nat)(hx:ρ x= .pointer (some ⟨g,off,none⟩))(i len:Nat)(hy:ρ y= .int .i64 i)(hi:i<len)(e:TypeId)(hu:P.underlying t=some (.array len e))
  (hz: ∀w,(sizeOf e).run P w= .ok 1 w)(r:Nat)(hr:off+i=r)(w:World):(execOp ρ o).run P w= .ok (.value (.pointer (some ⟨g,r,none⟩))) w:=by
 subst hr
 have:=Yo (P:=P) (o:=o) t x y ho g off hx i len hy hi e hu 1 hz w
 rw[Nat.mul_one]at this
 exact this
theorem Bx (x:Operand)(ho:o.op= .convert 81 9 x)(g off cap n:Nat)(l:List UInt8)(hx:ρ x= .slice (some ⟨g,off,none⟩) n cap)(hn:l.length=n){cs:Array Value}{t:TypeId}(w:World)(hr:XT w g cs t)
  (hc: ∀j,j<l.length->cs[off+j]?=some (.int .u8 (bf l j:Nat))):(execOp ρ o).run Tryz.prog w= .ok (.value (.string ⟨l.toArray⟩)) w:=by
 subst hn
 have h:=run_convert_bytes_back (P:=Tryz.prog) w 81 9 5 ⟨g,off,none⟩ cap l underlying81 underlying5 underlying9 (fun j hj=>by
  rw[Addr.add_mid,hr.cell,hc j hj]
  unfold bf
  rw[List.getD_eq_getElem?_getD,List.getElem?_eq_getElem hj]
  rfl)
 unfold execOp
 simp only[ho,hx,Sem.run_bind,h,Result.andThen_ok]
 rfl
end
theorem FF (w:World):
  Calls Tryz.prog 93 #[] w fun e w'=> ∃g,e= .returned (.pointer (some ⟨g,0,none⟩))/\w.heap.size<=g/\Row w' g (hC true (sw []) (fun _=>0) 0) 187/\Below w.heap.size w w':=by
 go_enter func93,ntmps93
 iterate 2 go_step
 apply Za [] [_] trivial List.nodup_nil
 ·intro p;refine ZK (.pointer none) (fun _=>rfl) ?_;simp only[Act.put,List.setIfInBounds_toArray,List.set_cons_zero];refine Zd ?_;intro w2 hkw hrw hnew hdis
  have sb:=k_b hkw
  clear hkw hrw hnew hdis
  iterate 3 go_step
  apply Za [] [_,_,_,_] trivial List.nodup_nil
  ·intro p;refine m_V _ (Xs _ _ rfl _ rfl _ (NH ivf)) ?_;refine m_V _ (Xs _ _ rfl _ rfl _ Ie) ?_
   refine Yh 187 _ rfl _ rfl (m_W ?_)
   refine Td 2 (fun g=>.pointer (some ⟨g,0,none⟩)) (.inl rfl) (by omega) rfl ?_;simp only[Act.put,List.setIfInBounds_toArray,List.set_cons_zero];refine Zd ?_;intro w3 hkw hrw hnew hdis
   have n3:=hnew 2 rfl
   have zr3:Row w3 (p 2) (hC true ivf (fun _=>0) 0) 187:=hrw 5 (187,hC true ivf (fun _=>0) 0) rfl
   have b3:=Nat.le_trans sb.size n3
   replace sb:=kk sb hkw;clear hkw hrw hnew hdis n3
   generalize p 2=g3 at*
   have r3:=zr3
   clear zr3
   go_wp2
   go_ret
   exact⟨g3,rfl,b3,r3,sb⟩
  ·rfl
 ·rfl
theorem zy:HS [] fun _=>0:=⟨fun i hi=>by simp at hi,fun _=>by decide⟩
theorem xV (n:Nat):bf (tl n) 0=128:=rfl
theorem xW (n j:Nat)(h:j<zs n):bf (tl n) (1+j)=0:=by
 unfold bf tl
 rw[List.getD_eq_getElem?_getD,Nat.add_comm 1 j,List.getElem?_cons_succ,List.getElem?_append_left (by simpa using h),List.getElem?_replicate,if_pos h]
 rfl
theorem xX (n k:Nat)(h:k<8):bf (tl n) (1+zs n+k)=8*n/2^(8*(7-k))%256:=by
 unfold bf tl be8
 rw[List.getD_eq_getElem?_getD,show 1+zs n+k=(zs n+k)+1 by omega,List.getElem?_cons_succ,List.getElem?_append_right (by simp),List.length_replicate,Nat.add_sub_cancel_left,List.getElem?_map,List.getElem?_range h]
 show(UInt8.ofNat _).toNat=_
 rw[UInt8.toNat_ofNat_of_lt' (Nat.mod_lt _ (by decide))]
theorem FG (n m:Nat)(hm:m=9+zs n):(rC .u8 m fun _=>0).setIfInBounds 0 (.int .u8 ((128:Nat):Int))=rC .u8 m (Xt (bf (tl n)) (1+zs n)):=by
 refine Uk _ _ _ _ _ _ fun j hj=>?_
 unfold Xt
 by_cases h0:j=0
 ·subst h0;rw[if_pos rfl,if_pos (by omega),xV]
 ·rw[if_neg h0]
  by_cases h:j<1+zs n
  ·rw[if_pos h,show j=1+(j-1) by omega,xW n _ (by omega)]
  ·rw[if_neg h]
structure ClH (wr w:World)(g0 g14 m c k:Nat)(v B:Nat->Nat):Prop where
 r0:Row wr g0 (hC true v B c) 187
 r:Row wr g14 (rC .u8 m (Xt (bf (tl c)) (1+zs c+k))) 5
 below:Below w.heap.size w wr
theorem OA (v B:Nat->Nat)(c g0:Nat)(w:World)(hc:c<1152921504606846976)(r0:Row w g0 (hC true v B c) 187):
  Calls Tryz.prog 147 #[.pointer (some ⟨g0,0,none⟩)] w fun e w'=>e= .returned (.string ⟨(tl c).toArray⟩)/\Below w.heap.size w w':=by
 have hz:(119-c%64)%64=zs c:=rfl
 have hz64:zs c<64:=by unfold zs;omega
 have htl:=Uj c
 have hsc:8*c<18446744073709551616:=by omega
 go_enter func147,ntmps147
 iterate 2 go_step
 apply Za [] [_] trivial List.nodup_nil
 ·intro p;refine m_V (.string ⟨#[]⟩) (fun _=>rfl) ?_;refine Zd ?_;intro w2 hkw hrw hnew hdis;replace r0:=hkw.ro r0
  have sb:=k_b hkw
  clear hkw hrw hnew hdis
  iterate 3 go_step
  apply Za [] [_,_,_,_,_] trivial List.nodup_nil
  ·intro p;refine m_W ?_;refine m_K 145 func145 #[.pointer (some ⟨g0,0,none⟩)] (fun w' hk=>SM _ _ _ _ g0 w' (hk.row r0 (by simp))) ?_;refine m_V _ (WR _ _ _ _ rfl 119 (c%64) rfl rfl (by omega) (by omega)) ?_;refine m_V (.int .i64 (zs c:Nat)) (fun w'=>(X2 _ _ _ _ rfl (119-c%64) 64 rfl rfl (by omega) w').trans (by rw[hz])) ?_;refine Zd ?_;intro w3 hkw hrw hnew hdis;replace r0:=hkw.ro r0;replace sb:=kk sb hkw;clear hkw hrw hnew hdis;clear hz
   iterate 3 go_step
   apply Za [] [_,_,_,_,_] trivial List.nodup_nil
   ·intro p;refine m_W ?_;refine m_V _ (Yf _ _ _ _ rfl 1 (zs c) rfl rfl (by omega)) ?_;refine m_V _ (Yf _ _ _ _ rfl (1+zs c) 8 rfl rfl (by omega)) ?_
    refine FE _ _ rfl .i64 (1+zs c+8) rfl rfl (by omega) (m_W ?_)
    refine Td 3 (fun g=>.slice (some ⟨g,0,none⟩) (1+zs c+8) (1+zs c+8)) (.inl rfl) (by omega) rfl (m_W ?_)
    refine Zd ?_;intro w4 hkw hrw hnew hdis
    have n14:=hnew 3 rfl
    have zr14:Row w4 (p 3) (rC .u8 (1+zs c+8) fun _=>0) 5:=hrw 7 (5,rC .u8 (1+zs c+8) fun _=>0) rfl
    have d0x14:=l_l r0.lt n14
    replace r0:=hkw.ro r0
    have b14:=Nat.le_trans sb.size n14
    replace sb:=kk sb hkw;clear hkw hrw hnew hdis n14
    generalize p 3=g14 at*
    have r14:=zr14
    clear zr14
    iterate 3 go_step
    apply Za [(g14,5,rC .u8 (1+zs c+8) fun _=>0)] [_,_,_] ⟨r14,trivial⟩ (by simp<;>omega)
    ·intro p;refine m_W ?_;refine m_V _ (SN _ _ _ rfl g14 0 (1+zs c+8) (1+zs c+8) rfl 0 rfl (by omega) _ underlying81 sizeOf5 0 rfl) ?_;refine Y0 0 5 _ _ rfl (0) rfl rfl .u8 (((128:Nat):Int)) rfl sizeOf5 (by rw[ZB];omega) (rC .u8 (1+zs c+8) (Xt (bf (tl c)) (1+zs c))) (FG c _ (by omega)) ?_;simp only[Act.put];refine Zd ?_;intro w5 hkw hrw hnew hdis
     have zr14:Row w5 (g14) (rC .u8 (1+zs c+8) (Xt (bf (tl c)) (1+zs c))) 5:=hrw 0 (5,rC .u8 (1+zs c+8) (Xt (bf (tl c)) (1+zs c))) rfl
     replace r0:=hkw.ro r0;replace sb:=kk sb hkw;clear hkw hrw hnew hdis r14
     have r14:=zr14
     clear zr14
     iterate 3 go_step
     apply Za [] [_,_,_,_,_,_] trivial List.nodup_nil
     ·intro p;refine m_W ?_;refine m_V (.pointer (some ⟨g0,0,none⟩)) (Yc _ rfl g0 0 rfl) ?_;refine m_V _ (Zi 187 _ 3 rfl g0 0 rfl _ underlying187 _ rfl 0 sizeOf60) ?_;refine m_D 73 r0 (.int .u64 (c:Nat)) (Wu _ _ _ _ 73 (by omega)) isAgg60 ?_;refine m_V _ (Bk _ _ _ _ rfl 8 c _ rfl rfl rfl hsc) ?_;refine Zd ?_;intro w6 hkw hrw hnew hdis;replace r0:=hkw.ro r0;replace r14:=hkw.ro r14;replace sb:=kk sb hkw;clear hkw hrw hnew hdis
      have H0:ClH w6 w g0 g14 (1+zs c+8) c 0 v B:=⟨r0,r14,sb⟩
      have HX:Hid (g0≠g14/\w.heap.size<=g14):=⟨by omega,b14⟩
      clear r0 r14 sb b14 d0x14
      go_wp2_with fail
      go_loopg [6,22] 8 (fun g s6 s22 wr=> ∃k:Nat,k+g=8/\s22= .int .i64 k/\ClH wr w g0 g14 (1+zs c+8) c k v B)
      case atStart=>exact⟨0,by omega,rfl,H0⟩
      case round=>
       obtain⟨k,hk,rfl,r0,r14,sb⟩:=hrel
       obtain⟨x1,x2⟩:=HX.out
       clear H0
       cases gk with
       |zero=>
        obtain rfl:k=8:=by omega
        clear hk
        go_step
        apply Za [] [_] trivial List.nodup_nil
        ·intro p;refine m_V _ (Uo _ _ _ _ rfl 8 8 rfl rfl false rfl) ?_;refine Zd ?_;intro w7 hkw hrw hnew hdis;replace r14:=hkw.ro r14;replace sb:=kk sb hkw;clear hkw hrw hnew hdis
         iterate 8 go_step
         apply Za [] [_,_,_] trivial List.nodup_nil
         ·intro p;refine m_W ?_
          refine Y8 (.string ⟨(tl c).toArray⟩) [] (fun w' hkw _=>Bx _ rfl g14 0 (1+zs c+8) (1+zs c+8) (tl c) rfl (by omega) w' (hkw.row r14 (by simp)).r (fun j hj=>(ZO _ _ _ _ (by omega)).trans (by rw[Nat.zero_add,XI _ _ _ (by omega)]))) (m_W ?_)
          refine Zd ?_;intro w8 hkw hrw hnew hdis;replace sb:=kk sb hkw;clear hkw hrw hnew hdis
          go_wp2
          go_ret
          exact⟨rfl,sb⟩
         ·rfl
        ·rfl
       |succ g=>
        have hN:bf (tl c) (1+zs c+k)=8*c/2^(8*(7-k))%256:=xX c k (by omega)
        go_step
        apply Za [] [_] trivial List.nodup_nil
        ·intro p;refine m_V _ (Uo _ _ _ _ rfl k 8 rfl rfl true (decide_eq_true (by omega))) ?_;refine Zd ?_;intro w7 hkw hrw hnew hdis;replace r0:=hkw.ro r0;replace r14:=hkw.ro r14;replace sb:=kk sb hkw;clear hkw hrw hnew hdis
         iterate 10 go_step
         apply Za [] [_,_] trivial List.nodup_nil
         ·intro p;refine m_W ?_;refine Zd ?_;intro w8 hkw hrw hnew hdis;replace r0:=hkw.ro r0;replace r14:=hkw.ro r14;replace sb:=kk sb hkw;clear hkw hrw hnew hdis
          iterate 2 go_step
          apply Za [(g14,5,rC .u8 (1+zs c+8) (Xt (bf (tl c)) (1+zs c+k)))] [_,_,_,_,_,_,_,_,_,_,_,_,_] ⟨r14,trivial⟩ (by simp<;>omega)
          ·intro p;refine m_W ?_;refine m_V _ (Yf _ _ _ _ rfl 1 (zs c) rfl rfl (by omega)) ?_;refine m_V _ (Yf _ _ _ _ rfl (1+zs c) k rfl rfl (by omega)) ?_;refine m_V _ (WR _ _ _ _ rfl 7 k rfl rfl (by omega) (by omega)) ?_;refine m_V _ (Va _ _ _ _ rfl 8 (7-k) _ rfl rfl rfl (by omega)) ?_;refine m_V _ (Bl _ _ _ _ rfl (8*c) (8*(7-k)) .i64 rfl rfl (by omega)) ?_;refine m_V (.int .u8 (8*c/2^(8*(7-k))%256:Nat)) (Wd _ _ _ rfl .u64 .u8 underlying60 underlying5 ((8*c/2^(8*(7-k)):Nat):Int) _ rfl (ya _ _ rfl)) ?_;refine m_V (.pointer (some ⟨g14,1+zs c+k,none⟩)) (SN _ _ _ rfl g14 0 (1+zs c+8) (1+zs c+8) rfl (1+zs c+k) rfl (by omega) _ underlying81 sizeOf5 _ (by omega)) ?_;refine Y0 0 5 _ _ rfl (1+zs c+k) rfl rfl .u8 (((8*c/2^(8*(7-k))%256:Nat):Int)) rfl sizeOf5 (by rw[ZB];omega) (rC .u8 (1+zs c+8) (Xt (bf (tl c)) (1+zs c+k+1))) (Uk _ _ _ _ _ _ (WN _ _ _ hN _)) ?_;simp only[Act.put];refine Zd ?_;intro w9 hkw hrw hnew hdis
           have zr14:Row w9 (g14) (rC .u8 (1+zs c+8) (Xt (bf (tl c)) (1+zs c+k+1))) 5:=hrw 0 (5,rC .u8 (1+zs c+8) (Xt (bf (tl c)) (1+zs c+k+1))) rfl
           replace r0:=hkw.ro r0;replace sb:=kk sb hkw;clear hkw hrw hnew hdis r14
           have r14:=zr14
           clear zr14
           iterate 2 go_step
           apply Za [] [_,_] trivial List.nodup_nil
           ·intro p;refine m_V _ (Yf _ _ _ _ rfl k 1 rfl rfl (by omega)) ?_;refine Zd ?_;intro w10 hkw hrw hnew hdis;replace r0:=hkw.ro r0;replace r14:=hkw.ro r14;replace sb:=kk sb hkw;clear hkw hrw hnew hdis
            go_wp2
            go_roundg g
            ·exact⟨k+1,by omega,rfl,r0,r14,sb⟩
            omega
           ·rfl
          ·rfl
         ·rfl
        ·rfl
     ·rfl
    ·rfl
   ·rfl
  ·rfl
 ·rfl
theorem By (V:Nat->Nat)(k j:Nat)(hk:k<8)(hj:j<4):bf (Sb V) (k*4+j)=V k/2^(8*(3-j))%256:=by
 unfold bf Sb
 rw[List.getD_eq_getElem?_getD,List.getElem?_map,List.getElem?_range (by omega)]
 show(UInt8.ofNat _).toNat=_
 rw[UInt8.toNat_ofNat_of_lt' (Nat.mod_lt _ (by decide)),show(k*4+j)/4=k by omega,show(k*4+j)%4=j by omega]
structure SuH (wr w:World)(g3 g4 c i:Nat)(V B:Nat->Nat):Prop where
 r3:Row wr g3 (hC true V B c) 187
 r4:Row wr g4 (rC .u8 32 (Xt (bf (Sb V)) i)) 135
 below:Below w.heap.size w wr
theorem FH (l:List UInt8)(B:Nat->Nat)(g0:Nat)(w:World)(hl:l.length<576460752303423488)(hHS:HS l B)(r0:Row w g0 (hC true (sw l) B l.length) 187)(kT:KT w):
  Calls Tryz.prog 95 #[.pointer (some ⟨g0,0,none⟩)] w fun e w'=>e= .returned (.string ⟨(sha l).toArray⟩)/\Below w.heap.size w w':=by
 have hll:(l++tl l.length).length<1152921504606846976:=by
  rw[List.length_append,Uj]
  have:zs l.length<64:=by unfold zs;omega
  omega
 go_enter func95,ntmps95
 iterate 2 go_step
 apply Za [] [_] trivial List.nodup_nil
 ·intro p;refine m_V (.string ⟨#[]⟩) (fun _=>rfl) ?_;refine Zd ?_;intro w2 hkw hrw hnew hdis;replace r0:=hkw.ro r0
  have sb:=k_b hkw
  clear hkw hrw hnew hdis
  iterate 4 go_step
  refine Zq ?_;refine q_W ?_;refine q_V _ (EI _ _ _ _ rfl (some ⟨g0,0,none⟩) rfl rfl _ underlying142) ?_;refine q_V (.pointer (some ⟨g0,0,none⟩)) (Yc _ rfl g0 0 rfl) ?_;refine q_V _ (Zi 187 _ 0 rfl g0 0 rfl _ underlying187 _ rfl 0 sizeOf4) ?_
  refine Zy (by rfl) 4 _ rfl _ (0) rfl r0 (.bool true) (Wu _ _ _ _ 0 (by omega)) isAgg4 (q_W ?_)
  refine q_V _ (Zz _ _ rfl true rfl) ?_;refine q_P false (.bool false) ?_;intro w3 hqb;replace r0:=r0.belowAll hqb;replace sb:=b_o sb hqb;clear hqb
  iterate 7 go_step
  apply Za [] [_,_,_,_,_] trivial List.nodup_nil
  ·intro p;refine m_W ?_;refine m_V (.pointer (some ⟨g0,0,none⟩)) (Yc _ rfl g0 0 rfl) ?_
   refine Xu 187 _ rfl _ (0) rfl r0 (by simp<;>omega) (hC true (sw l) B l.length) (zv _ _ _ _) _ underlying187 rfl (by rw[Xp];exact Pf) (m_W ?_)
   refine Xe 187 rfl _ Ia (m_W ?_)
   refine YE 7 187 _ _ rfl rfl rfl (hC true (sw l) B l.length) rfl (by rw[Xp];exact Pf) (by simp only[Xp]) (zr _ _ _ _) ?_;simp only[Act.put];refine Zd ?_;intro w4 hkw hrw hnew hdis
   have n3:=hnew 3 rfl
   have zr3:Row w4 (p 3) (hC true (sw l) B l.length) 187:=hrw 7 (187,hC true (sw l) B l.length) rfl
   have d0x3:=l_l r0.lt n3
   replace r0:=hkw.ro r0
   have b3:=Nat.le_trans sb.size n3
   replace sb:=kk sb hkw;clear hkw hrw hnew hdis n3
   generalize p 3=g3 at*
   have r3:=zr3
   clear zr3
   go_wp2_with fail
   refine(OA _ _ _ g0 _ (by omega) r0).mono ?_
   rintro _ w5 ⟨rfl,bb⟩
   replace r3:=r3.belowAll bb;replace sb:=b_o sb bb;clear bb r0
   dsimp only
   go_wp2_with fail
   refine(Ic l (tl l.length) B g3 _ hll hHS r3 (kT.below sb) (by omega)).mono ?_
   rintro _ w6 ⟨rfl,B2,hHS2,r3,sk⟩
   replace sb:=sb.trans (sk.below w.heap.size sb.size (by simpa using b3))
   clear sk hHS hHS2 kT
   dsimp only
   have HV:Hid (sha l=Sb (sw (l++tl l.length))):=rfl
   generalize sw (l++tl l.length)=V at*
   generalize (l++tl l.length).length=c at*
   iterate 5 go_step
   apply Za [] [_] trivial List.nodup_nil
   ·intro p
    refine Xe 135 rfl _ Fx (m_W ?_)
    refine Zd ?_;intro w7 hkw hrw hnew hdis
    have n4:=hnew 0 rfl
    have zr4:Row w7 (p 0) (rC .u8 32 fun _=>0) 135:=hrw 1 (135,rC .u8 32 fun _=>0) rfl
    have d3x4:=l_l r3.lt n4
    replace r3:=hkw.ro r3
    have b4:=Nat.le_trans sb.size n4
    replace sb:=kk sb hkw;clear hkw hrw hnew hdis n4
    generalize p 0=g4 at*
    have r4:=zr4
    clear zr4
    have H0:SuH w7 w g3 g4 c (0*4) V B2:=⟨r3,by rw[Nat.zero_mul,Um];exact r4,sb⟩
    have HX:Hid (g3≠g4/\w.heap.size<=g4):=⟨by omega,b4⟩
    clear r3 r4 sb b3 b4 d3x4 hl hll
    go_wp2_with fail
    go_loopg [5,6,22,25] 8 (fun g s5 s6 s22 s25 wr=> ∃k:Nat,k+g=8/\s22= .int .i64 k/\SuH wr w g3 g4 c (k*4) V B2)
    case atStart=>exact⟨0,by omega,rfl,H0⟩
    case round=>
     obtain⟨k,hk,rfl,r3,r4,sb⟩:=hrel
     obtain⟨x1,x2⟩:=HX.out
     clear H0
     cases gk with
     |zero=>
      obtain rfl:k=8:=by omega
      clear hk
      go_step
      apply Za [] [_] trivial List.nodup_nil
      ·intro p;refine m_V _ (Uo _ _ _ _ rfl 8 8 rfl rfl false rfl) ?_;refine Zd ?_;intro w8 hkw hrw hnew hdis;replace r4:=hkw.ro r4;replace sb:=kk sb hkw;clear hkw hrw hnew hdis
       iterate 8 go_step
       apply Za [] [_,_,_] trivial List.nodup_nil
       ·intro p;refine m_V _ (MY 135 5 _ 32 underlying135 sizeOf5 rfl g4 0 rfl (by omega)) ?_
        refine Y8 (.string ⟨(Sb V).toArray⟩) [] (fun w' hkw _=>Bx _ rfl g4 0 32 32 (Sb V) rfl (Xo V) w' (hkw.row r4 (by simp)).r (fun j hj=>by rw[Xo]at hj;exact(ZO _ _ _ _ (by omega)).trans (by rw[Nat.zero_add,XI _ _ _ (by omega)]))) (m_W ?_)
        refine Zd ?_;intro w9 hkw hrw hnew hdis;replace sb:=kk sb hkw;clear hkw hrw hnew hdis
        go_wp2
        go_ret
        exact⟨by rw[HV.out];rfl,sb⟩
       ·rfl
      ·rfl
     |succ g=>
      have hk8:k<8:=by omega
      go_step
      apply Za [] [_] trivial List.nodup_nil
      ·intro p;refine m_V _ (Uo _ _ _ _ rfl k 8 rfl rfl true (decide_eq_true (by omega))) ?_;refine Zd ?_;intro w8 hkw hrw hnew hdis;replace r3:=hkw.ro r3;replace r4:=hkw.ro r4;replace sb:=kk sb hkw;clear hkw hrw hnew hdis
       iterate 10 go_step
       apply Za [] [_,_] trivial List.nodup_nil
       ·intro p;refine m_W ?_;refine Zd ?_;intro w9 hkw hrw hnew hdis;replace r3:=hkw.ro r3;replace r4:=hkw.ro r4;replace sb:=kk sb hkw;clear hkw hrw hnew hdis
        have H1:SuH w9 w g3 g4 c (k*4+0) V B2:=⟨r3,r4,sb⟩
        clear r3 r4 sb x1 x2
        go_wp2_with fail
        go_loopg [6,25] 4 (fun m s6 s25 wq=> ∃j:Nat,j+m=4/\s25= .int .i64 j/\SuH wq w g3 g4 c (k*4+j) V B2)
        case atStart=>exact⟨0,by omega,rfl,H1⟩
        case round=>
         obtain⟨j,hj,rfl,r3,r4,sb⟩:=hrel
         obtain⟨x1,x2⟩:=HX.out
         clear H1
         cases gk with
         |zero=>
          obtain rfl:j=4:=by omega
          clear hj
          go_step
          apply Za [] [_] trivial List.nodup_nil
          ·intro p;refine m_V _ (Uo _ _ _ _ rfl 4 4 rfl rfl false rfl) ?_;refine Zd ?_;intro w10 hkw hrw hnew hdis;replace r3:=hkw.ro r3;replace r4:=hkw.ro r4;replace sb:=kk sb hkw;clear hkw hrw hnew hdis
           iterate 7 go_step
           apply Za [] [_,_] trivial List.nodup_nil
           ·intro p;refine m_V _ (Yf _ _ _ _ rfl k 1 rfl rfl (by omega)) ?_;refine Zd ?_;intro w11 hkw hrw hnew hdis;replace r3:=hkw.ro r3;replace r4:=hkw.ro r4;replace sb:=kk sb hkw;clear hkw hrw hnew hdis
            go_wp2
            go_roundg g
            ·exact⟨k+1,by omega,rfl,r3,by rw[show(k+1)*4=k*4+4 by omega];exact r4,sb⟩
            omega
           ·rfl
          ·rfl
         |succ m=>
          have hN:bf (Sb V) (k*4+j)=V k/2^(8*(3-j))%256:=By V k j hk8 (by omega)
          go_step
          apply Za [] [_] trivial List.nodup_nil
          ·intro p;refine m_V _ (Uo _ _ _ _ rfl j 4 rfl rfl true (decide_eq_true (by omega))) ?_;refine Zd ?_;intro w10 hkw hrw hnew hdis;replace r3:=hkw.ro r3;replace r4:=hkw.ro r4;replace sb:=kk sb hkw;clear hkw hrw hnew hdis
           iterate 10 go_step
           apply Za [] [_,_] trivial List.nodup_nil
           ·intro p;refine m_W ?_;refine Zd ?_;intro w11 hkw hrw hnew hdis;replace r3:=hkw.ro r3;replace r4:=hkw.ro r4;replace sb:=kk sb hkw;clear hkw hrw hnew hdis
            iterate 2 go_step
            apply Za [(g4,135,rC .u8 32 (Xt (bf (Sb V)) (k*4+j)))] [_,_,_,_,_,_,_,_,_,_,_,_,_,_,_] ⟨r4,trivial⟩ (by simp<;>omega)
            ·intro p;refine m_W ?_;refine m_V _ (Va _ _ _ _ rfl k 4 _ rfl rfl rfl (by omega)) ?_;refine m_V _ (Yf _ _ _ _ rfl (k*4) j rfl rfl (by omega)) ?_;refine m_V _ (Zi 187 _ 1 rfl g3 0 rfl _ underlying187 _ rfl 7 sizeOf184) ?_;refine m_V _ (zx _ _ _ rfl g3 1 rfl k 8 rfl (by omega) _ underlying184 sizeOf183 _ rfl) ?_;refine m_D (1+k) r3 (.int .u32 (V k:Nat)) (Br _ _ _ _ _ (by omega)) isAgg183 ?_;refine m_V _ (WR _ _ _ _ rfl 3 j rfl rfl (by omega) (by omega)) ?_;refine m_V _ (Va _ _ _ _ rfl 8 (3-j) _ rfl rfl rfl (by omega)) ?_;refine m_V _ (RM _ _ _ _ rfl (V k) (8*(3-j)) .i64 rfl rfl (by omega)) ?_;refine m_V (.int .u8 (V k/2^(8*(3-j))%256:Nat)) (Wd _ _ _ rfl .u32 .u8 underlying183 underlying5 ((V k/2^(8*(3-j)):Nat):Int) _ rfl (ya _ _ rfl)) ?_;refine m_V _ (Zj 135 _ _ rfl (g4) rfl (k*4+j) 32 rfl (by omega) _ underlying135 sizeOf5) ?_;refine Y0 0 5 _ _ rfl (k*4+j) rfl rfl .u8 (((V k/2^(8*(3-j))%256:Nat):Int)) rfl sizeOf5 (by rw[ZB];omega) (rC .u8 32 (Xt (bf (Sb V)) (k*4+j+1))) (Uk _ _ _ _ _ _ (WN _ _ _ hN _)) ?_;simp only[Act.put];refine Zd ?_;intro w12 hkw hrw hnew hdis
             have zr4:Row w12 (g4) (rC .u8 32 (Xt (bf (Sb V)) (k*4+j+1))) 135:=hrw 0 (135,rC .u8 32 (Xt (bf (Sb V)) (k*4+j+1))) rfl
             replace r3:=hkw.ro r3;replace sb:=kk sb hkw;clear hkw hrw hnew hdis r4
             have r4:=zr4
             clear zr4
             iterate 2 go_step
             apply Za [] [_,_] trivial List.nodup_nil
             ·intro p;refine m_V _ (Yf _ _ _ _ rfl j 1 rfl rfl (by omega)) ?_;refine Zd ?_;intro w13 hkw hrw hnew hdis;replace r3:=hkw.ro r3;replace r4:=hkw.ro r4;replace sb:=kk sb hkw;clear hkw hrw hnew hdis
              go_wp2
              go_roundg m
              ·exact⟨j+1,by omega,rfl,r3,r4,sb⟩
              omega
             ·rfl
            ·rfl
           ·rfl
          ·rfl
       ·rfl
      ·rfl
   ·rfl
  ·rfl
 ·rfl
theorem FI (l:List UInt8)(w:World)(hl:l.length<576460752303423488)(kT:KT w):
  Calls Tryz.prog 44 #[.string ⟨l.toArray⟩] w fun e w'=>e= .returned (.string ⟨(sha l).toArray⟩)/\Below w.heap.size w w':=by
 have k0:=kT.lt
 go_enter func44,ntmps44
 go_wp2_with fail
 refine(FF _).mono ?_
 rintro _ w2 ⟨g,rfl,hg,r,sb⟩
 dsimp only
 go_wp2_with fail
 refine(Ic [] l (fun _=>0) g _ (by simp;omega) zy r (kT.below sb) (by omega)).mono ?_
 rintro _ w3 ⟨rfl,B2,hHS2,r,sk⟩
 replace sb:=sb.trans (sk.below w.heap.size sb.size (by simpa using hg))
 clear sk
 rw[List.nil_append]at hHS2 r
 dsimp only
 go_wp2_with fail
 refine(FH l B2 g _ hl hHS2 r (kT.below sb)).mono ?_
 rintro _ w4 ⟨rfl,bb⟩
 replace sb:=b_o sb bb
 dsimp only
 go_wp2
 go_ret
 exact⟨rfl,sb⟩
open Go.ChangeShapes Go.WideShapes Go.ChangeAt Go.RowKit
def lk:List (String×DataW Unit):=[("sacristy/sha.constants",Rows.laid_sacristy_sha_constants)]
theorem EJ:Tryz.prog.globalNamed "sacristy/sha.constants" =some 0:=by kernel_rfl
theorem zA:(Tryz.prog.globals[0]?).map (·.type)=some 212:=by kernel_rfl
theorem Bz:Tryz.prog.cellsOf 183=1:=by kernel_rfl
theorem If:Tryz.prog.cellsOf 212=64:=by kernel_rfl
theorem FJ (os:Os)(args:Array Value):laidMetH Tryz.prog lk ((World.doorLaid Tryz.prog 14 os).forCall (fun _ _=>0) ⟨#[],args,[]⟩).memory:=
 laidMetH_of_parts3 (fuel:=8) (laidMet_of_run' 8 (by kernel_rfl) (by kernel_rfl)) (by kernel_rfl) (by kernel_rfl)
theorem zB:(Rows.laid_sacristy_sha_constants:DataW Unit)=Lib.tabData .u32 (kL.map fun(n:Nat)=>(n:Int)):=by kernel_rfl
theorem M0 {W:World}(h:laidMetH Tryz.prog lk W):KT W:=by
 rw[MakeChecks.laidMetH_plain _ _ _ (by kernel_rfl)]at h
 unfold lk at h
 rw[zB]at h
 have hT:=Lib.tabIs_of_head EJ zA underlying212 underlying183 Bz If h
 have hc: ∀i,i<64->W.cell? ⟨0,i,none⟩=some (.int .u32 (kf i:Nat)):=by
  intro i hi
  have hl:i<(kL.map fun(n:Nat)=>(n:Int)).length:=by rw[List.length_map];exact hi
  rw[hT.cell EJ i hl]
  unfold kf
  rw[List.getD_eq_getElem?_getD,List.getElem?_map,List.getD_eq_getElem?_getD]
  cases kL[i]?<;>rfl
 obtain⟨_,cs,t,hR⟩:=VM (hc 0 (by decide))
 exact⟨cs,t,hR,fun i hi=>by rw[<-hR.cell];exact hc i hi⟩
