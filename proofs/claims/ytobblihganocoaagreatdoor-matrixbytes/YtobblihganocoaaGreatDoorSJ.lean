import Derived.Test.YtobblihganocoaaGreatDoorSI
import Derived.Laws.AppendOwn
import Derived.Lib.ConvBytes
import Derived.Laws.IdiomCopy
set_option maxRecDepth 100000
set_option maxHeartbeats 2000000
namespace Go.Proofs.YtobblihganocoaaGreatDoor
open Go.RowKit
open Go.Proofs.Tryz
set_option linter.unusedVariables false
def OB (w:World)(base:Nat)(v:Value)(l:List UInt8):Prop:=
 (v= .slice none 0 0/\l=[])∨ ∃g cap cur fr,v= .slice (some ⟨g,0,none⟩) l.length cap/\base<=g/\w.heap[g]?=some (.cells cur 5 fr)/\l.length<=cap/\cap<=maxLen/\cur.size=cap/\
  (∀j,j<l.length->cur[j]?=some (.int .u8 (bf l j:Nat)))/\(∀k,k<cap-> ¬(fr.1<=k/\k<fr.2))
theorem zQ (w:World)(base:Nat):OB w base (.slice none 0 0) []:=.inl ⟨rfl,rfl⟩
theorem OB.lt {w:World}{base:Nat}{v:Value}{l:List UInt8}(h:OB w base v l): ∀k,v.ownBlock=some k->base<=k/\k<w.heap.size:=by
 intro k hk
 rcases h with ⟨rfl,_⟩|⟨g,cap,cur,fr,rfl,hb,hg,_⟩
 ·simp[Value.ownBlock]at hk
 ·simp[Value.ownBlock]at hk
  subst hk
  exact⟨hb,(Array.getElem?_eq_some_iff.1 hg).1⟩
theorem OB.kept {w w':World}{base:Nat}{v:Value}{l:List UInt8}(h:OB w base v l)(hk: ∀k,k<w.heap.size->v.ownBlock=some k->w'.heap[k]?=w.heap[k]?):OB w' base v l:=by
 rcases h with h|⟨g,cap,cur,fr,rfl,hb,hg,rest⟩
 ·exact .inl h
 ·exact .inr ⟨g,cap,cur,fr,rfl,hb,(hk g (Array.getElem?_eq_some_iff.1 hg).1 rfl).trans hg,rest⟩
theorem OB.below {w w':World}{base:Nat}{v:Value}{l:List UInt8}(h:OB w base v l)(hb:Below w.heap.size w w'):OB w' base v l:=h.kept fun k hk _=>hb.block k hk
theorem OB.belowAll {w w':World}{base:Nat}{v:Value}{l:List UInt8}(h:OB w base v l)(hb:Below w.heap.size w w'):OB w' base v l:=h.below hb
theorem OB.alloc {w:World}{base:Nat}{v:Value}{l:List UInt8}(h:OB w base v l)(o:Obj):OB (w.alloc o) base v l:=h.kept fun k hk _=>Below.heap_alloc w o k hk
theorem OB.on {w w':World}{S:List Nat}{base:Nat}{v:Value}{l:List UInt8}(h:OB w base v l)(hk:Kept S w w')(hS: ∀k,v.ownBlock=some k->k∉S):OB w' base v l:=h.kept fun k hl hb=>hk.block k hl (hS k hb)
theorem Sh {g:Nat}{t:TypeId}{fr:Nat×Nat}: ∀(l:List Value) (w:World) (cs:Array Value) (off:Nat),w.heap[g]?=some (.cells cs t fr)->(w.setCells g off l).heap[g]?=some (.cells (Tg cs off l) t fr)
 |[],w,cs,off,h=>h
 |v::l,w,cs,off,h=>by
  unfold World.setCells Tg
  refine Sh l _ _ (off+1) ?_
  simp[World.setCell,Array.getElem?_modify,h]
theorem M3 {w:World}{g k:Nat}{cs:Array Value}{t:TypeId}{fr:Nat×Nat}(h:w.heap[g]?=some (.cells cs t fr))(hk: ¬(fr.1<=k/\k<fr.2)):w.frozen? ⟨g,k,none⟩=false:=by
 obtain⟨lo,hi⟩:=fr
 simp only[World.frozen?,h,Bool.and_eq_false_iff,decide_eq_false_iff_not]
 simp only at hk
 omega
theorem Im (l s:List UInt8)(j:Nat)(h:j<(l++s).length):bf (l++s) j=if j<l.length then bf l j else bf s (j-l.length):=by
 split
 ·rename_i hj;exact Ox l s j hj
 ·rename_i hj
  rw[show j=l.length+(j-l.length) by omega,Fm,Nat.add_sub_cancel_left]
theorem BU (w:World)(ty:TypeId)(base:Nat)(v:Value)(l new:List UInt8)(hown:OB w base v l)(ad:Addr)(m c:Nat)(hm:new.length=m)(jx: ∀j,j<m->w.cell? (ad.add j)=some (.int .u8 (bf new j:Nat)))
  (hlen:l.length+m<=140737488355328)(hbase:base<=w.heap.size):
  ∃v' w',(Builtin.append_ #[81,81] ty #[v,.slice (some ad) m c]).run Tryz.prog w= .ok v' w'/\OB w' base v' (l++new)/\w.grownBy w' v.ownBlock:=by
 subst hm
 obtain⟨i,hi,hz,hs1,hb1⟩:=RP
 have hnews: ∀j u,(b8s new)[j]?=some u->w.cell? (ad.add j)=some u:=by
  intro j u hu
  have hj:j<new.length:=by
   rcases Nat.lt_or_ge j new.length with h|h
   ·exact h
   ·rw[List.getElem?_eq_none (by rw[Z8];exact h)]at hu;cases hu
  rw[VN _ _ hj]at hu
  rw[jx j hj];exact hu
 have hl:(b8s new).length=new.length*i.size:=by rw[Z8,hs1,Nat.mul_one]
 have hll:(l++new).length=l.length+new.length:=List.length_append
 have hmax:l.length+new.length<=maxLen:=by unfold maxLen;omega
 rcases hown with ⟨rfl,rfl⟩|⟨g,cap,cur,fr,rfl,hbg,hg,hnc,hcm,hcs,hcell,hfr⟩
 ·obtain⟨v',w',r1,r2,r3,r4⟩:=run_append_own (P:=Tryz.prog) w base 81 ty 5 i (.int .u8 0) 1 1 underlying81 hi hz hs1 hb1 rfl (by decide) (.slice none 0 0) 0 [] (World.ownsRow_nil _ _ _ _) ad new.length c (b8s new) (by rw[Z8,Nat.mul_one]) hnews (Oz new) (by simpa using hmax) (by simpa using hlen) hbase
  refine⟨v',w',r1,?_,r3⟩
  rw[List.nil_append]
  rcases r2.2 with ⟨rfl,h0⟩|⟨g,cap,cur,rfl,hb,hg,hle,hcm,hcs,htk⟩
  ·exact .inl ⟨rfl,List.length_eq_zero_iff.1 (by omega)⟩
  ·rw[Nat.zero_add]at hle
   refine .inr ⟨g,cap,cur,(0,0),by rw[Nat.zero_add],hb,hg,hle,hcm,by omega,fun j hj=>?_,fun k _=>by simp⟩
   rw[List.nil_append,Nat.zero_add,Nat.mul_one]at htk
   rw[<-Array.getElem?_toList,<-List.getElem?_take_of_lt hj,htk,VN _ _ hj]
 ·by_cases hroom:l.length+new.length<=cap
  ·have hf:=run_firstCells_some (P:=Tryz.prog) w i.size new.length ad new.length c (b8s new) hl hnews
   have hst:=run_storeCells_cells (P:=Tryz.prog) g l.length (b8s new) 0 w (fun j hj=>by
     rw[Z8]at hj
     rw[Nat.add_zero,cell_of_row w g _ cur 5 fr hg,Array.getElem?_eq_getElem (by omega)];rfl)
    (fun j hj=>by rw[Z8]at hj;exact M3 hg (hfr _ (by omega))) (Oz new)
   rw[Nat.add_zero]at hst
   refine⟨.slice (some ⟨g,0,none⟩) (l.length+new.length) cap,w.setCells g l.length (b8s new),?_,?_,?_⟩
   ·rw[hs1]at hf
    simp[Builtin.append_,run_underlying underlying81,sizeOf,typeInfo,hi,hs1,Builtin.lenOf,hroom,hf]
    rw[show(⟨g,0,none⟩:Addr).add l.length=⟨g,l.length,none⟩ by rw[Addr.add_mid];simp,hst]
    rfl
   ·refine .inr ⟨g,cap,Tg cur l.length (b8s new),fr,by rw[hll],hbg,Sh _ _ _ _ hg,by omega,hcm,by rw[VW];exact hcs,fun j hj=>?_,hfr⟩
    rw[Vh _ _ _ _ (by rw[Z8];omega),Z8,Im l new j hj]
    by_cases h:j<l.length
    ·rw[if_neg (by omega),if_pos h,hcell j h]
    ·rw[if_pos (by omega),if_neg h,VN _ _ (by omega)]
   ·have ho:=Xv g (b8s new) w l.length
    exact⟨ho.os,ho.tape,ho.output,by rw[ho.size];exact Nat.le_refl _,fun k _ hk=>ho.block k fun e=>hk (by rw[e];rfl)⟩
  ·have holds: ∀j u,(b8s l)[j]?=some u->w.cell? ((⟨g,0,none⟩:Addr).add j)=some u:=by
    intro j u hu
    have hj:j<l.length:=by
     rcases Nat.lt_or_ge j l.length with h|h
     ·exact h
     ·rw[List.getElem?_eq_none (by rw[Z8];exact h)]at hu;cases hu
    rw[VN _ _ hj]at hu
    rw[Addr.add_mid,Nat.zero_add,cell_of_row w g _ cur 5 fr hg,hcell j hj]
    exact hu
   have hr:=run_append_grow (P:=Tryz.prog) w 81 ty 5 i (.int .u8 0) underlying81 hi hz ⟨g,0,none⟩ l.length cap (b8s l) (by rw[Z8,hs1,Nat.mul_one]) holds ad new.length c (b8s new) hl hnews (by omega) (by omega) (growslice_fits (by omega) (by rw[hb1];omega))
   have hge:=grownCap_ge w (l.length+new.length) cap 5
   have hcm2:grownCap w (l.length+new.length) cap 5<=maxLen:=grownCap_le_maxLen w _ cap _ hmax
   refine⟨_,_,hr,.inr ⟨w.heap.size,_,_,(0,0),by rw[hll],hbase,heap_alloc_new w.drew _,by omega,hcm2,?_,fun j hj=>?_,fun k _=>by simp⟩,⟨rfl,rfl,rfl,by simp,fun k hk _=>Below.heap_alloc w.drew _ k hk⟩⟩
   ·simp only[Array.size_append,List.size_toArray,size_zeroCells,Z8,show(Value.int IntKind.u8 0).cells.size=1 from rfl]
    omega
   ·rw[Im l new j hj]
    rw[hll]at hj
    have hs:((b8s l).toArray++(b8s new).toArray).size=l.length+new.length:=by simp[Z8]
    rw[Array.getElem?_append_left (by rw[hs];exact hj)]
    by_cases h:j<l.length
    ·rw[if_pos h,Array.getElem?_append_left (by simp[Z8];exact h),List.getElem?_toArray,VN _ _ h]
    ·rw[if_neg h,Array.getElem?_append_right (by simp[Z8];omega),List.size_toArray,Z8,List.getElem?_toArray,VN _ _ (by omega)]
section
variable {ops:Array Oper}{Q:Exit->Act->World->Prop}{rest:List Oper}{o:Oper}{a:Act}{w:World}
theorem NS (hw:Region.wanted o (yielded ops a.tmps)=true)(s x:Operand)(ho:o.op= .call {callee:=.builtin .append,args:=#[s,x],argTypes:=#[81,81]})(base:Nat)(v:Value)(l new:List UInt8)(hs:a.eval s=v)(hown:OB w base v l)
  (ad:Addr)(m c:Nat)(hx:a.eval x= .slice (some ad) m c)(hm:new.length=m)(jx: ∀j,j<m->w.cell? (ad.add j)=some (.int .u8 (bf new j:Nat)))(hlen:l.length+m<=140737488355328)(hbase:base<=w.heap.size)
  (h: ∀v' w',OB w' base v' (l++new)->w.grownBy w' v.ownBlock->PW Tryz.prog ops Q rest (a.put o.dst v') w'):PW Tryz.prog ops Q (o::rest) a w:=by
 obtain⟨v',w',hr,h2,h3⟩:=BU w o.type base v l new hown ad m c hm jx hlen hbase
 refine XQ hw v' w' ?_ (h v' w' h2 h3)
 unfold execOp
 simp only[ho,resolve,invoke,builtin,Sem.run_bind,Sem.run_pure,Result.andThen_ok,List.map_toArray,List.map_cons,List.map_nil,hs,hx,hr]
theorem BV (hw:Region.wanted o (yielded ops a.tmps)=true)(x:Operand)(ho:o.op= .convert 9 81 x)(l:List UInt8)(hx:a.eval x= .string ⟨l.toArray⟩)(base:Nat)(hbase:base<=w.heap.size)(hl:l.length<=maxLen)
  (h: ∀v' w',OB w' base v' l->Below w.heap.size w w'->PW Tryz.prog ops Q rest (a.put o.dst v') w'):PW Tryz.prog ops Q (o::rest) a w:=by
 have hs:(⟨l.toArray⟩:ByteArray).size=l.length:=by simp[ByteArray.size]
 have hr:=Lib.run_convert_string_bytes (P:=Tryz.prog) w 9 81 5 ⟨l.toArray⟩ underlying9 underlying81 underlying5
 have hge:=grownCap_ge w l.length 0 5
 have hcs:(Lib.bytesCells w 5 ⟨l.toArray⟩).size=grownCap w l.length 0 5:=by
  unfold Lib.bytesCells
  rw[hs]
  simp
  omega
 refine XQ hw _ _ ?_ (h (.slice (some ⟨w.heap.size,0,none⟩) l.length (grownCap w l.length 0 5)) (Lib.bytesWorld w 5 ⟨l.toArray⟩) (.inr ⟨w.heap.size,_,_,_,rfl,hbase,Lib.bytesWorld_at_new w _ _,hge,grownCap_le_maxLen w _ _ _ hl,hcs,fun j hj=>?_,fun k hk=>?_⟩) ?_)
 ·unfold execOp
  simp only[ho,hx,Sem.run_bind,hr,Result.andThen_ok,hs]
  rfl
 ·have:=Lib.bytesWorld_cell w 5 ⟨l.toArray⟩ j (by rw[hs];exact hj)
  rw[cell_of_row _ _ _ _ _ _ (Lib.bytesWorld_at_new w _ _)]at this
  exact this
 ·rw[hcs]
  simp only
  omega
 ·refine⟨rfl,rfl,rfl,by rw[Lib.bytesWorld_size];omega,fun k hk=>Lib.bytesWorld_at_old w _ _ k hk⟩
theorem RS (hw:Region.wanted o (yielded ops a.tmps)=true)(x:Operand)(ho:o.op= .buildSlice 81 1 #[(0,x)])(n:Nat)(hx:a.eval x= .int .u8 (n:Nat))
  (h:PW Tryz.prog ops Q rest (a.put o.dst (.slice (some ⟨w.heap.size,0,none⟩) 1 1)) (w.alloc (.cells #[.int .u8 (n:Nat)] 5))):PW Tryz.prog ops Q (o::rest) a w:=by
 obtain⟨i,hi,hz,hs1,hb1⟩:=RP
 exact Dl hw 81 5 1 _ ho #[.int .u8 (n:Nat)] i (.int .u8 0) underlying81 hi hz (by rw[hs1];decide) (by rw[hs1];decide) [(0,.int .u8 (n:Nat))] (by show[(0,a.eval x)]=_;rw[hx]) (by rw[hs1];kernel_rfl) h
end
theorem OB.form {w:World}{base:Nat}{v:Value}{l:List UInt8}(h:OB w base v l): ∃q c,v= .slice q l.length c:=by
 rcases h with ⟨rfl,rfl⟩|⟨g,cap,cur,fr,rfl,_⟩
 ·exact⟨none,0,rfl⟩
 ·exact⟨_,_,rfl⟩
theorem U3 (w:World)(n:Nat)(b:UInt8)(h:b.toNat=n)(t:TypeId): ∀j,j<1->(w.alloc (.cells #[.int .u8 (n:Nat)] t)).cell? ((⟨w.heap.size,0,none⟩:Addr).add j)=some (.int .u8 (bf [b] j:Nat)):=by
 intro j hj
 obtain rfl:j=0:=by omega
 subst h
 rw[Addr.add_mid,(Row.new w _ _).cell]
 rfl
theorem OB.grown {B:Nat}{a w w':World}{base:Nat}{v:Value}{l:List UInt8}(hb:Below B a w)(hown:OB w base v l)(hg:w.grownBy w' v.ownBlock)(hB:B<=w.heap.size)(hbb:B<=base):Below B a w':=
 hb.grown hg hB fun k hk=>Nat.le_trans hbb (hown.lt k hk).1
section
variable {P:Program}{o:Oper}{ρ:Operand->Value}
theorem yc (t:TypeId)(x y:Operand)(u:TypeId)(ho:o.op= .binOp .geq t x y u)(n m:Int)(hx:ρ x= .int .i64 n)(hy:ρ y= .int .i64 m)(b:Bool)(hb:decide (m<=n)=b)(w:World):
  (execOp ρ o).run P w= .ok (.value (.bool b)) w:=by
 subst hb
 unfold execOp
 simp only[ho,hx,hy]
 simp[go_sem]
theorem zR (t:TypeId)(x y:Operand)(u:TypeId)(ho:o.op= .binOp .neq t x y u)(k:IntKind)(n m:Int)(hx:ρ x= .int k n)(hy:ρ y= .int k m)(b:Bool)(hb:decide (n=m)= !b)(w:World):
  (execOp ρ o).run P w= .ok (.value (.bool b)) w:=by
 unfold execOp
 simp only[ho,hx,hy]
 simp[eqGuard,go_sem]
 cases b<;>simp at hb<;>simp[hb]
theorem In (t:TypeId)(x y:Operand)(u:TypeId)(ho:o.op= .binOp .sub t x y u)(n m r:Int)(hx:ρ x= .int .i64 n)(hy:ρ y= .int .i64 m)(hr:n-m=r)(h1: -9223372036854775808<=r)(h2:r<9223372036854775808)(w:World):
  (execOp ρ o).run P w= .ok (.value (.int .i64 r)) w:=by
 subst hr
 unfold execOp
 simp only[ho,hx,hy]
 simp[go_sem]
 rw[IntKind.wrap_i64]
 omega
end
def pz (l:List UInt8)(k:Nat):List UInt8:=l++128::List.replicate k 0
def pe (l:List UInt8)(i:Nat):List UInt8:=l++128::(List.replicate (zs l.length) 0++(be8 (8*l.length)).take i)
theorem Po (l:List UInt8)(k:Nat):(pz l k).length=l.length+1+k:=by simp[pz];omega
theorem BW (l:List UInt8)(k:Nat):pz l k++[0]=pz l (k+1):=by
 unfold pz
 rw[List.append_assoc,List.cons_append,<-List.replicate_succ']
theorem BX (l:List UInt8):pe l 0=pz l (zs l.length):=by unfold pe pz;rw[List.take_zero,List.append_nil]
theorem EM (l:List UInt8):pe l 8=l++tl l.length:=by
 unfold pe tl
 rw[List.take_of_length_le (by rw[Vo];exact Nat.le_refl _)]
theorem Io (l:List UInt8)(i:Nat)(h:i<=8):(pe l i).length=l.length+1+zs l.length+i:=by
 simp[pe,Vo];omega
theorem BZ (l:List UInt8)(i:Nat)(h:i<8):pe l i++[UInt8.ofNat (8*l.length/2^(8*(7-i))%256)]=pe l (i+1):=by
 have e:(be8 (8*l.length)).take (i+1)=(be8 (8*l.length)).take i++[UInt8.ofNat (8*l.length/2^(8*(7-i))%256)]:=by
  rw[List.take_succ_eq_append_getElem (by rw[Vo];exact h)]
  simp[be8]
 unfold pe
 rw[e,List.append_assoc,List.cons_append,List.append_assoc]
theorem FU (l:List UInt8)(w:World)(hl:l.length<1099511627776):
  Calls Tryz.prog 45 #[.string ⟨l.toArray⟩] w fun e w'=> ∃v,e= .returned v/\OB w' w.heap.size v (l++tl l.length)/\Below w.heap.size w w':=by
 have hsz:(⟨l.toArray⟩:ByteArray).size=l.length:=by simp[ByteArray.size]
 have hz64:zs l.length<64:=by unfold zs;omega
 have hzd: ∀k,k<zs l.length->(l.length+1+k)%64≠56:=by unfold zs;omega
 have hze:(l.length+1+zs l.length)%64=56:=by unfold zs;omega
 go_enter func45,ntmps45
 iterate 2 go_step
 apply Za [] [_] trivial List.nodup_nil
 ·intro p;refine ZK (.slice none 0 0) (fun _=>rfl) ?_;simp only[pv];refine Zd ?_;intro w2 jj jk jx jy
  have sb:=k_b jj
  clear jj jk jx jy
  iterate 3 go_step
  refine rp ?_;refine Z5 (by rfl) (.inl rfl) rfl ?_;simp only[pv];refine BV (by rfl) _ rfl l rfl w.heap.size sb.size (by unfold maxLen;omega) ?_;intro v6 w3 own6 bb;replace sb:=b_o sb bb;clear bb;simp only[pv];refine RS (by rfl) _ rfl 128 rfl ?_
  replace own6:=own6.alloc (.cells #[.int .u8 (128:Nat)] 5)
  have hnw:=U3 w3 128 128 rfl 5
  replace sb:=sb.alloc sb.size (.cells #[.int .u8 (128:Nat)] 5)
  simp only[pv];refine NS (by rfl) _ _ rfl w.heap.size v6 l [128] rfl own6 ⟨w3.heap.size,0,none⟩ 1 1 rfl rfl hnw (by omega) sb.size ?_;intro v8 w4 own8 gr
  replace sb:=OB.grown sb own6 gr sb.size (Nat.le_refl _)
  clear own6 gr hnw;simp only[pv];refine Z5 (by rfl) (.inr rfl) rfl ?_;simp only[pv];refine Ac ?_
  have H0:OB w4 w.heap.size v8 (pz l 0):=own8
  have H1:=sb
  clear own8 sb
  go_wp2_with fail
  go_loopg [3] (zs l.length) (fun g s3 wr=> ∃k:Nat,k+g=zs l.length/\OB wr w.heap.size s3 (pz l k)/\Below w.heap.size w wr)
  case atStart=>exact⟨0,by omega,H0,H1⟩
  case round=>
   obtain⟨k,hk,own,sb⟩:=hrel
   clear H0 H1
   obtain⟨q,c,rfl⟩:=own.form
   have hlk:=Po l k
   cases gk with
   |zero=>
    obtain rfl:k=zs l.length:=by omega
    clear hk
    iterate 2 go_step
    refine Zq ?_;refine q_m ?_;simp only[pv];refine q_v (.int .i64 (l.length+1+zs l.length:Nat)) (fun w'=>(ND _ _ rfl q _ c rfl underlying81 w').trans (by rw[hlk])) ?_;simp only[pv];refine q_v _ (X2 _ _ _ _ rfl (l.length+1+zs l.length) 64 rfl rfl (by omega)) ?_;simp only[pv];refine q_v _ (zR _ _ _ _ rfl .i64 ((l.length+1+zs l.length)%64:Nat) 56 rfl rfl false (decide_eq_true (by omega))) ?_;simp only[pv];refine R5 ?_;intro w5 jz;replace own:=own.belowAll jz;replace sb:=b_o sb jz;clear jz
    have H0:OB w5 w.heap.size (.slice q (pz l (zs l.length)).length c) (pe l 0):=by rw[BX];exact own
    have H1:=sb
    clear own sb hlk
    go_wp2_with fail
    go_loopg [3,4] 8 (fun g s3 s4 wr=> ∃i:Nat,i+g=8/\s4= .int .i64 (7-(i:Int))/\OB wr w.heap.size s3 (pe l i)/\Below w.heap.size w wr)
    case atStart=>exact⟨0,by omega,rfl,H0,H1⟩
    case round=>
     obtain⟨i,hi,rfl,own,sb⟩:=hrel
     clear H0 H1
     obtain⟨q,c,rfl⟩:=own.form
     cases gk with
     |zero=>
      obtain rfl:i=8:=by omega
      clear hi
      iterate 2 go_step
      refine Zq ?_;refine q_m ?_;simp only[pv];refine q_v _ (yc _ _ _ _ rfl (7-(8:Nat)) 0 rfl rfl false rfl) ?_;simp only[pv];refine R5 ?_;intro w6 jz;replace own:=own.belowAll jz;replace sb:=b_o sb jz;clear jz
      rw[EM]at own
      go_wp2
      go_ret
      exact⟨_,rfl,by rw[EM];exact own,sb⟩
     |succ g=>
      have e7:(7:Int)-(i:Int)=((7-i:Nat):Int):=by omega
      rw[e7]
      have hdv:8*l.length/2^(8*(7-i))<9223372036854775808:=Nat.lt_of_le_of_lt (Nat.div_le_self _ _) (by omega)
      iterate 2 go_step
      refine Zq ?_;refine q_m ?_;simp only[pv];refine q_v _ (yc _ _ _ _ rfl (7-i:Nat) 0 rfl rfl true (decide_eq_true (by omega))) ?_;simp only[pv];refine R5 ?_;intro wr5 jz;replace own:=own.belowAll jz;replace sb:=b_o sb jz;clear jz
      iterate 8 go_step
      refine rp ?_;refine Z5 (by rfl) (.inl rfl) rfl ?_;simp only[pv];refine Z5 (by rfl) (.inl rfl) rfl ?_;simp only[pv];refine p_v (.int .i64 (l.length:Nat)) (fun w'=>(J0 _ _ rfl ⟨l.toArray⟩ rfl underlying9 w').trans (by rw[hsz])) ?_;simp only[pv];refine p_v _ (Va _ _ _ _ rfl 8 l.length _ rfl rfl rfl (by omega)) ?_;simp only[pv];refine Z5 (by rfl) (.inl rfl) rfl ?_;simp only[pv];refine p_v _ (Va _ _ _ _ rfl 8 (7-i) _ rfl rfl rfl (by omega)) ?_;simp only[pv];refine p_v _ (Pe _ _ _ _ rfl (8*l.length) (8*(7-i)) .i64 rfl rfl (by omega)) ?_;simp only[pv];refine p_v _ (WQ _ _ _ _ rfl (8*l.length/2^(8*(7-i))) 255 _ rfl rfl hdv (by decide) (Nat.and_two_pow_sub_one_eq_mod _ 8)) ?_;simp only[pv];refine p_v (.int .u8 (8*l.length/2^(8*(7-i))%256:Nat)) (Wd _ _ _ rfl .i64 .u8 underlying3 underlying5 ((8*l.length/2^(8*(7-i))%256:Nat):Int) _ rfl (ya _ _ (Nat.mod_mod _ _))) ?_;simp only[pv];refine RS (by rfl) _ rfl (8*l.length/2^(8*(7-i))%256) rfl ?_
      replace own:=own.alloc (.cells #[.int .u8 (8*l.length/2^(8*(7-i))%256:Nat)] 5)
      have hnw:=U3 wr5 (8*l.length/2^(8*(7-i))%256) (UInt8.ofNat (8*l.length/2^(8*(7-i))%256)) (UInt8.toNat_ofNat_of_lt' (Nat.mod_lt _ (by decide))) 5
      replace sb:=sb.alloc sb.size (.cells #[.int .u8 (8*l.length/2^(8*(7-i))%256:Nat)] 5)
      simp only[pv];refine NS (by rfl) _ _ rfl w.heap.size (.slice q (pe l i).length c) (pe l i) [UInt8.ofNat (8*l.length/2^(8*(7-i))%256)] rfl own ⟨wr5.heap.size,0,none⟩ 1 1 rfl rfl hnw (by rw[Io _ _ (by omega)];omega) sb.size ?_;intro v8 w6 own8 gr
      replace sb:=OB.grown sb own gr sb.size (Nat.le_refl _)
      rw[BZ l i (by omega)]at own8
      clear own gr hnw;simp only[pv];refine Z5 (by rfl) (.inr rfl) rfl ?_;simp only[pv];refine Ac ?_
      iterate 2 go_step
      refine Zq ?_;refine q_m ?_;simp only[pv];refine q_v (.int .i64 (7-((i+1:Nat):Int))) (In _ _ _ _ rfl (7-i:Nat) 1 _ rfl rfl (by omega) (by omega) (by omega)) ?_;refine q_a ?_;simp only[pv];refine R5 ?_;intro w8 jz;replace own8:=own8.belowAll jz;replace sb:=b_o sb jz;clear jz
      go_wp2
      go_roundg g
      ·exact⟨i+1,by omega,rfl,own8,sb⟩
      omega
   |succ g=>
    iterate 2 go_step
    refine Zq ?_;refine q_m ?_;simp only[pv];refine q_v (.int .i64 (l.length+1+k:Nat)) (fun w'=>(ND _ _ rfl q _ c rfl underlying81 w').trans (by rw[hlk])) ?_;simp only[pv];refine q_v _ (X2 _ _ _ _ rfl (l.length+1+k) 64 rfl rfl (by omega)) ?_;simp only[pv];refine q_v _ (zR _ _ _ _ rfl .i64 ((l.length+1+k)%64:Nat) 56 rfl rfl true (decide_eq_false (by omega))) ?_;simp only[pv];refine R5 ?_;intro wr5 jz;replace own:=own.belowAll jz;replace sb:=b_o sb jz;clear jz
    iterate 7 go_step
    refine rp ?_;refine Z5 (by rfl) (.inl rfl) rfl ?_;simp only[pv];refine RS (by rfl) _ rfl 0 rfl ?_
    replace own:=own.alloc (.cells #[.int .u8 (0:Nat)] 5)
    have hnw:=U3 wr5 0 0 rfl 5
    replace sb:=sb.alloc sb.size (.cells #[.int .u8 (0:Nat)] 5)
    simp only[pv];refine NS (by rfl) _ _ rfl w.heap.size (.slice q (pz l k).length c) (pz l k) [0] rfl own ⟨wr5.heap.size,0,none⟩ 1 1 rfl rfl hnw (by rw[Po];omega) sb.size ?_;intro v8 w6 own8 gr
    replace sb:=OB.grown sb own gr sb.size (Nat.le_refl _)
    rw[BW]at own8
    clear own gr hnw;simp only[pv];refine Z5 (by rfl) (.inr rfl) rfl ?_;simp only[pv];refine Ac ?_
    go_wp2
    go_roundg g
    ·exact⟨k+1,by omega,own8,sb⟩
    omega
 ·rfl
theorem Ip:Tryz.prog.built 145 [(0,.int .i64 1116352408),(1,.int .i64 1899447441),(2,.int .i64 3049323471),(3,.int .i64 3921009573),(4,.int .i64 961987163),(5,.int .i64 1508970993),(6,.int .i64 2453635748),(7,.int .i64 2870763221),(8,.int .i64 3624381080),(9,.int .i64 310598401),(10,.int .i64 607225278),(11,.int .i64 1426881987),(12,.int .i64 1925078388),(13,.int .i64 2162078206),(14,.int .i64 2614888103),(15,.int .i64 3248222580),(16,.int .i64 3835390401),(17,.int .i64 4022224774),(18,.int .i64 264347078),(19,.int .i64 604807628),(20,.int .i64 770255983),(21,.int .i64 1249150122),(22,.int .i64 1555081692),(23,.int .i64 1996064986),(24,.int .i64 2554220882),(25,.int .i64 2821834349),(26,.int .i64 2952996808),(27,.int .i64 3210313671),(28,.int .i64 3336571891),(29,.int .i64 3584528711),(30,.int .i64 113926993),(31,.int .i64 338241895),(32,.int .i64 666307205),(33,.int .i64 773529912),(34,.int .i64 1294757372),(35,.int .i64 1396182291),(36,.int .i64 1695183700),(37,.int .i64 1986661051),(38,.int .i64 2177026350),(39,.int .i64 2456956037),(40,.int .i64 2730485921),(41,.int .i64 2820302411),(42,.int .i64 3259730800),(43,.int .i64 3345764771),(44,.int .i64 3516065817),(45,.int .i64 3600352804),(46,.int .i64 4094571909),(47,.int .i64 275423344),(48,.int .i64 430227734),(49,.int .i64 506948616),(50,.int .i64 659060556),(51,.int .i64 883997877),(52,.int .i64 958139571),(53,.int .i64 1322822218),(54,.int .i64 1537002063),(55,.int .i64 1747873779),(56,.int .i64 1955562222),(57,.int .i64 2024104815),(58,.int .i64 2227730452),(59,.int .i64 2361852424),(60,.int .i64 2428436474),(61,.int .i64 2756734187),(62,.int .i64 3204031479),(63,.int .i64 3329325298)]=some (rC .i64 64 kf):=by kernel_rfl
section
variable {P:Program}{olds:WT}{p:Nat->Nat}{W:World}{F:Act->Ct->Prop}{n:Nat}{l:List Oper}{pl:List Sp}{a:Act}{ct:Ct}{o:Oper}
theorem Un (ty:TypeId)(x:Operand)(ho:o.op= .load ty x)(g i:Nat)(hx:a.eval x= .pointer (some ⟨g,i,none⟩)){t:TypeId}{cs:Array Value}(hg:XT W g cs t)(hS:g∉olds.map (·.1))(v:Value)(hc:cs[i]?=some v)
  (ha: ∀w,(isAgg ty).run P w= .ok false w)
  (h:MX P olds p W F (n+1) l pl (a.put o.dst v) ct):MX P olds p W F n (o::l) ((fun _=>v,[],none,[])::pl) a ct:=by
 refine Y8 v [] (fun w hk _=>?_) h
 unfold execOp
 simp only[ho,hx,Instr.loadAt,Instr.sureAddr,Sem.run_bind,Sem.run_pure,Result.andThen_ok,Ym w g i ty v ha ((hk.rowR hg hS).cell i |>.trans hc)]
end
theorem RU (n:Nat):n&&&4294967295=n%4294967296:=Nat.and_two_pow_sub_one_eq_mod n 32
theorem M4 (w:World):Calls Tryz.prog 46 #[] w fun e w'=>e= .returned (.agg (rC .i64 8 ivf))/\Below w.heap.size w w':=by
 go_enter func46,ntmps46
 iterate 2 go_step
 apply Za [] [_] trivial List.nodup_nil
 ·intro p;refine Xe 97 rfl _ Se ?_;simp only[Act.put,List.setIfInBounds_toArray,List.set_cons_zero];refine Zd ?_;intro w2 jj jk jx jy
  have n0:=jx 0 rfl
  have zr0:Row w2 (p 0) (rC .i64 8 fun _=>0) 97:=jk 1 (97,rC .i64 8 fun _=>0) rfl
  have sb:=k_b jj
  have b0:w.heap.size<=p 0:=n0
  clear jj jk jx jy n0
  generalize p 0=g0 at*
  have r0:=zr0
  clear zr0
  iterate 3 go_step
  apply Za [(g0,97,rC .i64 8 fun _=>0)] [_,_] ⟨r0,trivial⟩ (by simp<;>omega)
  ·intro p;refine ZK _ (Xs _ _ rfl _ rfl _ (NI ivf)) ?_;simp only[pv];refine YE 0 97 _ _ rfl rfl rfl (rC .i64 8 ivf) rfl (by rw[ZB];exact XV) (by simp only[ZB]) (XR _ _ _) ?_;simp only[Act.put];refine Zd ?_;intro w3 jj jk jx jy
   have zr0:Row w3 (g0) (rC .i64 8 ivf) 97:=jk 0 (97,rC .i64 8 ivf) rfl
   replace sb:=kk sb jj;clear jj jk jx jy r0
   have r0:=zr0
   clear zr0
   go_wp2
   exact ZH rfl _ rfl r0 8 _ underlying97 (by rw[ZB];exact XV) rfl ⟨rfl,sb⟩
  ·rfl
 ·rfl
theorem M5 (w:World):Calls Tryz.prog 97 #[] w fun e w'=>e= .returned (.agg (rC .i64 64 kf))/\Below w.heap.size w w':=by
 go_enter func97,ntmps97
 iterate 2 go_step
 apply Za [] [_] trivial List.nodup_nil
 ·intro p;refine Xe 145 rfl _ Ul ?_;simp only[Act.put,List.setIfInBounds_toArray,List.set_cons_zero];refine Zd ?_;intro w2 jj jk jx jy
  have n0:=jx 0 rfl
  have zr0:Row w2 (p 0) (rC .i64 64 fun _=>0) 145:=jk 1 (145,rC .i64 64 fun _=>0) rfl
  have sb:=k_b jj
  have b0:w.heap.size<=p 0:=n0
  clear jj jk jx jy n0
  generalize p 0=g0 at*
  have r0:=zr0
  clear zr0
  iterate 3 go_step
  apply Za [(g0,145,rC .i64 64 fun _=>0)] [_,_] ⟨r0,trivial⟩ (by simp<;>omega)
  ·intro p;refine ZK _ (Xs _ _ rfl _ rfl _ Ip) ?_;simp only[pv];refine YE 0 145 _ _ rfl rfl rfl (rC .i64 64 kf) rfl (by rw[ZB];exact Wj) (by simp only[ZB]) (XR _ _ _) ?_;simp only[Act.put];refine Zd ?_;intro w3 jj jk jx jy
   have zr0:Row w3 (g0) (rC .i64 64 kf) 145:=jk 0 (145,rC .i64 64 kf) rfl
   replace sb:=kk sb jj;clear jj jk jx jy r0
   have r0:=zr0
   clear zr0
   go_wp2
   exact ZH rfl _ rfl r0 64 _ underlying145 (by rw[ZB];exact Wj) rfl ⟨rfl,sb⟩
  ·rfl
 ·rfl
structure ScH (wr w:World)(g2 g3:Nat)(u:Nat->Nat):Prop where
 z:Row wr g2 (rC .i64 64 fun _=>0) 145
 o:Row wr g3 (rC .i64 64 u) 145
 below:Below w.heap.size w wr
theorem Iq (b:Nat->Nat)(hb: ∀i,b i<256)(gb ob cb:Nat)(cs:Array Value)(tb:TypeId)(w:World)(rB0:XT w gb cs tb)(hcs: ∀i,i<64->cs[ob+i]?=some (.int .u8 (b i:Nat))):
  Calls Tryz.prog 96 #[.slice (some ⟨gb,ob,none⟩) 64 cb] w fun e w'=>e= .returned (.agg (rC .i64 64 (wf b)))/\Below w.heap.size w w':=by
 have HB:Hid (XT w gb cs tb):=rB0
 have lB:=rB0.lt
 clear rB0
 go_enter func96,ntmps96
 iterate 2 go_step
 apply Za [] [_] trivial List.nodup_nil
 ·intro p;refine Xe 145 rfl _ Ul ?_;simp only[pv];refine Zd ?_;intro w2 jj jk jx jy
  have n2:=jx 0 rfl
  have zr2:Row w2 (p 0) (rC .i64 64 fun _=>0) 145:=jk 1 (145,rC .i64 64 fun _=>0) rfl
  have sb:=k_b jj
  have b2:w.heap.size<=p 0:=n2
  clear jj jk jx jy n2
  generalize p 0=g2 at*
  have r2:=zr2
  clear zr2
  iterate 3 go_step
  apply Za [] [_,_,_] trivial List.nodup_nil
  ·intro p;refine ZK _ (Xs _ [] rfl _ rfl _ J6) ?_;simp only[pv];refine Xe 145 rfl _ Ul ?_;simp only[pv];refine YE 3 145 _ _ rfl rfl rfl (rC .i64 64 fun _=>0) rfl (by rw[ZB];exact Wj) (by simp only[ZB]) (XR _ _ _) ?_;simp only[Act.put];refine Zd ?_;intro w3 jj jk jx jy
   have n3:=jx 1 rfl
   have zr3:Row w3 (p 1) (rC .i64 64 fun _=>0) 145:=jk 3 (145,rC .i64 64 fun _=>0) rfl
   have d2x3:=l_l r2.lt n3
   replace r2:=jj.ro r2
   have b3:=Nat.le_trans sb.size n3
   replace sb:=kk sb jj;clear jj jk jx jy n3
   generalize p 1=g3 at*
   have r3:=zr3
   clear zr3
   have H0:ScH w3 w g2 g3 (Xt (wf b) 0):=⟨r2,by rw[Um];exact r3,sb⟩
   have HX:Hid (g2≠g3/\w.heap.size<=g2/\w.heap.size<=g3/\gb≠g3):=⟨by omega,b2,b3,by omega⟩
   clear r2 r3 sb b2 b3 d2x3 lB
   go_wp2_with fail
   go_loopg [4] 16 (fun g s4 wr=> ∃i:Nat,i+g=16/\s4= .int .i64 i/\ScH wr w g2 g3 (Xt (wf b) i))
   case atStart=>exact⟨0,by omega,rfl,H0⟩
   case round=>
    obtain⟨i,hi,rfl,r2,r3,sb⟩:=hrel
    obtain⟨x1,x2,x3,x4⟩:=HX.out
    clear H0
    cases gk with
    |zero=>
     obtain rfl:i=16:=by omega
     clear hi
     iterate 2 go_step
     apply Za [] [_,_] trivial List.nodup_nil
     ·intro p;refine m_m ?_;simp only[pv];refine ZK _ (Uo _ _ _ _ rfl 16 16 rfl rfl false rfl) ?_;simp only[pv];refine Zd ?_;intro w4 jj jk jx jy;replace r2:=jj.ro r2;replace r3:=jj.ro r3;replace sb:=kk sb jj;clear jj jk jx jy
      have H1:ScH w4 w g2 g3 (Xt (wf b) (16+0)):=⟨r2,r3,sb⟩
      clear r2 r3 sb x1 x2 x3 x4
      go_wp2_with fail
      go_loopg [5] 48 (fun g s5 wr=> ∃i:Nat,i+g=48/\s5= .int .i64 (16+i:Nat)/\ScH wr w g2 g3 (Xt (wf b) (16+i)))
      case atStart=>exact⟨0,by omega,rfl,H1⟩
      case round=>
       obtain⟨i,hi,rfl,r2,r3,sb⟩:=hrel
       obtain⟨x1,x2,x3,x4⟩:=HX.out
       clear H1
       cases gk with
       |zero=>
        obtain rfl:i=48:=by omega
        clear hi
        iterate 2 go_step
        apply Za [] [_,_] trivial List.nodup_nil
        ·intro p;refine m_m ?_;simp only[pv];refine ZK _ (Uo _ _ _ _ rfl (16+48:Nat) 64 rfl rfl false rfl) ?_;simp only[pv];refine Zd ?_;intro w5 jj jk jx jy;replace r2:=jj.ro r2;replace r3:=jj.ro r3;replace sb:=kk sb jj;clear jj jk jx jy
         iterate 7 go_step
         apply Za [(g2,145,rC .i64 64 fun _=>0)] [_,_] ⟨r2,trivial⟩ (by simp<;>omega)
         ·intro p;refine Wz 145 _ rfl _ rfl r3 (by simp<;>omega) 64 _ underlying145 (by rw[ZB];exact Wj) ?_;simp only[pv];refine YE 0 145 _ _ rfl rfl rfl (rC .i64 64 (Xt (wf b) (16+48))) rfl (by rw[ZB];exact Wj) (by simp only[ZB]) (XR _ _ _) ?_;simp only[Act.put];refine Zd ?_;intro w6 jj jk jx jy
          have zr2:Row w6 (g2) (rC .i64 64 (Xt (wf b) (16+48))) 145:=jk 0 (145,rC .i64 64 (Xt (wf b) (16+48))) rfl
          replace sb:=kk sb jj;clear jj jk jx jy r2
          have r2:=zr2
          clear zr2
          go_wp2
          exact ZH rfl _ rfl r2 64 _ underlying145 (by rw[ZB];exact Wj) rfl ⟨by rw[U0 .i64 64 fun i hi=>XI (wf b) (16+48) i hi],sb⟩
         ·rfl
        ·rfl
       |succ g=>
        iterate 2 go_step
        apply Za [] [_,_] trivial List.nodup_nil
        ·intro p;refine m_m ?_;simp only[pv];refine ZK _ (Uo _ _ _ _ rfl (16+i:Nat) 64 rfl rfl true (decide_eq_true (by omega))) ?_;simp only[pv];refine Zd ?_;intro w5 jj jk jx jy;replace r2:=jj.ro r2;replace r3:=jj.ro r3;replace sb:=kk sb jj;clear jj jk jx jy
         iterate 9 go_step
         refine Zv (by kernel_rfl) (by kernel_rfl) ?_;refine q_m ?_;simp only[pv];refine q_v _ (WR _ _ _ _ rfl (16+i) (15) rfl rfl (by omega) (by omega)) ?_;simp only[pv];refine q_v _ (Zj 145 _ _ rfl (g3) rfl (16+i-15) 64 rfl (by omega) _ underlying145 sizeOf3) ?_;simp only[pv];refine Zy (by rfl) 3 _ rfl _ (16+i-15) rfl r3 (.int .i64 (wf b (16+i-15):Nat)) ((ZO _ _ _ _ (by omega)).trans (by rw[XI _ _ _ (by omega)])) isAgg3 ?_;refine q_m ?_;simp only[pv];refine q_v _ (WR _ _ _ _ rfl (16+i) (2) rfl rfl (by omega) (by omega)) ?_;simp only[pv];refine q_v _ (Zj 145 _ _ rfl (g3) rfl (16+i-2) 64 rfl (by omega) _ underlying145 sizeOf3) ?_;simp only[pv];refine Zy (by rfl) 3 _ rfl _ (16+i-2) rfl r3 (.int .i64 (wf b (16+i-2):Nat)) ((ZO _ _ _ _ (by omega)).trans (by rw[XI _ _ _ (by omega)])) isAgg3 ?_;refine q_a ?_;refine q_a ?_;simp only[pv];refine R5 ?_;intro w6 jz;replace r2:=r2.belowAll jz;replace r3:=r3.belowAll jz;replace sb:=b_o sb jz;clear jz
         iterate 3 go_step
         refine Zq ?_;refine q_m ?_;simp only[pv];refine q_c 98 func98 #[.int .i64 (wf b (16+i-15):Nat),.int .i64 7] (fun w'=>Xh (wf b (16+i-15)) 7 w' (Wm hb _) (by decide) (by decide)) ?_;refine q_m ?_;simp only[pv];refine q_c 98 func98 #[.int .i64 (wf b (16+i-15):Nat),.int .i64 18] (fun w'=>Xh (wf b (16+i-15)) 18 w' (Wm hb _) (by decide) (by decide)) ?_;simp only[pv];refine q_v _ (WP _ _ _ _ rfl (rr (wf b (16+i-15)) 7) (rr (wf b (16+i-15)) 18) rfl rfl (Wn (Yu 7 (Wm hb _))) (Wn (Yu 18 (Wm hb _)))) ?_;refine q_m ?_;simp only[pv];refine q_v _ (Pe _ _ _ _ rfl (wf b (16+i-15)) (3) .u64 rfl rfl (by omega)) ?_;simp only[pv];refine q_v _ (WP _ _ _ _ rfl ((rr (wf b (16+i-15)) 7)^^^(rr (wf b (16+i-15)) 18)) ((wf b (16+i-15))/2^3) rfl rfl (Wn (Wb (Yu 7 (Wm hb _)) (Yu 18 (Wm hb _)))) (Wn (UL (Wm hb _)))) ?_;refine q_a ?_;simp only[pv];refine R5 ?_;intro w7 jz;replace r2:=r2.belowAll jz;replace r3:=r3.belowAll jz;replace sb:=b_o sb jz;clear jz
         iterate 3 go_step
         refine Zq ?_;refine q_m ?_;simp only[pv];refine q_c 98 func98 #[.int .i64 (wf b (16+i-2):Nat),.int .i64 17] (fun w'=>Xh (wf b (16+i-2)) 17 w' (Wm hb _) (by decide) (by decide)) ?_;refine q_m ?_;simp only[pv];refine q_c 98 func98 #[.int .i64 (wf b (16+i-2):Nat),.int .i64 19] (fun w'=>Xh (wf b (16+i-2)) 19 w' (Wm hb _) (by decide) (by decide)) ?_;simp only[pv];refine q_v _ (WP _ _ _ _ rfl (rr (wf b (16+i-2)) 17) (rr (wf b (16+i-2)) 19) rfl rfl (Wn (Yu 17 (Wm hb _))) (Wn (Yu 19 (Wm hb _)))) ?_;refine q_m ?_;simp only[pv];refine q_v _ (Pe _ _ _ _ rfl (wf b (16+i-2)) (10) .u64 rfl rfl (by omega)) ?_;simp only[pv];refine q_v _ (WP _ _ _ _ rfl ((rr (wf b (16+i-2)) 17)^^^(rr (wf b (16+i-2)) 19)) ((wf b (16+i-2))/2^10) rfl rfl (Wn (Wb (Yu 17 (Wm hb _)) (Yu 19 (Wm hb _)))) (Wn (UL (Wm hb _)))) ?_;refine q_a ?_;simp only[pv];refine R5 ?_;intro w8 jz;replace r2:=r2.belowAll jz;replace r3:=r3.belowAll jz;replace sb:=b_o sb jz;clear jz
         have hN:wf b (16+i)=(ss1 (wf b (16+i-2))+wf b (16+i-7)+ss0 (wf b (16+i-15))+wf b (16+i-16))%4294967296:=Bc b _ (by omega)
         have h0:ss0 (wf b (16+i-15))<4294967296:=zb (Wm hb _)
         have h1:ss1 (wf b (16+i-2))<4294967296:=zc (Wm hb _)
         have h2:=Wm hb (16+i-7)
         have h3:=Wm hb (16+i-16)
         rw[show((rr (wf b (16+i-15)) 7)^^^(rr (wf b (16+i-15)) 18))^^^((wf b (16+i-15))/2^3)=ss0 (wf b (16+i-15))from rfl,show((rr (wf b (16+i-2)) 17)^^^(rr (wf b (16+i-2)) 19))^^^((wf b (16+i-2))/2^10)=ss1 (wf b (16+i-2))from rfl]
         generalize ss0 (wf b (16+i-15))=y0 at*
         generalize ss1 (wf b (16+i-2))=y1 at*
         generalize e2:wf b (16+i-7)=y2 at*
         generalize e3:wf b (16+i-16)=y3 at*
         iterate 2 go_step
         apply Zg (by kernel_rfl) [(g3,145,rC .i64 64 (Xt (wf b) (16+i)))] [_,_,_,_,_,_,_,_,_,_,_,_,_,_,_,_,_] ⟨r3,trivial⟩ (by simp<;>omega)
         ·intro p;refine m_m ?_;refine m_m ?_;refine m_m ?_;simp only[pv];refine ZK _ (WR _ _ _ _ rfl (16+i) (7) rfl rfl (by omega) (by omega)) ?_;simp only[pv];refine ZK _ (Zj 145 _ _ rfl (g3) rfl (16+i-7) 64 rfl (by omega) _ underlying145 sizeOf3) ?_;simp only[pv];refine Yb 0 3 _ rfl (16+i-7) rfl rfl (.int .i64 (y2:Nat)) ((ZO _ _ _ _ (by omega)).trans (by rw[XI _ _ _ (by omega),e2])) isAgg3 ?_;simp only[pv];refine ZK _ (Yf _ _ _ _ rfl (y1) (y2) rfl rfl (by omega)) ?_;refine m_m ?_;simp only[pv];refine ZK _ (Yf _ _ _ _ rfl (y1+y2) (y0) rfl rfl (by omega)) ?_;refine m_m ?_;simp only[pv];refine ZK _ (WR _ _ _ _ rfl (16+i) (16) rfl rfl (by omega) (by omega)) ?_;simp only[pv];refine ZK _ (Zj 145 _ _ rfl (g3) rfl (16+i-16) 64 rfl (by omega) _ underlying145 sizeOf3) ?_;simp only[pv];refine Yb 0 3 _ rfl (16+i-16) rfl rfl (.int .i64 (y3:Nat)) ((ZO _ _ _ _ (by omega)).trans (by rw[XI _ _ _ (by omega),e3])) isAgg3 ?_;simp only[pv];refine ZK _ (Yf _ _ _ _ rfl (y1+y2+y0) (y3) rfl rfl (by omega)) ?_;simp only[pv];refine ZK _ (WQ _ _ _ _ rfl (y1+y2+y0+y3) 4294967295 _ rfl rfl (by omega) (by decide) (RU _)) ?_;simp only[pv];refine ZK _ (Zj 145 _ _ rfl (g3) rfl (16+i) 64 rfl (by omega) _ underlying145 sizeOf3) ?_;simp only[pv];refine Y0 0 3 _ _ rfl (16+i) rfl rfl .i64 ((((y1+y2+y0+y3)%4294967296:Nat):Int)) rfl sizeOf3 (by rw[ZB];omega) (rC .i64 64 (Xt (wf b) (16+i+1))) (Uk _ _ _ _ _ _ (WN _ _ _ hN _)) ?_;simp only[Act.put];refine Zd ?_;intro w9 jj jk jx jy
          have zr3:Row w9 (g3) (rC .i64 64 (Xt (wf b) (16+i+1))) 145:=jk 0 (145,rC .i64 64 (Xt (wf b) (16+i+1))) rfl
          replace r2:=jj.ro r2;replace sb:=kk sb jj;clear jj jk jx jy r3
          have r3:=zr3
          clear zr3
          iterate 2 go_step
          apply Za [] [_,_,_] trivial List.nodup_nil
          ·intro p;refine m_m ?_;simp only[pv];refine ZK _ (Yf _ _ _ _ rfl (16+i) 1 rfl rfl (by omega)) ?_;refine m_a ?_;simp only[pv];refine Zd ?_;intro w10 jj jk jx jy;replace r2:=jj.ro r2;replace r3:=jj.ro r3;replace sb:=kk sb jj;clear jj jk jx jy
           go_wp2
           go_roundg g
           ·exact⟨i+1,by omega,rfl,r2,r3,sb⟩
           omega
          ·rfl
         ·kernel_rfl
        ·rfl
     ·rfl
    |succ g=>
     iterate 2 go_step
     apply Za [] [_,_] trivial List.nodup_nil
     ·intro p;refine m_m ?_;simp only[pv];refine ZK _ (Uo _ _ _ _ rfl i 16 rfl rfl true (decide_eq_true (by omega))) ?_;simp only[pv];refine Zd ?_;intro w4 jj jk jx jy;replace r2:=jj.ro r2;replace r3:=jj.ro r3;replace sb:=kk sb jj;clear jj jk jx jy
      have rB:=HB.out.belowAll sb
      have hN:wf b i=((((b (4*i))*2^24)|||((b (4*i+1))*2^16))|||((b (4*i+2))*2^8))|||(b (4*i+3)):=by
       rw[Bb b i (by omega)]
       rfl
      iterate 8 go_step
      apply Zg (by kernel_rfl) [(g3,145,rC .i64 64 (Xt (wf b) i))] [_,_,_,_,_,_,_,_,_,_,_,_,_,_,_,_,_,_,_,_,_,_,_,_,_,_,_,_,_,_,_,_,_,_,_,_] ⟨r3,trivial⟩ (by simp<;>omega)
      ·intro p;refine m_m ?_;refine m_m ?_;refine m_m ?_;simp only[pv];refine ZK _ (Va _ _ _ _ rfl (4) (i) _ rfl rfl rfl (by omega)) ?_;simp only[pv];refine ZK _ (SN _ _ _ rfl gb ob 64 cb rfl (4*i) rfl (by omega) _ underlying81 sizeOf5 _ rfl) ?_;simp only[pv];refine Un 5 _ rfl gb (ob+(4*i)) rfl rB (by simp<;>omega) (.int .u8 (b (4*i):Nat)) (hcs _ (by omega)) isAgg5 ?_;simp only[pv];refine ZK (.int .i64 (b (4*i):Nat)) (Wd _ _ _ rfl .u8 .i64 underlying5 underlying3 ((b (4*i):Nat):Int) _ rfl (wrap_i64 _ (by have:=(hb (4*i));omega))) ?_;simp only[pv];refine ZK _ (NC _ _ _ _ rfl (b (4*i)) (24) .u64 rfl rfl (by omega) (by have:=(hb (4*i));omega)) ?_;refine m_m ?_;refine m_m ?_;simp only[pv];refine ZK _ (Va _ _ _ _ rfl (4) (i) _ rfl rfl rfl (by omega)) ?_;simp only[pv];refine ZK _ (Yf _ _ _ _ rfl (4*i) (1) rfl rfl (by omega)) ?_;simp only[pv];refine ZK _ (SN _ _ _ rfl gb ob 64 cb rfl (4*i+1) rfl (by omega) _ underlying81 sizeOf5 _ rfl) ?_;simp only[pv];refine Un 5 _ rfl gb (ob+(4*i+1)) rfl rB (by simp<;>omega) (.int .u8 (b (4*i+1):Nat)) (hcs _ (by omega)) isAgg5 ?_;simp only[pv];refine ZK (.int .i64 (b (4*i+1):Nat)) (Wd _ _ _ rfl .u8 .i64 underlying5 underlying3 ((b (4*i+1):Nat):Int) _ rfl (wrap_i64 _ (by have:=(hb (4*i+1));omega))) ?_;simp only[pv];refine ZK _ (NC _ _ _ _ rfl (b (4*i+1)) (16) .u64 rfl rfl (by omega) (by have:=(hb (4*i+1));omega)) ?_;simp only[pv];refine ZK _ (Fp _ _ _ _ rfl ((b (4*i))*2^24) ((b (4*i+1))*2^16) rfl rfl (Wn (by have:=(hb (4*i));omega)) (Wn (by have:=(hb (4*i+1));omega))) ?_;refine m_m ?_;refine m_m ?_;simp only[pv];refine ZK _ (Va _ _ _ _ rfl (4) (i) _ rfl rfl rfl (by omega)) ?_;simp only[pv];refine ZK _ (Yf _ _ _ _ rfl (4*i) (2) rfl rfl (by omega)) ?_;simp only[pv];refine ZK _ (SN _ _ _ rfl gb ob 64 cb rfl (4*i+2) rfl (by omega) _ underlying81 sizeOf5 _ rfl) ?_;simp only[pv];refine Un 5 _ rfl gb (ob+(4*i+2)) rfl rB (by simp<;>omega) (.int .u8 (b (4*i+2):Nat)) (hcs _ (by omega)) isAgg5 ?_;simp only[pv];refine ZK (.int .i64 (b (4*i+2):Nat)) (Wd _ _ _ rfl .u8 .i64 underlying5 underlying3 ((b (4*i+2):Nat):Int) _ rfl (wrap_i64 _ (by have:=(hb (4*i+2));omega))) ?_;simp only[pv];refine ZK _ (NC _ _ _ _ rfl (b (4*i+2)) (8) .u64 rfl rfl (by omega) (by have:=(hb (4*i+2));omega)) ?_;simp only[pv];refine ZK _ (Fp _ _ _ _ rfl (((b (4*i))*2^24)|||((b (4*i+1))*2^16)) ((b (4*i+2))*2^8) rfl rfl (Wn (JV (by have:=(hb (4*i));omega) (by have:=(hb (4*i+1));omega))) (Wn (by have:=(hb (4*i+2));omega))) ?_;refine m_m ?_;refine m_m ?_;simp only[pv];refine ZK _ (Va _ _ _ _ rfl (4) (i) _ rfl rfl rfl (by omega)) ?_;simp only[pv];refine ZK _ (Yf _ _ _ _ rfl (4*i) (3) rfl rfl (by omega)) ?_;simp only[pv];refine ZK _ (SN _ _ _ rfl gb ob 64 cb rfl (4*i+3) rfl (by omega) _ underlying81 sizeOf5 _ rfl) ?_;simp only[pv];refine Un 5 _ rfl gb (ob+(4*i+3)) rfl rB (by simp<;>omega) (.int .u8 (b (4*i+3):Nat)) (hcs _ (by omega)) isAgg5 ?_;simp only[pv];refine ZK (.int .i64 (b (4*i+3):Nat)) (Wd _ _ _ rfl .u8 .i64 underlying5 underlying3 ((b (4*i+3):Nat):Int) _ rfl (wrap_i64 _ (by have:=(hb (4*i+3));omega))) ?_;simp only[pv];refine ZK _ (Fp _ _ _ _ rfl ((((b (4*i))*2^24)|||((b (4*i+1))*2^16))|||((b (4*i+2))*2^8)) (b (4*i+3)) rfl rfl (Wn (JV (JV (by have:=(hb (4*i));omega) (by have:=(hb (4*i+1));omega)) (by have:=(hb (4*i+2));omega))) (Wn (lt8 (hb (4*i+3))))) ?_;simp only[pv];refine ZK _ (Zj 145 _ _ rfl (g3) rfl (i) 64 rfl (by omega) _ underlying145 sizeOf3) ?_;simp only[pv];refine Y0 0 3 _ _ rfl (i) rfl rfl .i64 (((((((b (4*i))*2^24)|||((b (4*i+1))*2^16))|||((b (4*i+2))*2^8))|||(b (4*i+3)):Nat):Int)) rfl sizeOf3 (by rw[ZB];omega) (rC .i64 64 (Xt (wf b) (i+1))) (Uk _ _ _ _ _ _ (WN _ _ _ hN _)) ?_;simp only[Act.put];refine Zd ?_;intro w5 jj jk jx jy
       have zr3:Row w5 (g3) (rC .i64 64 (Xt (wf b) (i+1))) 145:=jk 0 (145,rC .i64 64 (Xt (wf b) (i+1))) rfl
       replace r2:=jj.ro r2;replace sb:=kk sb jj;clear jj jk jx jy r3
       have r3:=zr3
       clear zr3
       iterate 2 go_step
       apply Za [] [_,_,_] trivial List.nodup_nil
       ·intro p;refine m_m ?_;simp only[pv];refine ZK _ (Yf _ _ _ _ rfl i 1 rfl rfl (by omega)) ?_;refine m_a ?_;simp only[pv];refine Zd ?_;intro w6 jj jk jx jy;replace r2:=jj.ro r2;replace r3:=jj.ro r3;replace sb:=kk sb jj;clear jj jk jx jy
        go_wp2
        go_roundg g
        ·exact⟨i+1,by omega,rfl,r2,r3,sb⟩
        omega
       ·rfl
      ·kernel_rfl
     ·rfl
  ·rfl
 ·rfl
structure BlH (wr w:World)(g2 g4 g5 g6 g7:Nat)(b v x:Nat->Nat):Prop where
 r2:Row wr g2 (rC .i64 8 v) 97
 r4:Row wr g4 (rC .i64 8 fun _=>0) 97
 r5:Row wr g5 (rC .i64 64 (wf b)) 145
 r6:Row wr g6 (rC .i64 64 kf) 145
 r7:Row wr g7 (rC .i64 8 x) 97
 below:Below w.heap.size w wr
theorem Ir (v b:Nat->Nat)(hv: ∀i,v i<4294967296)(hb: ∀i,b i<256)(gb ob cb:Nat)(cs:Array Value)(tb:TypeId)(w:World)(rB:XT w gb cs tb)(hcs: ∀i,i<64->cs[ob+i]?=some (.int .u8 (b i:Nat))):
  Calls Tryz.prog 47 #[.agg (rC .i64 8 v),.slice (some ⟨gb,ob,none⟩) 64 cb] w fun e w'=>e= .returned (.agg (rC .i64 8 (cmp v b)))/\Below w.heap.size w w':=by
 go_enter func47,ntmps47
 iterate 2 go_step
 apply Za [] [_,_] trivial List.nodup_nil
 ·intro p;refine Yh 97 _ rfl _ rfl ?_;simp only[pv];refine Xe 97 rfl _ Se ?_;simp only[pv];refine Zd ?_;intro w2 jj jk jx jy
  have n2:=jx 0 rfl
  have n4:=jx 1 rfl
  have zr2:Row w2 (p 0) (rC .i64 8 v) 97:=jk 1 (97,rC .i64 8 v) rfl
  have zr4:Row w2 (p 1) (rC .i64 8 fun _=>0) 97:=jk 3 (97,rC .i64 8 fun _=>0) rfl
  have d2x4:=jy 0 1 (by omega) rfl rfl
  have sb:=k_b jj
  have b4:w.heap.size<=p 1:=n4
  clear jj jk jx jy n2 n4
  generalize p 0=g2 at*
  generalize p 1=g4 at*
  have r2:=zr2
  clear zr2
  have r4:=zr4
  clear zr4;replace rB:=rB.belowAll sb
  iterate 3 go_step
  apply Zg (by kernel_rfl) [] [_,_,_,_,_,_,_,_,_,_] trivial List.nodup_nil
  ·intro p;refine m_m ?_;simp only[pv];refine m_k 96 func96 #[.slice (some ⟨gb,ob,none⟩) 64 cb] (fun w' hk=>Iq b hb gb ob cb cs tb w' (hk.rowR rB (by simp)) hcs) ?_;simp only[pv];refine m_c 97 func97 #[] (fun w'=>M5 w') ?_;simp only[pv];refine Wz 97 _ rfl _ rfl r2 (by simp<;>omega) 8 _ underlying97 (by rw[ZB];exact XV) ?_;simp only[pv];refine Xe 145 rfl _ Ul ?_;simp only[pv];refine Xe 145 rfl _ Ul ?_;simp only[pv];refine Xe 97 rfl _ Se ?_;simp only[pv];refine YE 9 145 _ _ rfl rfl rfl (rC .i64 64 (wf b)) rfl (by rw[ZB];exact Wj) (by simp only[ZB]) (XR _ _ _) ?_;simp only[Act.put];refine YE 11 145 _ _ rfl rfl rfl (rC .i64 64 kf) rfl (by rw[ZB];exact Wj) (by simp only[ZB]) (XR _ _ _) ?_;simp only[Act.put];refine YE 13 97 _ _ rfl rfl rfl (rC .i64 8 v) rfl (by rw[ZB];exact XV) (by simp only[ZB]) (XR _ _ _) ?_;simp only[Act.put];refine Zd ?_;intro w3 jj jk jx jy
   have n5:=jx 4 rfl
   have n6:=jx 5 rfl
   have n7:=jx 6 rfl
   have zr5:Row w3 (p 4) (rC .i64 64 (wf b)) 145:=jk 9 (145,rC .i64 64 (wf b)) rfl
   have zr6:Row w3 (p 5) (rC .i64 64 kf) 145:=jk 11 (145,rC .i64 64 kf) rfl
   have zr7:Row w3 (p 6) (rC .i64 8 v) 97:=jk 13 (97,rC .i64 8 v) rfl
   have d2x7:=l_l r2.lt n7
   have d4x7:=l_l r4.lt n7
   have d5x7:=jy 4 6 (by omega) rfl rfl
   have d6x7:=jy 5 6 (by omega) rfl rfl
   replace r2:=jj.ro r2;replace r4:=jj.ro r4
   have b7:=Nat.le_trans sb.size n7
   replace sb:=kk sb jj;clear jj jk jx jy n5 n6 n7
   generalize p 4=g5 at*
   generalize p 5=g6 at*
   generalize p 6=g7 at*
   have r5:=zr5
   clear zr5
   have r6:=zr6
   clear zr6
   have r7:=zr7
   clear zr7
   have H0:BlH w3 w g2 g4 g5 g6 g7 b v (rnd (wf b) v 0):=⟨r2,r4,r5,r6,r7,sb⟩
   have HX:Hid (g2≠g7/\g4≠g7/\g5≠g7/\g6≠g7/\g2≠g4/\w.heap.size<=g4/\w.heap.size<=g7):=⟨by omega,by omega,by omega,by omega,by omega,b4,b7⟩
   clear r2 r4 r5 r6 r7 sb b4 b7 d2x4 d2x7 d4x7 d5x7 d6x7 rB hcs
   go_wp2_with fail
   go_loopg [8] 64 (fun g s8 wr=> ∃t:Nat,t+g=64/\s8= .int .i64 t/\BlH wr w g2 g4 g5 g6 g7 b v (rnd (wf b) v t))
   case atStart=>exact⟨0,by omega,rfl,H0⟩
   case round=>
    obtain⟨t,ht,rfl,r2,r4,r5,r6,r7,sb⟩:=hrel
    obtain⟨x1,x2,x3,x4,x5,x6,x7⟩:=HX.out
    have hV: ∀i,rnd (wf b) v t i<4294967296:=JX hv t
    clear H0
    cases gk with
    |zero=>
     obtain rfl:t=64:=by omega
     clear ht
     have HC:Hid (∀i,cmp v b i=(v i+rnd (wf b) v 64 i)%4294967296):=fun _=>rfl
     generalize rnd (wf b) v 64=V at*
     iterate 2 go_step
     apply Za [] [_,_] trivial List.nodup_nil
     ·intro p;refine m_m ?_;simp only[pv];refine ZK _ (Uo _ _ _ _ rfl 64 64 rfl rfl false rfl) ?_;simp only[pv];refine Zd ?_;intro w4 jj jk jx jy;replace r2:=jj.ro r2;replace r4:=jj.ro r4;replace r5:=jj.ro r5;replace r6:=jj.ro r6;replace r7:=jj.ro r7;replace sb:=kk sb jj;clear jj jk jx jy
      iterate 7 go_step
      apply Za [] [_,_,_] trivial List.nodup_nil
      ·intro p;refine ZK _ (Xs _ [] rfl _ rfl _ Fu) ?_;simp only[pv];refine Xe 97 rfl _ Se ?_;simp only[pv];refine YE 3 97 _ _ rfl rfl rfl (rC .i64 8 fun _=>0) rfl (by rw[ZB];exact XV) (by simp only[ZB]) (XR _ _ _) ?_;simp only[Act.put];refine Zd ?_;intro w5 jj jk jx jy
       have n14:=jx 1 rfl
       have zr14:Row w5 (p 1) (rC .i64 8 fun _=>0) 97:=jk 3 (97,rC .i64 8 fun _=>0) rfl
       have d2x14:=l_l r2.lt n14
       have d4x14:=l_l r4.lt n14
       have d5x14:=l_l r5.lt n14
       have d6x14:=l_l r6.lt n14
       have d7x14:=l_l r7.lt n14
       replace r2:=jj.ro r2;replace r4:=jj.ro r4;replace r5:=jj.ro r5;replace r6:=jj.ro r6;replace r7:=jj.ro r7
       have b14:=Nat.le_trans sb.size n14
       replace sb:=kk sb jj;clear jj jk jx jy n14
       generalize p 1=g14 at*
       have r14:=zr14
       clear zr14
       have H1:BlH w5 w g2 g4 g5 g6 g7 b v V:=⟨r2,r4,r5,r6,r7,sb⟩
       have H2:Row w5 g14 (rC .i64 8 (Xt (cmp v b) 0)) 97:=by rw[Um];exact r14
       have HY:Hid (g2≠g14/\g4≠g14/\g5≠g14/\g6≠g14/\g7≠g14/\w.heap.size<=g14):=⟨by omega,by omega,by omega,by omega,by omega,b14⟩
       clear r2 r4 r5 r6 r7 r14 sb b14 d2x14 d4x14 d5x14 d6x14 d7x14 x1 x2 x3 x4 x5 x6 x7
       go_wp2_with fail
       go_loopg [15] 8 (fun g s15 wr=> ∃i:Nat,i+g=8/\s15= .int .i64 i/\BlH wr w g2 g4 g5 g6 g7 b v V/\Row wr g14 (rC .i64 8 (Xt (cmp v b) i)) 97)
       case atStart=>exact⟨0,by omega,rfl,H1,H2⟩
       case round=>
        obtain⟨i,hi,rfl,⟨r2,r4,r5,r6,r7,sb⟩,r14⟩:=hrel
        obtain⟨x1,x2,x3,x4,x5,x6,x7⟩:=HX.out
        obtain⟨y1,y2,y3,y4,y5,y6⟩:=HY.out
        clear H1 H2
        cases gk with
        |zero=>
         obtain rfl:i=8:=by omega
         clear hi
         iterate 2 go_step
         apply Za [] [_,_] trivial List.nodup_nil
         ·intro p;refine m_m ?_;simp only[pv];refine ZK _ (Uo _ _ _ _ rfl 8 8 rfl rfl false rfl) ?_;simp only[pv];refine Zd ?_;intro w6 jj jk jx jy;replace r4:=jj.ro r4;replace r14:=jj.ro r14;replace sb:=kk sb jj;clear jj jk jx jy
          iterate 7 go_step
          apply Za [(g4,97,rC .i64 8 fun _=>0)] [_,_] ⟨r4,trivial⟩ (by simp<;>omega)
          ·intro p;refine Wz 97 _ rfl _ rfl r14 (by simp<;>omega) 8 _ underlying97 (by rw[ZB];exact XV) ?_;simp only[pv];refine YE 0 97 _ _ rfl rfl rfl (rC .i64 8 (Xt (cmp v b) 8)) rfl (by rw[ZB];exact XV) (by simp only[ZB]) (XR _ _ _) ?_;simp only[Act.put];refine Zd ?_;intro w7 jj jk jx jy
           have zr4:Row w7 (g4) (rC .i64 8 (Xt (cmp v b) 8)) 97:=jk 0 (97,rC .i64 8 (Xt (cmp v b) 8)) rfl
           replace sb:=kk sb jj;clear jj jk jx jy r4
           have r4:=zr4
           clear zr4
           go_wp2
           exact ZH rfl _ rfl r4 8 _ underlying97 (by rw[ZB];exact XV) rfl ⟨by rw[U0 .i64 8 fun i hi=>XI (cmp v b) 8 i hi],sb⟩
          ·rfl
         ·rfl
        |succ g=>
         have hvi:=hv i
         have hVi:=hV i
         iterate 2 go_step
         apply Za [] [_,_] trivial List.nodup_nil
         ·intro p;refine m_m ?_;simp only[pv];refine ZK _ (Uo _ _ _ _ rfl i 8 rfl rfl true (decide_eq_true (by omega))) ?_;simp only[pv];refine Zd ?_;intro w6 jj jk jx jy;replace r2:=jj.ro r2;replace r4:=jj.ro r4;replace r5:=jj.ro r5;replace r6:=jj.ro r6;replace r7:=jj.ro r7;replace r14:=jj.ro r14;replace sb:=kk sb jj;clear jj jk jx jy
          iterate 8 go_step
          apply Zg (by kernel_rfl) [(g14,97,rC .i64 8 (Xt (cmp v b) i))] [_,_,_,_,_,_,_,_,_,_,_] ⟨r14,trivial⟩ (by simp<;>omega)
          ·intro p;refine m_m ?_;refine m_m ?_;simp only[pv];refine ZK _ (Zj 97 _ _ rfl (g2) rfl (i) 8 rfl (by omega) _ underlying97 sizeOf3) ?_;simp only[pv];refine ZW 3 _ rfl _ (i) rfl r2 (by simp<;>omega) (.int .i64 (v i:Nat)) (ZO _ _ _ _ (by omega)) isAgg3 ?_;refine m_m ?_;simp only[pv];refine ZK _ (Zj 97 _ _ rfl (g7) rfl (i) 8 rfl (by omega) _ underlying97 sizeOf3) ?_;simp only[pv];refine ZW 3 _ rfl _ (i) rfl r7 (by simp<;>omega) (.int .i64 (V i:Nat)) (ZO _ _ _ _ (by omega)) isAgg3 ?_;simp only[pv];refine ZK _ (Yf _ _ _ _ rfl (v i) (V i) rfl rfl (by omega)) ?_;simp only[pv];refine ZK _ (WQ _ _ _ _ rfl (v i+V i) 4294967295 _ rfl rfl (by omega) (by decide) (RU _)) ?_;simp only[pv];refine ZK _ (Zj 97 _ _ rfl (g14) rfl (i) 8 rfl (by omega) _ underlying97 sizeOf3) ?_;simp only[pv];refine Y0 0 3 _ _ rfl (i) rfl rfl .i64 ((((v i+V i)%4294967296:Nat):Int)) rfl sizeOf3 (by rw[ZB];omega) (rC .i64 8 (Xt (cmp v b) (i+1))) (Uk _ _ _ _ _ _ (WN _ _ _ (HC.out i) _)) ?_;simp only[Act.put];refine Zd ?_;intro w7 jj jk jx jy
           have zr14:Row w7 (g14) (rC .i64 8 (Xt (cmp v b) (i+1))) 97:=jk 0 (97,rC .i64 8 (Xt (cmp v b) (i+1))) rfl
           replace r2:=jj.ro r2;replace r4:=jj.ro r4;replace r5:=jj.ro r5;replace r6:=jj.ro r6;replace r7:=jj.ro r7;replace sb:=kk sb jj;clear jj jk jx jy r14
           have r14:=zr14
           clear zr14
           iterate 2 go_step
           apply Za [] [_,_,_] trivial List.nodup_nil
           ·intro p;refine m_m ?_;simp only[pv];refine ZK _ (Yf _ _ _ _ rfl i 1 rfl rfl (by omega)) ?_;refine m_a ?_;simp only[pv];refine Zd ?_;intro w8 jj jk jx jy;replace r2:=jj.ro r2;replace r4:=jj.ro r4;replace r5:=jj.ro r5;replace r6:=jj.ro r6;replace r7:=jj.ro r7;replace r14:=jj.ro r14;replace sb:=kk sb jj;clear jj jk jx jy
            go_wp2
            go_roundg g
            ·exact⟨i+1,by omega,rfl,⟨r2,r4,r5,r6,r7,sb⟩,r14⟩
            omega
           ·rfl
          ·kernel_rfl
         ·rfl
      ·rfl
     ·rfl
    |succ g=>
     have HC:Hid (rnd (wf b) v (t+1)=stp (rnd (wf b) v t) (kf t) (wf b t)):=rfl
     generalize rnd (wf b) v t=V at*
     iterate 2 go_step
     apply Za [] [_,_] trivial List.nodup_nil
     ·intro p;refine m_m ?_;simp only[pv];refine ZK _ (Uo _ _ _ _ rfl t 64 rfl rfl true (decide_eq_true (by omega))) ?_;simp only[pv];refine Zd ?_;intro w4 jj jk jx jy;replace r2:=jj.ro r2;replace r4:=jj.ro r4;replace r5:=jj.ro r5;replace r6:=jj.ro r6;replace r7:=jj.ro r7;replace sb:=kk sb jj;clear jj jk jx jy
      iterate 9 go_step
      refine Zv (by kernel_rfl) (by kernel_rfl) ?_;refine q_v _ (Zj 97 _ _ rfl (g7) rfl (4) 8 rfl (by omega) _ underlying97 sizeOf3) ?_;simp only[pv];refine Zy (by rfl) 3 _ rfl _ (4) rfl r7 (.int .i64 (V 4:Nat)) (ZO _ _ _ _ (by omega)) isAgg3 ?_;simp only[pv];refine q_c 98 func98 #[.int .i64 (V 4:Nat),.int .i64 6] (fun w'=>Xh (V 4) 6 w' (hV _) (by decide) (by decide)) ?_;simp only[pv];refine q_v _ (Zj 97 _ _ rfl (g7) rfl (4) 8 rfl (by omega) _ underlying97 sizeOf3) ?_;simp only[pv];refine Zy (by rfl) 3 _ rfl _ (4) rfl r7 (.int .i64 (V 4:Nat)) (ZO _ _ _ _ (by omega)) isAgg3 ?_;simp only[pv];refine q_c 98 func98 #[.int .i64 (V 4:Nat),.int .i64 11] (fun w'=>Xh (V 4) 11 w' (hV _) (by decide) (by decide)) ?_;simp only[pv];refine q_v _ (WP _ _ _ _ rfl (rr (V 4) 6) (rr (V 4) 11) rfl rfl (Wn (Yu 6 (hV _))) (Wn (Yu 11 (hV _)))) ?_;simp only[pv];refine q_v _ (Zj 97 _ _ rfl (g7) rfl (4) 8 rfl (by omega) _ underlying97 sizeOf3) ?_;simp only[pv];refine Zy (by rfl) 3 _ rfl _ (4) rfl r7 (.int .i64 (V 4:Nat)) (ZO _ _ _ _ (by omega)) isAgg3 ?_;simp only[pv];refine q_c 98 func98 #[.int .i64 (V 4:Nat),.int .i64 25] (fun w'=>Xh (V 4) 25 w' (hV _) (by decide) (by decide)) ?_;simp only[pv];refine q_v _ (WP _ _ _ _ rfl ((rr (V 4) 6)^^^(rr (V 4) 11)) (rr (V 4) 25) rfl rfl (Wn (Wb (Yu 6 (hV _)) (Yu 11 (hV _)))) (Wn (Yu 25 (hV _)))) ?_;refine q_a ?_;simp only[pv];refine R5 ?_;intro w5 jz;replace r2:=r2.belowAll jz;replace r4:=r4.belowAll jz;replace r5:=r5.belowAll jz;replace r6:=r6.belowAll jz;replace r7:=r7.belowAll jz;replace sb:=b_o sb jz;clear jz
      iterate 3 go_step
      refine Zq ?_;refine q_v _ (Zj 97 _ _ rfl (g7) rfl (4) 8 rfl (by omega) _ underlying97 sizeOf3) ?_;simp only[pv];refine Zy (by rfl) 3 _ rfl _ (4) rfl r7 (.int .i64 (V 4:Nat)) (ZO _ _ _ _ (by omega)) isAgg3 ?_;simp only[pv];refine q_v _ (Zj 97 _ _ rfl (g7) rfl (5) 8 rfl (by omega) _ underlying97 sizeOf3) ?_;simp only[pv];refine Zy (by rfl) 3 _ rfl _ (5) rfl r7 (.int .i64 (V 5:Nat)) (ZO _ _ _ _ (by omega)) isAgg3 ?_;simp only[pv];refine q_v _ (WQ _ _ _ _ rfl (V 4) (V 5) _ rfl rfl (Wn (hV 4)) (Wn (hV 5)) rfl) ?_;simp only[pv];refine q_v _ (Zj 97 _ _ rfl (g7) rfl (4) 8 rfl (by omega) _ underlying97 sizeOf3) ?_;simp only[pv];refine Zy (by rfl) 3 _ rfl _ (4) rfl r7 (.int .i64 (V 4:Nat)) (ZO _ _ _ _ (by omega)) isAgg3 ?_;simp only[pv];refine q_v _ (WP _ _ _ _ rfl (4294967295) (V 4) rfl rfl (Wn (by decide)) (Wn (hV 4))) ?_;simp only[pv];refine q_v _ (Zj 97 _ _ rfl (g7) rfl (6) 8 rfl (by omega) _ underlying97 sizeOf3) ?_;simp only[pv];refine Zy (by rfl) 3 _ rfl _ (6) rfl r7 (.int .i64 (V 6:Nat)) (ZO _ _ _ _ (by omega)) isAgg3 ?_;simp only[pv];refine q_v _ (WQ _ _ _ _ rfl ((4294967295)^^^(V 4)) (V 6) _ rfl rfl (Wn (Wb (by decide) (hV 4))) (Wn (hV 6)) rfl) ?_;simp only[pv];refine q_v _ (WP _ _ _ _ rfl ((V 4)&&&(V 5)) (((4294967295)^^^(V 4))&&&(V 6)) rfl rfl (Wn (WM (hV 4))) (Wn (WM (Wb (by decide) (hV 4))))) ?_;refine q_a ?_;simp only[pv];refine R5 ?_;intro w6 jz;replace r2:=r2.belowAll jz;replace r4:=r4.belowAll jz;replace r5:=r5.belowAll jz;replace r6:=r6.belowAll jz;replace r7:=r7.belowAll jz;replace sb:=b_o sb jz;clear jz
      have HS:stp V (kf t) (wf b t) 0=(V 7+bs1 (V 4)+chf (V 4) (V 5) (V 6)+kf t+wf b t+bs0 (V 0)+mjf (V 0) (V 1) (V 2))%4294967296:=by
       show(t1f V (kf t) (wf b t)+t2f V)%4294967296=_
       unfold t1f t2f
       rw[Nat.add_assoc _ (bs0 (V 0))]
      have HE:stp V (kf t) (wf b t) 4=(V 3+(V 7+bs1 (V 4)+chf (V 4) (V 5) (V 6)+kf t+wf b t))%4294967296:=rfl
      have z1:bs1 (V 4)<4294967296:=ze (hV 4)
      have z2:chf (V 4) (V 5) (V 6)<4294967296:=zf (hV 4)
      have z3:=xc t
      have z4:=Wm hb t
      have z5:bs0 (V 0)<4294967296:=zd (hV 0)
      have z6:mjf (V 0) (V 1) (V 2)<4294967296:=zg (hV 0) (hV 1)
      have z7:=hV 7
      have z8:=hV 3
      rw[show((rr (V 4) 6)^^^(rr (V 4) 11))^^^(rr (V 4) 25)=bs1 (V 4)from rfl,show((V 4)&&&(V 5))^^^(((4294967295)^^^(V 4))&&&(V 6))=chf (V 4) (V 5) (V 6)from rfl]
      generalize bs1 (V 4)=y1 at*
      generalize chf (V 4) (V 5) (V 6)=y2 at*
      iterate 3 go_step
      refine Zv (by kernel_rfl) (by kernel_rfl) ?_;refine q_v _ (Zj 97 _ _ rfl (g7) rfl (7) 8 rfl (by omega) _ underlying97 sizeOf3) ?_;simp only[pv];refine Zy (by rfl) 3 _ rfl _ (7) rfl r7 (.int .i64 (V 7:Nat)) (ZO _ _ _ _ (by omega)) isAgg3 ?_;refine q_m ?_;simp only[pv];refine q_v _ (Yf _ _ _ _ rfl (V 7) (y1) rfl rfl (by omega)) ?_;refine q_m ?_;simp only[pv];refine q_v _ (Yf _ _ _ _ rfl (V 7+y1) (y2) rfl rfl (by omega)) ?_;refine q_m ?_;simp only[pv];refine q_v _ (Zj 145 _ _ rfl (g6) rfl (t) 64 rfl (by omega) _ underlying145 sizeOf3) ?_;simp only[pv];refine Zy (by rfl) 3 _ rfl _ (t) rfl r6 (.int .i64 (kf t:Nat)) (ZO _ _ _ _ (by omega)) isAgg3 ?_;simp only[pv];refine q_v _ (Yf _ _ _ _ rfl (V 7+y1+y2) (kf t) rfl rfl (by omega)) ?_;refine q_m ?_;simp only[pv];refine q_v _ (Zj 145 _ _ rfl (g5) rfl (t) 64 rfl (by omega) _ underlying145 sizeOf3) ?_;simp only[pv];refine Zy (by rfl) 3 _ rfl _ (t) rfl r5 (.int .i64 (wf b t:Nat)) (ZO _ _ _ _ (by omega)) isAgg3 ?_;simp only[pv];refine q_v _ (Yf _ _ _ _ rfl (V 7+y1+y2+kf t) (wf b t) rfl rfl (by omega)) ?_;refine q_a ?_;simp only[pv];refine R5 ?_;intro w7 jz;replace r2:=r2.belowAll jz;replace r4:=r4.belowAll jz;replace r5:=r5.belowAll jz;replace r6:=r6.belowAll jz;replace r7:=r7.belowAll jz;replace sb:=b_o sb jz;clear jz
      iterate 3 go_step
      refine Zv (by kernel_rfl) (by kernel_rfl) ?_;refine q_v _ (Zj 97 _ _ rfl (g7) rfl (0) 8 rfl (by omega) _ underlying97 sizeOf3) ?_;simp only[pv];refine Zy (by rfl) 3 _ rfl _ (0) rfl r7 (.int .i64 (V 0:Nat)) (ZO _ _ _ _ (by omega)) isAgg3 ?_;simp only[pv];refine q_c 98 func98 #[.int .i64 (V 0:Nat),.int .i64 2] (fun w'=>Xh (V 0) 2 w' (hV _) (by decide) (by decide)) ?_;simp only[pv];refine q_v _ (Zj 97 _ _ rfl (g7) rfl (0) 8 rfl (by omega) _ underlying97 sizeOf3) ?_;simp only[pv];refine Zy (by rfl) 3 _ rfl _ (0) rfl r7 (.int .i64 (V 0:Nat)) (ZO _ _ _ _ (by omega)) isAgg3 ?_;simp only[pv];refine q_c 98 func98 #[.int .i64 (V 0:Nat),.int .i64 13] (fun w'=>Xh (V 0) 13 w' (hV _) (by decide) (by decide)) ?_;simp only[pv];refine q_v _ (WP _ _ _ _ rfl (rr (V 0) 2) (rr (V 0) 13) rfl rfl (Wn (Yu 2 (hV _))) (Wn (Yu 13 (hV _)))) ?_;simp only[pv];refine q_v _ (Zj 97 _ _ rfl (g7) rfl (0) 8 rfl (by omega) _ underlying97 sizeOf3) ?_;simp only[pv];refine Zy (by rfl) 3 _ rfl _ (0) rfl r7 (.int .i64 (V 0:Nat)) (ZO _ _ _ _ (by omega)) isAgg3 ?_;simp only[pv];refine q_c 98 func98 #[.int .i64 (V 0:Nat),.int .i64 22] (fun w'=>Xh (V 0) 22 w' (hV _) (by decide) (by decide)) ?_;simp only[pv];refine q_v _ (WP _ _ _ _ rfl ((rr (V 0) 2)^^^(rr (V 0) 13)) (rr (V 0) 22) rfl rfl (Wn (Wb (Yu 2 (hV _)) (Yu 13 (hV _)))) (Wn (Yu 22 (hV _)))) ?_;refine q_a ?_;simp only[pv];refine R5 ?_;intro w8 jz;replace r2:=r2.belowAll jz;replace r4:=r4.belowAll jz;replace r5:=r5.belowAll jz;replace r6:=r6.belowAll jz;replace r7:=r7.belowAll jz;replace sb:=b_o sb jz;clear jz
      iterate 3 go_step
      refine Zq ?_;refine q_v _ (Zj 97 _ _ rfl (g7) rfl (0) 8 rfl (by omega) _ underlying97 sizeOf3) ?_;simp only[pv];refine Zy (by rfl) 3 _ rfl _ (0) rfl r7 (.int .i64 (V 0:Nat)) (ZO _ _ _ _ (by omega)) isAgg3 ?_;simp only[pv];refine q_v _ (Zj 97 _ _ rfl (g7) rfl (1) 8 rfl (by omega) _ underlying97 sizeOf3) ?_;simp only[pv];refine Zy (by rfl) 3 _ rfl _ (1) rfl r7 (.int .i64 (V 1:Nat)) (ZO _ _ _ _ (by omega)) isAgg3 ?_;simp only[pv];refine q_v _ (WQ _ _ _ _ rfl (V 0) (V 1) _ rfl rfl (Wn (hV 0)) (Wn (hV 1)) rfl) ?_;simp only[pv];refine q_v _ (Zj 97 _ _ rfl (g7) rfl (0) 8 rfl (by omega) _ underlying97 sizeOf3) ?_;simp only[pv];refine Zy (by rfl) 3 _ rfl _ (0) rfl r7 (.int .i64 (V 0:Nat)) (ZO _ _ _ _ (by omega)) isAgg3 ?_;simp only[pv];refine q_v _ (Zj 97 _ _ rfl (g7) rfl (2) 8 rfl (by omega) _ underlying97 sizeOf3) ?_;simp only[pv];refine Zy (by rfl) 3 _ rfl _ (2) rfl r7 (.int .i64 (V 2:Nat)) (ZO _ _ _ _ (by omega)) isAgg3 ?_;simp only[pv];refine q_v _ (WQ _ _ _ _ rfl (V 0) (V 2) _ rfl rfl (Wn (hV 0)) (Wn (hV 2)) rfl) ?_;simp only[pv];refine q_v _ (WP _ _ _ _ rfl ((V 0)&&&(V 1)) ((V 0)&&&(V 2)) rfl rfl (Wn (WM (hV 0))) (Wn (WM (hV 0)))) ?_;simp only[pv];refine q_v _ (Zj 97 _ _ rfl (g7) rfl (1) 8 rfl (by omega) _ underlying97 sizeOf3) ?_;simp only[pv];refine Zy (by rfl) 3 _ rfl _ (1) rfl r7 (.int .i64 (V 1:Nat)) (ZO _ _ _ _ (by omega)) isAgg3 ?_;simp only[pv];refine q_v _ (Zj 97 _ _ rfl (g7) rfl (2) 8 rfl (by omega) _ underlying97 sizeOf3) ?_;simp only[pv];refine Zy (by rfl) 3 _ rfl _ (2) rfl r7 (.int .i64 (V 2:Nat)) (ZO _ _ _ _ (by omega)) isAgg3 ?_;simp only[pv];refine q_v _ (WQ _ _ _ _ rfl (V 1) (V 2) _ rfl rfl (Wn (hV 1)) (Wn (hV 2)) rfl) ?_;simp only[pv];refine q_v _ (WP _ _ _ _ rfl (((V 0)&&&(V 1))^^^((V 0)&&&(V 2))) ((V 1)&&&(V 2)) rfl rfl (Wn (Wb (WM (hV 0)) (WM (hV 0)))) (Wn (WM (hV 1)))) ?_;refine q_a ?_;simp only[pv];refine R5 ?_;intro w9 jz;replace r2:=r2.belowAll jz;replace r4:=r4.belowAll jz;replace r5:=r5.belowAll jz;replace r6:=r6.belowAll jz;replace r7:=r7.belowAll jz;replace sb:=b_o sb jz;clear jz
      rw[show((rr (V 0) 2)^^^(rr (V 0) 13))^^^(rr (V 0) 22)=bs0 (V 0)from rfl,show(((V 0)&&&(V 1))^^^((V 0)&&&(V 2)))^^^((V 1)&&&(V 2))=mjf (V 0) (V 1) (V 2)from rfl]
      generalize bs0 (V 0)=S0 at*
      generalize mjf (V 0) (V 1) (V 2)=MJ at*
      have z9:V 7+y1+y2+kf t+wf b t<34359738368:=by omega
      generalize V 7+y1+y2+kf t+wf b t=T1 at*
      iterate 2 go_step
      apply Za [(g7,97,rC .i64 8 V)] [_,_,_,_,_,_,_,_,_,_,_,_,_,_,_,_,_,_,_,_,_,_,_,_,_] ⟨r7,trivial⟩ (by simp<;>omega)
      ·intro p;refine m_m ?_;refine m_m ?_;simp only[pv];refine ZK _ (Yf _ _ _ _ rfl (T1) (S0) rfl rfl (by omega)) ?_;refine m_m ?_;simp only[pv];refine ZK _ (Yf _ _ _ _ rfl (T1+S0) (MJ) rfl rfl (by omega)) ?_;simp only[pv];refine ZK (.int .i64 (stp V (kf t) (wf b t) 0:Nat)) ((fun w'=>(WQ _ _ _ _ rfl (T1+S0+MJ) 4294967295 _ rfl rfl (by omega) (by decide) (RU _) w').trans (by rw[HS]))) ?_;simp only[pv];refine ZK _ (Zj 97 _ _ rfl (g7) rfl (0) 8 rfl (by omega) _ underlying97 sizeOf3) ?_;simp only[pv];refine Yb 0 3 _ rfl (0) rfl rfl (.int .i64 (V 0:Nat)) (ZO _ _ _ _ (by omega)) isAgg3 ?_;simp only[pv];refine ZK _ (Zj 97 _ _ rfl (g7) rfl (1) 8 rfl (by omega) _ underlying97 sizeOf3) ?_;simp only[pv];refine Yb 0 3 _ rfl (1) rfl rfl (.int .i64 (V 1:Nat)) (ZO _ _ _ _ (by omega)) isAgg3 ?_;simp only[pv];refine ZK _ (Zj 97 _ _ rfl (g7) rfl (2) 8 rfl (by omega) _ underlying97 sizeOf3) ?_;simp only[pv];refine Yb 0 3 _ rfl (2) rfl rfl (.int .i64 (V 2:Nat)) (ZO _ _ _ _ (by omega)) isAgg3 ?_;simp only[pv];refine ZK _ (Zj 97 _ _ rfl (g7) rfl (3) 8 rfl (by omega) _ underlying97 sizeOf3) ?_;simp only[pv];refine Yb 0 3 _ rfl (3) rfl rfl (.int .i64 (V 3:Nat)) (ZO _ _ _ _ (by omega)) isAgg3 ?_;refine m_m ?_;simp only[pv];refine ZK _ (Yf _ _ _ _ rfl (V 3) (T1) rfl rfl (by omega)) ?_;simp only[pv];refine ZK (.int .i64 (stp V (kf t) (wf b t) 4:Nat)) ((fun w'=>(WQ _ _ _ _ rfl (V 3+T1) 4294967295 _ rfl rfl (by omega) (by decide) (RU _) w').trans (by rw[HE]))) ?_;simp only[pv];refine ZK _ (Zj 97 _ _ rfl (g7) rfl (4) 8 rfl (by omega) _ underlying97 sizeOf3) ?_;simp only[pv];refine Yb 0 3 _ rfl (4) rfl rfl (.int .i64 (V 4:Nat)) (ZO _ _ _ _ (by omega)) isAgg3 ?_;simp only[pv];refine ZK _ (Zj 97 _ _ rfl (g7) rfl (5) 8 rfl (by omega) _ underlying97 sizeOf3) ?_;simp only[pv];refine Yb 0 3 _ rfl (5) rfl rfl (.int .i64 (V 5:Nat)) (ZO _ _ _ _ (by omega)) isAgg3 ?_;simp only[pv];refine ZK _ (Zj 97 _ _ rfl (g7) rfl (6) 8 rfl (by omega) _ underlying97 sizeOf3) ?_;simp only[pv];refine Yb 0 3 _ rfl (6) rfl rfl (.int .i64 (V 6:Nat)) (ZO _ _ _ _ (by omega)) isAgg3 ?_;simp only[pv];refine ZK _ (Xs _ [(0,.tmp 94),(1,.tmp 96),(2,.tmp 98),(3,.tmp 100),(4,.tmp 105),(5,.tmp 107),(6,.tmp 109),(7,.tmp 111)] rfl _ rfl _ (NI (stp V (kf t) (wf b t)))) ?_;simp only[pv];refine YE 0 97 _ _ rfl rfl rfl (rC .i64 8 (stp V (kf t) (wf b t))) rfl (by rw[ZB];exact XV) (by simp only[ZB]) (XR _ _ _) ?_;simp only[Act.put];refine Zd ?_;intro w10 jj jk jx jy
       have zr7:Row w10 (g7) (rC .i64 8 (stp V (kf t) (wf b t))) 97:=jk 0 (97,rC .i64 8 (stp V (kf t) (wf b t))) rfl
       replace r2:=jj.ro r2;replace r4:=jj.ro r4;replace r5:=jj.ro r5;replace r6:=jj.ro r6;replace sb:=kk sb jj;clear jj jk jx jy r7
       have r7:=zr7
       clear zr7
       iterate 2 go_step
       apply Za [] [_,_,_] trivial List.nodup_nil
       ·intro p;refine m_m ?_;simp only[pv];refine ZK _ (Yf _ _ _ _ rfl t 1 rfl rfl (by omega)) ?_;refine m_a ?_;simp only[pv];refine Zd ?_;intro w11 jj jk jx jy;replace r2:=jj.ro r2;replace r4:=jj.ro r4;replace r5:=jj.ro r5;replace r6:=jj.ro r6;replace r7:=jj.ro r7;replace sb:=kk sb jj;clear jj jk jx jy
        go_wp2
        go_roundg g
        ·exact⟨t+1,by omega,rfl,r2,r4,r5,r6,by rw[HC.out];exact r7,sb⟩
        omega
       ·rfl
      ·rfl
     ·rfl
  ·kernel_rfl
 ·rfl
section
variable {P:Program}{o:Oper}{ρ:Operand->Value}{ops:Array Oper}{Q:Exit->Act->World->Prop}{rest:List Oper}{a:Act}{w:World}
theorem FV (t e:TypeId)(x lo hi:Operand)(hu:P.underlying t=some (.slice e))(hz: ∀w,(sizeOf e).run P w= .ok 1 w)(ho:o.op= .slice t x (some lo) (some hi) none)(g off n cap l h:Nat)(hx:ρ x= .slice (some ⟨g,off,none⟩) n cap)(hl:ρ lo= .int .i64 l)(hh:ρ hi= .int .i64 h)
  (h1:l<=h)(h2:h<=cap)(h3:l<cap)(w:World):(execOp ρ o).run P w= .ok (.value (.slice (some ⟨g,off+l,none⟩) (h-l) (cap-l))) w:=by
 have hE:P.elem t=e:=by simp[Program.elem,hu]
 have hu':P.underlying t=some (.slice (P.elem t)):=by rw[hE];exact hu
 have hr:(Instr.sliceAt t (.slice (some ⟨g,off,none⟩) n cap) (some (.int .i64 l)) (some (.int .i64 h)) none).run P w= .ok (.slice (some ⟨g,off+l,none⟩) (h-l) (cap-l)) w:=by
  rw[run_sliceAt_slice w t _ _ _ _ hu',run_slice_lh (P:=P) w t (some ⟨g,off,none⟩) n cap hu' .i64 .i64 l h (by omega) (by omega) (by omega),hE,hz]
  unfold sliced
  simp only[Int.toNat_natCast,Result.andThen_ok,Option.map_some]
  rw[if_neg (by omega),Nat.mul_one,Addr.add_mid]
 unfold execOp
 simp only[ho,hx,hl,hh,Option.map_some,Option.map_none,Sem.run_bind,hr,Result.andThen_ok]
 rfl
theorem FW (hw:Region.wanted o (yielded ops a.tmps)=true)(ty:TypeId)(x:Operand)(ho:o.op= .load ty x)(g i:Nat)(hx:a.eval x= .pointer (some ⟨g,i,none⟩)){t:TypeId}{cs:Array Value}(hg:XT w g cs t)(v:Value)(hc:cs[i]?=some v)
  (ha: ∀w,(isAgg ty).run P w= .ok false w)(h:PW P ops Q rest (a.put o.dst v) w):PW P ops Q (o::rest) a w:=by
 refine XQ hw v w ?_ h
 unfold execOp
 simp only[ho,hx,Instr.loadAt,Instr.sureAddr,Sem.run_bind,Sem.run_pure,Result.andThen_ok,Ym w g i ty v ha ((hg.cell i).trans hc)]
end
theorem OB.ne_row {w:World}{base:Nat}{v:Value}{l:List UInt8}(h:OB w base v l){b:Nat}{cs:Array Value}{t:TypeId}(r:Row w b cs t)(ht:t≠5):v.ownBlock≠some b:=by
 rcases h with ⟨rfl,_⟩|⟨g,cap,cur,fr,rfl,hb,hg,_⟩
 ·simp[Value.ownBlock]
 ·intro e
  simp only[Value.ownBlock,Option.some.injEq]at e
  subst e
  rw[r]at hg
  simp only[Option.some.injEq,Obj.cells.injEq]at hg
  exact ht hg.2.1
theorem Row.grown {w w':World}{row:Option Nat}{b:Nat}{cs:Array Value}{t:TypeId}(r:Row w b cs t)(hg:w.grownBy w' row)(hne:row≠some b):Row w' b cs t:=(hg.block b r.lt fun e=>hne e.symm).trans r
structure RsH (wr w:World)(g4:Nat)(V:Nat->Nat)(v:Value)(n:Nat):Prop where
 own:OB wr w.heap.size v ((Sb V).take n)
 r:Row wr g4 (rC .i64 8 V) 97
 below:Below w.heap.size w wr
theorem FX (V:Nat->Nat)(k j:Nat)(hk:k<8)(hj:j<4):(Sb V).take (k*4+j)++[UInt8.ofNat (V k/2^(8*(3-j))%256)]=(Sb V).take (k*4+(j+1)):=by
 rw[show k*4+(j+1)=k*4+j+1 by omega,List.take_succ_eq_append_getElem (by rw[Xo];omega)]
 congr 1
 simp[Sb]
 rw[show(k*4+j)/4=k by omega,Nat.mod_eq_of_lt hj]
theorem FY (l:List UInt8)(w:World)(hl:l.length<4294967296):
  Calls Tryz.prog 15 #[.string ⟨l.toArray⟩] w fun e w'=>e= .returned (.string ⟨(sha l).toArray⟩)/\Below w.heap.size w w':=by
 have hz64:zs l.length<64:=by unfold zs;omega
 have hlen:(l++tl l.length).length=l.length+(9+zs l.length):=by rw[List.length_append,Uj]
 have hfull:(l++tl l.length).length%64=0:=by rw[List.length_append];exact Fo _
 go_enter func15,ntmps15
 go_wp2_with fail
 refine(FU l _ (by omega)).mono ?_
 rintro _ w2 ⟨v,rfl,own,sb⟩
 have HV:Hid (sha l=Sb (ab (bf (l++tl l.length)) ((l++tl l.length).length/64))):=rfl
 generalize l++tl l.length=L at*
 rcases own with ⟨_,rfl⟩|⟨gb,cap,cur,fr,rfl,hgb,hrow,hnc,hcm,hcs,hcell,_⟩
 ·simp at hlen;omega
 have rB:XT w2 gb cur 5:=⟨fr,hrow⟩
 clear hrow
 dsimp only
 iterate 8 go_step
 apply Za [] [_,_,_] trivial List.nodup_nil
 ·intro p;refine m_c 46 func46 #[] (fun w'=>M4 w') ?_;simp only[pv];refine Xe 97 rfl _ Se ?_;simp only[pv];refine YE 3 97 _ _ rfl rfl rfl (rC .i64 8 ivf) rfl (by rw[ZB];exact XV) (by simp only[ZB]) (XR _ _ _) ?_;simp only[Act.put];refine Zd ?_;intro w3 jj jk jx jy
  have n4:=jx 1 rfl
  have r4:Row w3 (p 1) (rC .i64 8 ivf) 97:=jk 3 (97,rC .i64 8 ivf) rfl
  have lB:=rB.lt
  replace rB:=jj.rowR rB (by simp)
  have b4:=Nat.le_trans sb.size n4
  have d4:gb≠p 1:=by omega
  replace sb:=sb.trans (jj.below w.heap.size sb.size (by simp))
  clear jj jk jx jy n4 lB
  generalize p 1=g4 at*
  generalize hm:L.length/64=m at*
  have HB:Hid (L.length=64*m/\L.length<=cap/\m<4294967296/\w.heap.size<=g4/\gb≠g4/\(∀j,j<L.length->cur[j]?=some (.int .u8 (bf L j:Nat)))):=⟨by omega,hnc,by omega,b4,d4,hcell⟩
  have H0:Row w3 g4 (rC .i64 8 (ab (bf L) 0)) 97:=r4
  have H1:XT w3 gb cur 5:=rB
  have H2:=sb
  clear r4 rB sb hnc hcm hcs hcell b4 d4 hm hlen hfull hgb hz64 hl
  go_wp2_with fail
  go_loopg [5] m (fun g s5 wr=> ∃k:Nat,k+g=m/\s5= .int .i64 (64*k:Nat)/\Row wr g4 (rC .i64 8 (ab (bf L) k)) 97/\XT wr gb cur 5/\Below w.heap.size w wr)
  case atStart=>exact⟨0,by omega,rfl,H0,H1,H2⟩
  case round=>
   obtain⟨k,hk,rfl,r4,rB,sb⟩:=hrel
   obtain⟨z1,z2,z3,z4,z5,z6⟩:=HB.out
   clear H0 H1 H2
   cases gk with
   |zero=>
    obtain rfl:k=m:=by omega
    clear hk
    have HV2:Hid (∀i,ab (bf L) k i<4294967296):=Be _ _
    iterate 2 go_step
    apply Za [] [_,_,_,_] trivial List.nodup_nil
    ·intro p;refine m_m ?_;refine m_m ?_;simp only[pv];refine ZK (.int .i64 (64*k:Nat)) (fun w'=>(ND _ _ rfl _ _ _ rfl underlying81 w').trans (by rw[z1])) ?_;simp only[pv];refine ZK _ (Uo _ _ _ _ rfl (64*k:Nat) (64*k:Nat) rfl rfl false (decide_eq_false (by omega))) ?_;simp only[pv];refine Zd ?_;intro w5 jj jk jx jy;replace r4:=jj.ro r4;replace sb:=kk sb jj;clear jj jk jx jy
     generalize ab (bf L) k=V at*
     have H0:RsH w5 w g4 V (.slice none 0 0) (0*4):=⟨zQ _ _,r4,sb⟩
     clear r4 sb rB z1 z2 z3 z5 z6
     go_wp2_with fail
     go_loopg [6,7,8] 8 (fun g s6 s7 s8 wr=> ∃k:Nat,k+g=8/\s7= .int .i64 k/\RsH wr w g4 V s6 (k*4))
     case atStart=>exact⟨0,by omega,rfl,H0⟩
     case round=>
      obtain⟨k,hk,rfl,own,r4,sb⟩:=hrel
      clear H0
      cases gk with
      |zero=>
       obtain rfl:k=8:=by omega
       clear hk
       rw[List.take_of_length_le (by rw[Xo];omega)]at own
       iterate 2 go_step
       refine Zq ?_;refine q_m ?_;simp only[pv];refine q_v _ (Uo _ _ _ _ rfl 8 8 rfl rfl false rfl) ?_;simp only[pv];refine R5 ?_;intro w7 jz;replace own:=own.belowAll jz;replace sb:=b_o sb jz;clear jz
       rcases own with ⟨_,h0⟩|⟨gd,capd,curd,frd,rfl,hgd,hrow,hncd,hcmd,hcsd,hcelld,_⟩
       ·have:=Xo V
        rw[h0]at this
        simp at this
       have rD:XT w7 gd curd 5:=⟨frd,hrow⟩
       iterate 7 go_step
       apply Za [] [_,_,_] trivial List.nodup_nil
       ·intro p;refine m_m ?_;simp only[pv];refine Y8 (.string ⟨(Sb V).toArray⟩) [] (fun w' jj _=>Bx _ rfl gd 0 capd (Sb V).length (Sb V) rfl rfl w' (jj.rowR rD (by simp)) (fun j hj=>by rw[Nat.zero_add];exact hcelld j hj)) ?_;refine m_a ?_;simp only[pv];refine Zd ?_;intro w8 jj jk jx jy;replace sb:=kk sb jj;clear jj jk jx jy
        go_wp2
        go_ret
        exact⟨by rw[HV.out];rfl,sb⟩
       ·rfl
      |succ g=>
       have hk8:k<8:=by omega
       have hVk:=HV2.out k
       iterate 2 go_step
       refine Zq ?_;refine q_m ?_;simp only[pv];refine q_v _ (Uo _ _ _ _ rfl k 8 rfl rfl true (decide_eq_true (by omega))) ?_;simp only[pv];refine R5 ?_;intro w7 jz;replace own:=own.belowAll jz;replace r4:=r4.belowAll jz;replace sb:=b_o sb jz;clear jz
       have H1:RsH w7 w g4 V u6 (k*4+0):=⟨own,r4,sb⟩
       clear own r4 sb
       go_wp2_with fail
       go_loopg [6,8] 4 (fun m s6 s8 wq=> ∃j:Nat,j+m=4/\s8= .int .i64 (3-(j:Int))/\RsH wq w g4 V s6 (k*4+j))
       case atStart=>exact⟨0,by omega,rfl,H1⟩
       case round=>
        obtain⟨j,hj,rfl,own,r4,sb⟩:=hrel
        clear H1
        cases gk with
        |zero=>
         obtain rfl:j=4:=by omega
         clear hj
         iterate 2 go_step
         refine Zq ?_;refine q_m ?_;simp only[pv];refine q_v _ (yc _ _ _ _ rfl (3-(4:Nat)) 0 rfl rfl false rfl) ?_;simp only[pv];refine R5 ?_;intro w10 jz;replace own:=own.belowAll jz;replace r4:=r4.belowAll jz;replace sb:=b_o sb jz;clear jz
         iterate 6 go_step
         refine Zq ?_;refine q_m ?_;simp only[pv];refine q_v _ (Yf _ _ _ _ rfl k 1 rfl rfl (by omega)) ?_;refine q_a ?_;simp only[pv];refine R5 ?_;intro w11 jz;replace own:=own.belowAll jz;replace r4:=r4.belowAll jz;replace sb:=b_o sb jz;clear jz
         go_wp2
         go_roundg g
         ·exact⟨k+1,by omega,rfl,by rw[show(k+1)*4=k*4+4 by omega];exact own,r4,sb⟩
         omega
        |succ m=>
         have e3:(3:Int)-(j:Int)=((3-j:Nat):Int):=by omega
         rw[e3]
         iterate 2 go_step
         refine Zq ?_;refine q_m ?_;simp only[pv];refine q_v _ (yc _ _ _ _ rfl (3-j:Nat) 0 rfl rfl true (decide_eq_true (by omega))) ?_;simp only[pv];refine R5 ?_;intro w11 jz;replace own:=own.belowAll jz;replace r4:=r4.belowAll jz;replace sb:=b_o sb jz;clear jz
         iterate 8 go_step
         refine rp ?_;refine Z5 (by rfl) (.inl rfl) rfl ?_;simp only[pv];refine Z5 (by rfl) (.inl rfl) rfl ?_;simp only[pv];refine p_v _ (Zj 97 _ _ rfl g4 rfl k 8 rfl hk8 _ underlying97 sizeOf3) ?_;simp only[pv];refine FW (by rfl) 3 _ rfl g4 k rfl r4.r (.int .i64 (V k:Nat)) (ZO _ _ _ _ hk8) isAgg3 ?_;simp only[pv];refine Z5 (by rfl) (.inl rfl) rfl ?_;simp only[pv];refine p_v _ (Va _ _ _ _ rfl 8 (3-j) _ rfl rfl rfl (by omega)) ?_;simp only[pv];refine p_v _ (Pe _ _ _ _ rfl (V k) (8*(3-j)) .i64 rfl rfl (by omega)) ?_;simp only[pv];refine p_v _ (WQ _ _ _ _ rfl (V k/2^(8*(3-j))) 255 _ rfl rfl (Wn (UL hVk)) (by decide) (Nat.and_two_pow_sub_one_eq_mod _ 8)) ?_;simp only[pv];refine p_v (.int .u8 (V k/2^(8*(3-j))%256:Nat)) (Wd _ _ _ rfl .i64 .u8 underlying3 underlying5 ((V k/2^(8*(3-j))%256:Nat):Int) _ rfl (ya _ _ (Nat.mod_mod _ _))) ?_;simp only[pv];refine RS (by rfl) _ rfl (V k/2^(8*(3-j))%256) rfl ?_
         have hnw:=U3 w11 (V k/2^(8*(3-j))%256) (UInt8.ofNat (V k/2^(8*(3-j))%256)) (UInt8.toNat_ofNat_of_lt' (Nat.mod_lt _ (by decide))) 5
         replace own:=own.alloc (.cells #[.int .u8 (V k/2^(8*(3-j))%256:Nat)] 5)
         replace r4:=r4.alloc (.cells #[.int .u8 (V k/2^(8*(3-j))%256:Nat)] 5)
         replace sb:=sb.alloc sb.size (.cells #[.int .u8 (V k/2^(8*(3-j))%256:Nat)] 5)
         simp only[pv];refine NS (by rfl) _ _ rfl w.heap.size u6 ((Sb V).take (k*4+j)) [UInt8.ofNat (V k/2^(8*(3-j))%256)] rfl own ⟨w11.heap.size,0,none⟩ 1 1 rfl rfl hnw (by rw[List.length_take,Xo];omega) sb.size ?_;intro v9 w12 own9 gr
         replace sb:=OB.grown sb own gr sb.size (Nat.le_refl _)
         replace r4:=r4.grown gr (own.ne_row r4 (by decide))
         rw[FX V k j hk8 (by omega)]at own9
         clear own gr hnw;simp only[pv];refine Z5 (by rfl) (.inr rfl) rfl ?_;simp only[pv];refine Ac ?_
         iterate 2 go_step
         refine Zq ?_;refine q_m ?_;simp only[pv];refine q_v (.int .i64 (3-((j+1:Nat):Int))) (In _ _ _ _ rfl (3-j:Nat) 1 _ rfl rfl (by omega) (by omega) (by omega)) ?_;refine q_a ?_;simp only[pv];refine R5 ?_;intro w13 jz;replace own9:=own9.belowAll jz;replace r4:=r4.belowAll jz;replace sb:=b_o sb jz;clear jz
         go_wp2
         go_roundg m
         ·exact⟨j+1,by omega,rfl,own9,r4,sb⟩
         omega
    ·rfl
   |succ g=>
    have hV: ∀i,ab (bf L) k i<4294967296:=Be _ _
    have hbb: ∀i,(fun i=>bf L (64*k+i)) i<256:=fun i=>Bf _ _
    have hcb: ∀i,i<64->cur[0+64*k+i]?=some (.int .u8 ((fun i=>bf L (64*k+i)) i:Nat)):=fun i hi=>by rw[Nat.zero_add];exact z6 _ (by omega)
    have hab:ab (bf L) (k+1)=cmp (ab (bf L) k) (fun i=>bf L (64*k+i)):=rfl
    iterate 2 go_step
    apply Za [] [_,_,_,_] trivial List.nodup_nil
    ·intro p;refine m_m ?_;refine m_m ?_;simp only[pv];refine ZK (.int .i64 (64*m:Nat)) (fun w'=>(ND _ _ rfl _ _ _ rfl underlying81 w').trans (by rw[z1])) ?_;simp only[pv];refine ZK _ (Uo _ _ _ _ rfl (64*k:Nat) (64*m:Nat) rfl rfl true (decide_eq_true (by omega))) ?_;simp only[pv];refine Zd ?_;intro w5 jj jk jx jy
     replace r4:=jj.row r4 (by simp)
     replace rB:=jj.rowR rB (by simp)
     replace sb:=sb.trans (jj.below w.heap.size sb.size (by simp))
     clear jj jk jx jy
     iterate 8 go_step
     apply Zg (by kernel_rfl) [(g4,97,rC .i64 8 (ab (bf L) k))] [_,_,_,_,_,_,_,_] ⟨r4,trivial⟩ (by simp<;>omega)
     ·intro p;refine YI 0 97 _ rfl rfl rfl 8 _ underlying97 (by rw[ZB];exact XV) ?_;refine m_m ?_;refine m_m ?_;refine m_m ?_;simp only[pv];refine ZK _ (Yf _ _ _ _ rfl (64*k) 64 rfl rfl (by omega)) ?_;simp only[pv];refine ZK (.slice (some ⟨gb,0+64*k,none⟩) 64 (cap-64*k)) ((fun w'=>(FV _ _ _ _ _ underlying81 sizeOf5 rfl gb 0 _ cap (64*k) (64*k+64) rfl rfl rfl (by omega) (by omega) (by omega) w').trans (by rw[Nat.add_sub_cancel_left]))) ?_;simp only[pv];refine m_k 47 func47 #[.agg (rC .i64 8 (ab (bf L) k)),.slice (some ⟨gb,0+64*k,none⟩) 64 (cap-64*k)] (fun w' hk=>Ir _ _ hV hbb gb (0+64*k) _ cur 5 w' (hk.rowR rB (by simpa using z5)) hcb) ?_;simp only[pv];refine YE 0 97 _ _ rfl rfl rfl (rC .i64 8 (cmp (ab (bf L) k) (fun i=>bf L (64*k+i)))) rfl (by rw[ZB];exact XV) (by simp only[ZB]) (XR _ _ _) ?_;simp only[Act.put];refine Zd ?_;intro w6 jj jk jx jy
      have zr4:Row w6 g4 (rC .i64 8 (cmp (ab (bf L) k) (fun i=>bf L (64*k+i)))) 97:=jk 0 (97,rC .i64 8 (cmp (ab (bf L) k) (fun i=>bf L (64*k+i)))) rfl
      replace rB:=jj.rowR rB (by simpa using z5)
      replace sb:=sb.trans (jj.below w.heap.size sb.size (by simpa using z4))
      clear jj jk jx jy r4
      iterate 2 go_step
      refine Zq ?_;refine q_m ?_;simp only[pv];refine q_v _ (Yf _ _ _ _ rfl (64*k) 64 rfl rfl (by omega)) ?_;refine q_a ?_;simp only[pv];refine R5 ?_;intro w7 jz;replace zr4:=zr4.belowAll jz;replace rB:=rB.belowAll jz;replace sb:=b_o sb jz;clear jz;clear z1 z2 z3 hcb
      go_wp2
      go_roundg g
      ·exact⟨k+1,by omega,rfl,by rw[hab];exact zr4,rB,sb⟩
      omega
     ·kernel_rfl
    ·rfl
 ·rfl
