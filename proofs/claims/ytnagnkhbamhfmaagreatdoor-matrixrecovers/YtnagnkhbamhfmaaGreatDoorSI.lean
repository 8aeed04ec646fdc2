import Derived.Test.YtnagnkhbamhfmaaGreatDoorSH
import Derived.Laws.IdiomCopy
import Derived.Laws.MakeOwn
import Derived.Test.YtnagnkhbamhfmaaGreatDoorGU
import Derived.Test.YtnagnkhbamhfmaaGreatDoorTie
import Derived.Test.YtnagnkhbamhfmaaGreatDoorCards
import Derived.LaidMore
import Derived.Lib.LaidTab
import Derived.SevenTiedAt
set_option maxRecDepth 100000
set_option maxHeartbeats 8000000
namespace Go.Proofs.YtnagnkhbamhfmaaGreatDoor
set_option linter.all false
open Go.RowKit
open Go.Proofs.Tryz
def hv (q:Bool)(v B:Nat->Nat)(c:Nat)(i:Nat):Value:=
 if i=0 then .bool q else if i<9 then .int .u32 (v (i-1):Nat)else if i<73 then .int .u8 (B (i-9):Nat)else .int .u64 c
def hC (q:Bool)(v B:Nat->Nat)(c:Nat):Array Value:=Array.ofFn (n:=74) fun i=>hv q v B c i
theorem Xz (q:Bool)(v B:Nat->Nat)(c:Nat):(hC q v B c).size=74:=by simp[hC]
theorem Wz (q:Bool)(v B:Nat->Nat)(c i:Nat)(h:i<74):(hC q v B c)[i]?=some (hv q v B c i):=by simp[hC,h]
theorem MC {q:Bool}{v B:Nat->Nat}{c:Nat}{a:Array Value}(hs:a.size=74)(h: ∀i,i<74->a[i]?=some (hv q v B c i)):a=hC q v B c:=by
 apply B_;intro i;by_cases hi:i<74
 ·rw[h i hi,Wz _ _ _ _ _ hi]
 ·rw[h_ (by omega),h_ (by rw[Xz];omega)]
theorem xv (q:Bool)(v B:Nat->Nat)(c:Nat):(hC q v B c).all (·.oneCell')=true:=by
 rw[gP0];intro i hi;have:(hC q v B c)[i]=hv q v B c i:=by simp[hC]
 rw[this];unfold hv
 split
 ·rfl
 ·split
  ·rfl
  ·split<;>rfl
theorem E0 {q:Bool}{v v' B B':Nat->Nat}{c:Nat}(hvv: ∀i,i<8->v i=v' i)(hb: ∀i,i<64->B i=B' i):hC q v B c=hC q v' B' c:=by
 refine MC (Xz _ _ _ _) fun i hi=>?_
 rw[Wz _ _ _ _ _ hi];unfold hv;by_cases h0:i=0
 ·rw[i_ h0,i_ h0]
 rw[j_ h0,j_ h0];by_cases h1:i<9
 ·rw[i_ h1,i_ h1,hvv _ (by omega)]
 rw[j_ h1,j_ h1];by_cases h2:i<73
 ·rw[i_ h2,i_ h2,hb _ (by omega)]
 ·rw[j_ h2,j_ h2]
theorem ui (q:Bool)(v B:Nat->Nat)(c:Nat): ∀j x,(rC .u32 8 v).toList[j]?=some x->(hC q v B c)[1+j]?=some x:=by
 intro j x hx
 have hj:j<8:=by
  rcases aK0 j 8 with h|h
  ·exact h
  ·rw[fN0 (by rw[D_,Yg];exact h)]at hx;cases hx
 rw[k_,YD _ _ _ _ hj]at hx;rw[Wz _ _ _ _ _ (by omega),<-hx];unfold hv;rw[j_ (by omega),i_ (by omega),bF0]
theorem uj (q:Bool)(v B:Nat->Nat)(c:Nat): ∀j x,(rC .u8 64 B).toList[j]?=some x->(hC q v B c)[9+j]?=some x:=by
 intro j x hx
 have hj:j<64:=by
  rcases aK0 j 64 with h|h
  ·exact h
  ·rw[fN0 (by rw[D_,Yg];exact h)]at hx;cases hx
 rw[k_,YD _ _ _ _ hj]at hx;rw[Wz _ _ _ _ _ (by omega),<-hx];unfold hv;rw[j_ (by omega),j_ (by omega),i_ (by omega),bF0]
theorem AW (q:Bool)(v B:Nat->Nat)(c k:Nat)(h:k<8):(hC q v B c)[1+k]?=some (.int .u32 (v k:Nat)):=by
 rw[Wz _ _ _ _ _ (by omega)];unfold hv;rw[j_ (by omega),i_ (by omega),bF0]
theorem xw (q:Bool)(v B:Nat->Nat)(c:Nat): ∀j x,(hC q v B c).toList[j]?=some x->(hC q v B c)[0+j]?=some x:=by
 intro j x hx;rw[A_,<-k_];exact hx
theorem AX (q:Bool)(v v' B:Nat->Nat)(c:Nat):SL (hC q v B c) 1 (rC .u32 8 v').toList=hC q v' B c:=by
 have hl:(rC .u32 8 v').toList.length=8:=by rw[D_,Yg]
 refine MC (by rw[Tz,Xz]) fun i hi=>?_
 rw[Uc _ _ _ _ (by rw[hl,Xz];omega),hl];by_cases h:1<=i/\i<1+8
 ·rw[i_ h,k_,YD _ _ _ _ (by omega)];unfold hv;rw[j_ (by omega),i_ (by omega)]
 ·rw[j_ h,Wz _ _ _ _ _ hi];unfold hv;by_cases h0:i=0
  ·rw[i_ h0,i_ h0]
  ·rw[j_ h0,j_ h0,j_ (show ¬i<9 by omega),j_ (show ¬i<9 by omega)]
theorem AY (q:Bool)(v B:Nat->Nat)(c d:Nat):(hC q v B c).setIfInBounds 73 (.int .u64 (d:Nat))=hC q v B d:=by
 refine MC (by rw[eM0,Xz]) fun i hi=>?_
 rw[aI0];by_cases h:73=i
 ·subst h;rw[i_ rfl,i_ (by rw[Xz];omega)];rfl
 ·rw[j_ h,Wz _ _ _ _ _ hi];unfold hv;by_cases h0:i=0
  ·rw[i_ h0,i_ h0]
  ·rw[j_ h0,j_ h0];by_cases h1:i<9
   ·rw[i_ h1,i_ h1]
   ·rw[j_ h1,j_ h1,i_ (by omega),i_ (by omega)]
def b8s (l:List UInt8):List Value:=l.map fun b=>.int .u8 (b.toNat:Int)
theorem UU (l:List UInt8):(b8s l).length=l.length:=by simp[b8s]
theorem AZ (l:List UInt8)(j:Nat)(h:j<l.length):(b8s l)[j]?=some (.int .u8 (bf l j:Nat)):=by
 unfold b8s bf;rw[cZ0,s_,dE0 h];rfl
theorem A2 (l:List UInt8): ∀x∈b8s l,x.oneCell'=true:=by
 intro x hx;obtain⟨b,_,rfl⟩:=fG0.1 hx;rfl
def cpB (B:Nat->Nat)(F:Nat)(l:List UInt8)(i:Nat):Nat:=if F<=i/\i<F+l.length then bf l (i-F)else B i
theorem Hl (q:Bool)(v B:Nat->Nat)(c F:Nat)(l:List UInt8)(h:F+l.length<=64):SL (hC q v B c) (9+F) (b8s l)=hC q v (cpB B F l) c:=by
 refine MC (by rw[Tz,Xz]) fun i hi=>?_
 rw[Uc _ _ _ _ (by rw[UU,Xz];omega),UU];unfold hv cpB;by_cases h1:9+F<=i/\i<9+F+l.length
 ·rw[i_ h1,AZ _ _ (by omega),j_ (by omega),j_ (by omega),i_ (by omega),i_ (by omega),show i-9-F=i-(9+F) by omega]
 ·rw[j_ h1,Wz _ _ _ _ _ hi];unfold hv;by_cases h0:i=0
  ·rw[i_ h0,i_ h0]
  rw[j_ h0,j_ h0];by_cases h2:i<9
  ·rw[i_ h2,i_ h2]
  rw[j_ h2,j_ h2];by_cases h3:i<73
  ·rw[i_ h3,i_ h3,j_ (by omega)]
  ·rw[j_ h3,j_ h3]
theorem PV:(Tryz.prog.info? 200).map (·.size)=some 74:=by kernel_rfl
theorem Hm (w:World):(zeroValue 200).run Tryz.prog w= .ok (.agg (hC false (fun _=>0) (fun _=>0) 0)) w:=by
 have h:(Tryz.prog.info? 200).map (fun i=>(i.zero,i.size))=some (some (.agg (hC false (fun _=>0) (fun _=>0) 0)),74):=by kernel_rfl
 exact(V_ h).1 w
section
variable {P:Program}{o:Oper}{ρ:Operand->Value}
theorem MD (t e:TypeId)(x lo:Operand)(n:Nat)(hu:P.underlying t=some (.array n e))(hz: ∀w,(sizeOf e).run P w= .ok 1 w)(ho:o.op= .slice t x (some lo) none none)(g off l:Nat)(hx:ρ x= .pointer (some ⟨g,off,none⟩))(hl:ρ lo= .int .i64 l)
  (hn:l<n)(w:World):(execOp ρ o).run P w= .ok (.value (.slice (some ⟨g,off+l,none⟩) (n-l) (n-l))) w:=by
 have hA:P.arrayLen t=n:=by simp[Program.arrayLen,hu]
 have hE:P.elem t=e:=by simp[Program.elem,hu]
 have hr:=run_sliceAt_array_l (P:=P) w t ⟨g,off,none⟩ (by rw[hA,hE];exact hu) .i64 l (by omega) (by rw[hA];omega);unfold execOp;simp only[ho,hx,hl,bA0,dT0,r_];rw[hr,hA,hE,hz];unfold slicedAt;simp only[q_,m_];rw[j_ (by omega),I_,Addr.add_mid];rfl
theorem L0 (t e:TypeId)(x:Operand)(n:Nat)(hu:P.underlying t=some (.array n e))(hz: ∀w,(sizeOf e).run P w= .ok 1 w)(ho:o.op= .slice t x none none none)(g off:Nat)(hx:ρ x= .pointer (some ⟨g,off,none⟩))
  (hn:0<n)(w:World):(execOp ρ o).run P w= .ok (.value (.slice (some ⟨g,off,none⟩) n n)) w:=by
 have hA:P.arrayLen t=n:=by simp[Program.arrayLen,hu]
 have hE:P.elem t=e:=by simp[Program.elem,hu]
 have hr:=run_sliceAt_array_all (P:=P) w t ⟨g,off,none⟩ (by rw[hA,hE];exact hu);unfold execOp;simp only[ho,hx,dT0,r_];rw[hr,hA,hE,hz];unfold slicedAt;simp only[m_];rw[j_ (by omega),cD0,Addr.add_mid];rfl
theorem L3 (l:List UInt8)(k:Nat)(h:k<=l.length):(⟨l.toArray⟩:ByteArray).extract k (⟨l.toArray⟩:ByteArray).size=⟨(l.drop k).toArray⟩:=by
 apply ByteArray.ext;rw[gL0];simp[ByteArray.size];exact List.take_of_length_le (by simp)
theorem E1 (t:TypeId)(x lo:Operand)(hu:P.underlying t=some .string)(ho:o.op= .slice t x (some lo) none none)(L:List UInt8)(l:Nat)(hx:ρ x= .string ⟨L.toArray⟩)(hl:ρ lo= .int .i64 l)(hn:l<=L.length)(w:World):
  (execOp ρ o).run P w= .ok (.value (.string ⟨(L.drop l).toArray⟩)) w:=by
 have hs:(⟨L.toArray⟩:ByteArray).size=L.length:=by simp[ByteArray.size]
 have h1:(Instr.sliceAt t (.string ⟨L.toArray⟩) (some (.int .i64 l)) none none).run P w= .ok (.string ⟨(L.drop l).toArray⟩) w:=by
  rw[iG0 w t _ _ _ _ hu,run_slice_string_l w t ⟨L.toArray⟩ hu .i64 l (by omega) (by rw[hs];omega),q_,L3 L l hn]
 unfold execOp;simp only[ho,hx,hl,bA0,dT0,r_,h1,m_];rfl
end
section
variable {P:Program}{olds:W1}{p:Nat->Nat}{W:World}{F:Act->Ct->Prop}{n:Nat}{l:List Oper}{pl:List Sp}{a:Act}{ct:Ct}{o:Oper}
theorem E2 (k:Nat)(c:Array Value)(v:Value){t:TypeId}{old:Array Value}(hct:ct k=some (t,old))(hst: ∀w,Row w (Ya olds p k) old t-> ∃w2,(execOp a.eval o).run P w= .ok (.value v) w2/\Row w2 (Ya olds p k) c t/\Only (Ya olds p k) w w2)
  (h:MX P olds p W F (n+1) l pl (a.put o.dst v) (X3 ct k (t,c))):MX P olds p W F n (o::l) ((fun _=>v,[],none,[(k,c)])::pl) a ct:=by
 refine⟨⟨⟨.inl ⟨v,rfl⟩,fun x hx=>?_,fun w hk hrw=>?_⟩,?_⟩⟩
 ·obtain rfl:x=(k,c):=C_.1 hx;exact⟨_,hct⟩
 ·obtain⟨w2,hr,r2,ho⟩:=hst w (hrw k (bU0 _ (C_.2 rfl)) _ hct);rw[hr];refine⟨ho.os,ho.tape,ho.output,by rw[ho.size];exact e_ _,fun b _ hne=>ho.block b (hne (k,c) (C_.2 rfl)),fun x hx y hy=>?_,.inl ⟨rfl,rfl⟩⟩;obtain rfl:x=(k,c):=C_.1 hx;obtain rfl:(t,old)=y:=cN0 (hct.symm.trans hy);exact r2
 ·rw[Ku n _ _ k c ct hct];exact h.out
theorem PX (w:World)(dT sT ty e:TypeId)(g off m cap:Nat)(L:List UInt8)(hd:P.underlying dT=some (.slice e))(hz: ∀w,(sizeOf e).run P w= .ok 1 w)(n:Nat)(hn:min L.length m=n)
  (hth:w.there g off n):(Builtin.copy_ #[dT,sT] ty #[.slice (some ⟨g,off,none⟩) m cap,.string ⟨L.toArray⟩]).run P w= .ok (goInt n) (w.setCells g off (b8s (L.take n))):=by
 have hs:(⟨L.toArray⟩:ByteArray).size=L.length:=by simp[ByteArray.size]
 have hle:n<=L.length:=by omega
 have hcells:((⟨L.toArray⟩:ByteArray).extract 0 n).data.map (fun b=>Value.int .u8 (b.toNat:Int))=(b8s (L.take n)).toArray:=by
  rw[gL0];simp[b8s]
 have hlen:(b8s (L.take n)).length=n:=by rw[UU,eA0];omega
 have hst:=run_storeCells_cells (P:=P) g off (b8s (L.take n)) 0 w (fun j hj=>(hth j (by omega)).1) (fun j hj=>(hth j (by omega)).2) (A2 _);rw[bM0]at hst
 have hmin:Nat.min (⟨L.toArray⟩:ByteArray).size m=n:=by rw[hs];exact hn
 simp only[Builtin.copy_,List.getElem?_toArray,List.getElem?_cons_zero,gJ0];simp only[r_,aA0 hd,m_,Builtin.lenOf,aJ0,hz,Builtin.firstCells,hmin,hcells,hst]
theorem ME (k:Nat)(d s:Operand)(dT sT e:TypeId)(ho:o.op= .call {callee:=.builtin .copy,args:=#[d,s],argTypes:=#[dT,sT]})(hud:P.underlying dT=some (.slice e))(hz: ∀w,(sizeOf e).run P w= .ok 1 w)
  (off m cap:Nat){t:TypeId}{old:Array Value}(hct:ct k=some (t,old))(hx:a.eval d= .slice (some ⟨Ya olds p k,off,none⟩) m cap)(L:List UInt8)(hy:a.eval s= .string ⟨L.toArray⟩)(q:Nat)(hq:min L.length m=q)
  (hold:off+q<=old.size)(c:Array Value)(hc:SL old off (b8s (L.take q))=c)
  (h:MX P olds p W F (n+1) l pl (a.put o.dst (.int .i64 (q:Nat))) (X3 ct k (t,c))):MX P olds p W F n (o::l) ((fun _=>.int .i64 (q:Nat),[],none,[(k,c)])::pl) a ct:=by
 subst hc;refine E2 k _ (.int .i64 (q:Nat)) hct (fun w hr=>⟨w.setCells (Ya olds p k) off (b8s (L.take q)),?_,Row.setCells _ _ hr,X5 _ _ _ _⟩) h;have:=PX (P:=P) w dT sT o.type e (Ya olds p k) off m cap L hud hz q hq (W5 hr off q hold);unfold execOp;simp only[ho];simp[resolve,invoke,builtin,hx,hy,this,goInt]
end
theorem Hn (l:List UInt8)(n i:Nat)(h:i<n):bf (l.take n) i=bf l i:=by
 unfold bf;rw[s_,s_,List.getElem?_take_of_lt h]
theorem A3 (L:List UInt8)(B:Nat->Nat)(F j:Nat)(hF:F<64)(hle:64*(j+1)<=L.length)(hB: ∀i,i<F->B i=bf L (64*j+i)):
  ∀i,i<64->cpB B F ((L.drop (64*j+F)).take (64-F)) i=bf L (64*j+i):=by
 intro i hi
 have hl:((L.drop (64*j+F)).take (64-F)).length=64-F:=by rw[eA0,cE0];omega
 unfold cpB;rw[hl];by_cases h:F<=i
 ·rw[i_ (by omega),Hn _ _ _ (by omega),Hf,show 64*j+F+(i-F)=64*j+i by omega]
 ·rw[j_ (by omega),hB i (by omega)]
theorem A4 (L:List UInt8)(B:Nat->Nat)(F j q:Nat)(hq:64*j+F+q=L.length)(hB: ∀i,i<F->B i=bf L (64*j+i)):
  ∀i,i<F+q->cpB B F ((L.drop (64*j+F)).take q) i=bf L (64*j+i):=by
 intro i hi
 have hl:((L.drop (64*j+F)).take q).length=q:=by rw[eA0,cE0];omega
 unfold cpB;rw[hl];by_cases h:F<=i
 ·rw[i_ (by omega),Hn _ _ _ (by omega),Hf,show 64*j+F+(i-F)=64*j+i by omega]
 ·rw[j_ (by omega),hB i (by omega)]
theorem xx {B:Nat->Nat}(h: ∀i,B i<256)(F:Nat)(l:List UInt8)(i:Nat):cpB B F l i<256:=by
 unfold cpB
 split
 ·exact xt _ _
 ·exact h i
structure HS (l:List UInt8)(B:Nat->Nat):Prop where
 b: ∀i,i<l.length%64->B i=bf l (64*(l.length/64)+i)
 lt: ∀i,B i<256
theorem Rf (q:Bool)(v B:Nat->Nat)(c g0:Nat)(w:World)(r0:Row w g0 (hC q v B c) 200):
  Calls Tryz.prog 169 #[.pointer (some ⟨g0,0,none⟩)] w fun e w'=>e= .returned (.int .i64 (c%64:Nat))/\Below w.heap.size w w':=by
 go_enter func169,ntmps169
 iterate 2 go_step
 apply Za [] [_] trivial a_
 ·intro p;refine m_V (.int .i64 0) (fun _=>rfl) ?_;refine Zd ?_;intro w2 hkw hrw hnew hdis;replace r0:=hkw.ro r0;have sb:=k_b hkw;clear hkw hrw hnew hdis;iterate 3 go_step
  refine ZE ?_;refine q_W ?_;refine q_V (.pointer (some ⟨g0,0,none⟩)) (Yj _ rfl g0 0 rfl) ?_;refine q_V _ (Ze 200 _ 3 rfl g0 0 rfl _ cP0 _ rfl 0 cB0) ?_;refine ZF (by rfl) 55 _ rfl _ (73) rfl r0 (.int .u64 (c:Nat)) (Wz _ _ _ _ 73 (by omega)) eK0 (q_W ?_);refine q_V _ (AR _ _ _ _ rfl c 64 rfl rfl (by omega)) ?_;refine q_V (.int .i64 (c%64:Nat)) (Uz _ _ _ rfl .u64 .i64 gZ0 bR0 ((c%64:Nat):Int) _ rfl (wrap_i64 _ (by omega))) ?_;intro w3 hqb;replace sb:=b_o sb hqb;clear hqb;go_wp2;go_ret;exact⟨rfl,sb⟩
 ·rfl
structure AdH (wr w:World)(g N:Nat)(L:List UInt8)(j F:Nat)(B:Nat->Nat):Prop where
 r:Row wr g (hC true (ab (bf L) j) B N) 200
 b: ∀i,i<F->B i=bf L (64*j+i)
 lt: ∀i,B i<256
 kept:Kept [g] w wr
theorem E3 (L:List UInt8)(B:Nat->Nat)(N m f0 ls g0:Nat)(w:World)(hN:L.length=N)(hNl:N<1152921504606846976)(hm:N=64*m+f0+ls)(hf:f0<64)(hB: ∀i,i<f0->B i=bf L (64*m+i))(hlt: ∀i,B i<256)
  (r0:Row w g0 (hC true (ab (bf L) m) B (64*m+f0)) 200)(kT:KT w)(hg:0≠g0):
  Calls Tryz.prog 125 #[.pointer (some ⟨g0,0,none⟩),.string ⟨(L.drop (64*m+f0)).toArray⟩] w fun e w'=>e= .returned (.tuple #[])/\
   ∃B',HS L B'/\Row w' g0 (hC true (ab (bf L) (N/64)) B' N) 200/\Kept [g0] w w':=by
 have sk:=Kept.refl [g0] w
 have hls:(L.drop (64*m+f0)).length=ls:=by rw[cE0];omega
 have hsz:(⟨(L.drop (64*m+f0)).toArray⟩:ByteArray).size=ls:=by simp only[ByteArray.size,List.size_toArray];exact hls
 have hr0:(64*m+f0)%64=f0:=by omega
 go_enter func125,ntmps125
 iterate 3 go_step
 refine ZE ?_;refine q_W ?_;refine q_V _ (Cb _ _ _ _ rfl (some ⟨g0,0,none⟩) rfl rfl _ underlying166) ?_;refine q_V (.pointer (some ⟨g0,0,none⟩)) (Yj _ rfl g0 0 rfl) ?_;refine q_V _ (Ze 200 _ 0 rfl g0 0 rfl _ cP0 _ rfl 0 sizeOf4) ?_;refine ZF (by rfl) 4 _ rfl _ (0) rfl r0 (.bool true) (Wz _ _ _ _ 0 (by omega)) isAgg4 (q_W ?_);refine q_V _ (Zs _ _ rfl true rfl) ?_;refine q_P false (.bool false) ?_;intro w2 hqb;replace r0:=r0.belowAll hqb;replace sk:=sk.on hqb;clear hqb;iterate 7 go_step
 apply Za [] [_,_,_] trivial a_
 ·intro p;refine m_W ?_;refine m_K 169 func169 #[.pointer (some ⟨g0,0,none⟩)] (fun w' hk=>Rf _ _ _ _ g0 w' (hk.row r0 (by simp))) ?_;refine Zd ?_;intro w3 hkw hrw hnew hdis;replace r0:=hkw.ro r0;replace sk:=sk.trans hkw (by simp);clear hkw hrw hnew hdis;rw[hr0];iterate 3 go_step
  apply Za [(g0,200,hC true (ab (bf L) m) B (64*m+f0))] [_,_,_,_,_,_,_,_,_,_,_] ⟨r0,trivial⟩ (by simp<;>omega)
  ·intro p;refine m_W ?_;refine m_V (.pointer (some ⟨g0,0,none⟩)) (Yj _ rfl g0 0 rfl) ?_;refine m_V _ (Ze 200 _ 3 rfl g0 0 rfl _ cP0 _ rfl 0 cB0) ?_;refine Y9 0 55 _ rfl (73) rfl rfl (.int .u64 (64*m+f0:Nat)) (Wz _ _ _ _ 73 (by omega)) eK0 (m_W ?_);refine m_V (.int .i64 (ls:Nat)) (fun w'=>(Ca _ _ rfl ⟨(L.drop (64*m+f0)).toArray⟩ rfl S_ w').trans (by rw[hsz])) ?_;refine m_V (.int .u64 (ls:Nat)) (Uz _ _ _ rfl .i64 .u64 bR0 gZ0 (ls:Int) _ rfl (vl _ (by omega))) ?_;refine m_V _ (AN _ _ _ _ rfl (64*m+f0) ls rfl rfl (by omega)) ?_;refine m_V (.pointer (some ⟨g0,0,none⟩)) (Yj _ rfl g0 0 rfl) ?_;refine m_V _ (Ze 200 _ 3 rfl g0 0 rfl _ cP0 _ rfl 0 cB0) ?_;refine Xu 0 55 _ _ rfl (73) rfl rfl .u64 (((64*m+f0+ls:Nat):Int)) rfl cB0 (by rw[Xz];omega) (hC true (ab (bf L) m) B (64*m+f0+ls)) (AY _ _ _ _ _) ?_;simp only[Act.put];refine Zd ?_;intro w4 hkw hrw hnew hdis;have zr0:Row w4 (g0) (hC true (ab (bf L) m) B (64*m+f0+ls)) 200:=hrw 0 (200,hC true (ab (bf L) m) B (64*m+f0+ls)) rfl;replace sk:=sk.trans hkw (by simp);clear hkw hrw hnew hdis r0;have r0:=zr0;clear zr0;iterate 4 go_step
   apply Za [] [_,_,_,_,_,_] trivial a_
   ·intro p;refine m_W ?_;refine m_V (.int .i64 (ls:Nat)) (fun w'=>(Ca _ _ rfl ⟨(L.drop (64*m+f0)).toArray⟩ rfl S_ w').trans (by rw[hsz])) ?_;refine m_V _ (XK _ _ _ _ rfl f0 ls rfl rfl (by omega)) ?_;refine m_V _ (Wb _ _ _ _ rfl (f0+ls) 64 rfl rfl (by omega) (by omega)) ?_;refine m_V (.int .i64 0) (fun _=>rfl) ?_;refine Zd ?_;intro w5 hkw hrw hnew hdis;replace r0:=hkw.ro r0;replace sk:=sk.trans hkw (by simp);clear hkw hrw hnew hdis;have H0:AdH w5 w g0 N L (m+0) f0 B:=⟨by rw[hm];exact r0,hB,hlt,sk⟩;have HD:Hid (L.length=N/\N<1152921504606846976/\N=64*m+f0+ls/\f0<64/\KT w/\0≠g0):=⟨hN,hNl,hm,hf,kT,hg⟩;generalize hn:(f0+ls)/64=n;have HN:Hid ((f0+ls)/64=n):=hn;clear r0 sk hr0 hls hsz hB hlt hN hNl kT hg hn
    go_wp2_with fail
    go_loopg [1,4,5,32] n (fun g s1 s4 s5 s32 wr=> ∃k F B,k+g=n/\s32= .int .i64 (k:Nat)/\s1= .string ⟨(L.drop (64*(m+k)+F)).toArray⟩/\s4= .int .i64 (F:Nat)/\F<64/\(F=0∨(k=0/\F=f0))/\AdH wr w g0 N L (m+k) F B)
    case atStart=>exact⟨0,f0,B,by omega,rfl,rfl,rfl,hf,.inr ⟨rfl,rfl⟩,H0⟩
    case round=>
     obtain⟨k,F,B,hk,rfl,rfl,rfl,hF,hFk,r0,hB,hlt,sk⟩:=hrel;obtain⟨hN,hNl,hm,hf,kT,hg⟩:=HD.out;have hn:=HN.out;clear H0
     cases gk with
     |zero=>
      obtain rfl:k=n:=by omega
      have hq:min (L.drop (64*(m+k)+F)).length (64-F)=N%64-F:=by rw[cE0];omega
      have hcp:SL (hC true (ab (bf L) (m+k)) B N) (9+F) (b8s ((L.drop (64*(m+k)+F)).take (N%64-F)))=hC true (ab (bf L) (m+k)) (cpB B F ((L.drop (64*(m+k)+F)).take (N%64-F))) N:=
       Hl _ _ _ _ _ _ (by rw[eA0,cE0];omega)
      have hHS:HS L (cpB B F ((L.drop (64*(m+k)+F)).take (N%64-F))):=by
       refine⟨fun i hi=>?_,xx hlt _ _⟩;rw[hN]at hi ⊢;rw[A4 L B F (m+k) (N%64-F) (by omega) hB i (by omega),show N/64=m+k by omega]
      have hj:N/64=m+k:=by omega
      have hk64:F+(N%64-F)<=64:=by omega
      generalize N%64-F=q at*;clear hk hm hn hFk HD HN hB hlt
      go_step
      apply Za [] [_] trivial a_
      ·intro p;refine m_V _ (P6 _ _ _ _ rfl k k rfl rfl false (d_ (by omega))) ?_;refine Zd ?_;intro w6 hkw hrw hnew hdis;replace r0:=hkw.ro r0;replace sk:=sk.trans hkw (by simp);clear hkw hrw hnew hdis;iterate 7 go_step
       apply Za [(g0,200,hC true (ab (bf L) (m+k)) B N)] [_,_,_,_,_,_,_] ⟨r0,trivial⟩ (by simp<;>omega)
       ·intro p;refine m_W ?_;refine m_V (.pointer (some ⟨g0,0,none⟩)) (Yj _ rfl g0 0 rfl) ?_;refine m_V _ (Ze 200 _ 2 rfl g0 0 rfl _ cP0 _ rfl 63 sizeOf198) ?_;refine m_V _ (MD 198 5 _ _ 64 fA0 fO0 rfl g0 9 F rfl rfl (by omega)) ?_;refine ME 0 _ _ _ _ 5 rfl dL0 fO0 (9+F) (64-F) (64-F) rfl rfl (L.drop (64*(m+k)+F)) rfl q hq (by rw[Xz];omega) (hC true (ab (bf L) (m+k)) (cpB B F ((L.drop (64*(m+k)+F)).take q)) N) hcp (m_W ?_);refine Zd ?_;intro w7 hkw hrw hnew hdis;have zr0:Row w7 (g0) (hC true (ab (bf L) (m+k)) (cpB B F ((L.drop (64*(m+k)+F)).take q)) N) 200:=hrw 0 (200,hC true (ab (bf L) (m+k)) (cpB B F ((L.drop (64*(m+k)+F)).take q)) N) rfl;replace sk:=sk.trans hkw (by simp);clear hkw hrw hnew hdis r0;have r0:=zr0;clear zr0;go_wp2
        go_end0
        exact⟨rfl,_,hHS,by rw[hj];exact r0,sk⟩
       ·rfl
      ·rfl
     |succ g=>
      have hle:64*(m+k+1)<=L.length:=by omega
      have hq:min (L.drop (64*(m+k)+F)).length (64-F)=64-F:=by rw[cE0];omega
      have hcp:SL (hC true (ab (bf L) (m+k)) B N) (9+F) (b8s ((L.drop (64*(m+k)+F)).take (64-F)))=hC true (ab (bf L) (m+k)) (fun i=>bf L (64*(m+k)+i)) N:=by
       rw[Hl _ _ _ _ _ _ (by rw[eA0,cE0];omega)];exact E0 (fun _ _=>rfl) (A3 L B F (m+k) hF hle hB)
      have hdr:(L.drop (64*(m+k)+F)).drop (64-F)=L.drop (64*(m+(k+1))+0):=by
       rw[List.drop_drop,show 64*(m+k)+F+(64-F)=64*(m+(k+1))+0 by omega]
      have hlen:64-F<=(L.drop (64*(m+k)+F)).length:=by rw[cE0];omega
      have hkn:(k:Int)<(n:Int):=by omega
      have hab:ab (bf L) (m+(k+1))=cmp (ab (bf L) (m+k)) (fun i=>bf L (64*(m+k)+i)):=rfl;have hV: ∀i,(ab (bf L) (m+k)) i<4294967296:=vk _ _
      have hbb: ∀i,(fun i=>bf L (64*(m+k)+i)) i<256:=fun i=>xt _ _
      clear hB hlt hle hFk
      go_step
      apply Za [] [_] trivial a_
      ·intro p;refine m_V _ (P6 _ _ _ _ rfl k n rfl rfl true (c_ hkn)) ?_;refine Zd ?_;intro w6 hkw hrw hnew hdis;replace r0:=hkw.ro r0;replace sk:=sk.trans hkw (by simp);clear hkw hrw hnew hdis;iterate 10 go_step
       apply Za [(g0,200,hC true (ab (bf L) (m+k)) B N)] [_,_,_,_,_,_,_,_] ⟨r0,trivial⟩ (by simp<;>omega)
       ·intro p;refine m_W ?_;refine m_V (.pointer (some ⟨g0,0,none⟩)) (Yj _ rfl g0 0 rfl) ?_;refine m_V _ (Ze 200 _ 2 rfl g0 0 rfl _ cP0 _ rfl 63 sizeOf198) ?_;refine m_V _ (MD 198 5 _ _ 64 fA0 fO0 rfl g0 9 F rfl rfl (by omega)) ?_;refine ME 0 _ _ _ _ 5 rfl dL0 fO0 (9+F) (64-F) (64-F) rfl rfl (L.drop (64*(m+k)+F)) rfl (64-F) hq (by rw[Xz];omega) (hC true (ab (bf L) (m+k)) (fun i=>bf L (64*(m+k)+i)) N) hcp (m_W ?_);refine Zd ?_;intro w7 hkw hrw hnew hdis;have zr0:Row w7 (g0) (hC true (ab (bf L) (m+k)) (fun i=>bf L (64*(m+k)+i)) N) 200:=hrw 0 (200,hC true (ab (bf L) (m+k)) (fun i=>bf L (64*(m+k)+i)) N) rfl;replace sk:=sk.trans hkw (by simp);clear hkw hrw hnew hdis r0;have r0:=zr0;clear zr0;iterate 3 go_step
        apply Za [] [_,_,_,_] trivial a_
        ·intro p;refine m_W ?_;refine m_V (.string ⟨(L.drop (64*(m+(k+1))+0)).toArray⟩) ((fun w'=>(E1 _ _ _ S_ rfl (L.drop (64*(m+k)+F)) (64-F) rfl rfl hlen w').trans (by rw[hdr]))) ?_;refine Zd ?_;intro w8 hkw hrw hnew hdis;replace r0:=hkw.ro r0;replace sk:=sk.trans hkw (by simp);clear hkw hrw hnew hdis;have kT8:=kT.kept sk (by simpa using hg);iterate 3 go_step
         apply Zg (by kernel_rfl) [(g0,200,hC true (ab (bf L) (m+k)) (fun i=>bf L (64*(m+k)+i)) N)] [_,_,_,_,_,_,_,_,_,_,_,_,_] ⟨r0,trivial⟩ (by simp<;>omega)
         ·intro p;refine m_W ?_;refine m_V (.pointer (some ⟨g0,0,none⟩)) (Yj _ rfl g0 0 rfl) ?_;refine m_V _ (Ze 200 _ 1 rfl g0 0 rfl _ cP0 _ rfl 7 sizeOf197) ?_;refine Wq 0 197 _ rfl (1) rfl rfl (rC .u32 8 (ab (bf L) (m+k))) (ui _ _ _ _) _ bZ0 rfl (by rw[Yg];exact US) (m_W ?_);refine m_V (.pointer (some ⟨g0,0,none⟩)) (Yj _ rfl g0 0 rfl) ?_;refine m_V _ (Ze 200 _ 2 rfl g0 0 rfl _ cP0 _ rfl 63 sizeOf198) ?_;refine Wq 0 198 _ rfl (9) rfl rfl (rC .u8 64 (fun i=>bf L (64*(m+k)+i))) (uj _ _ _ _) _ fA0 rfl (by rw[Yg];exact Mz) (m_W ?_);refine m_K 170 func170 #[.agg (rC .u32 8 (ab (bf L) (m+k))),.agg (rC .u8 64 (fun i=>bf L (64*(m+k)+i)))] (fun w' hk=>Hk (ab (bf L) (m+k)) (fun i=>bf L (64*(m+k)+i)) hV hbb w' (kT8.kept hk (by simpa using hg))) ?_;refine m_V (.pointer (some ⟨g0,0,none⟩)) (Yj _ rfl g0 0 rfl) ?_;refine m_V _ (Ze 200 _ 1 rfl g0 0 rfl _ cP0 _ rfl 7 sizeOf197) ?_;refine VK 0 197 _ _ rfl 1 rfl rfl (rC .u32 8 (cmp (ab (bf L) (m+k)) (fun i=>bf L (64*(m+k)+i)))) rfl (by rw[Yg];exact US) (by rw[Yg,Xz];omega) (PT _ _ _) (hC true (cmp (ab (bf L) (m+k)) (fun i=>bf L (64*(m+k)+i))) (fun i=>bf L (64*(m+k)+i)) N) (AX _ _ _ _ _) ?_;simp only[Act.put];refine Zd ?_;intro w9 hkw hrw hnew hdis;have zr0:Row w9 (g0) (hC true (cmp (ab (bf L) (m+k)) (fun i=>bf L (64*(m+k)+i))) (fun i=>bf L (64*(m+k)+i)) N) 200:=hrw 0 (200,hC true (cmp (ab (bf L) (m+k)) (fun i=>bf L (64*(m+k)+i))) (fun i=>bf L (64*(m+k)+i)) N) rfl;replace sk:=sk.trans hkw (by simp);clear hkw hrw hnew hdis r0;have r0:=zr0;clear zr0;iterate 2 go_step
          apply Za [] [_] trivial a_
          ·intro p;refine m_V (.int .i64 0) (fun _=>rfl) ?_;refine Zd ?_;intro w10 hkw hrw hnew hdis;replace r0:=hkw.ro r0;replace sk:=sk.trans hkw (by simp);clear hkw hrw hnew hdis;iterate 2 go_step
           apply Za [] [_,_] trivial a_
           ·intro p;refine m_V _ (XK _ _ _ _ rfl k 1 rfl rfl (by omega)) ?_;refine Zd ?_;intro w11 hkw hrw hnew hdis;replace r0:=hkw.ro r0;replace sk:=sk.trans hkw (by simp);clear hkw hrw hnew hdis;go_wp2
            go_roundg g
            ·exact⟨k+1,0,(fun i=>bf L (64*(m+k)+i)),by omega,rfl,rfl,rfl,by omega,.inl rfl,by rw[hab];exact r0,fun i hi=>by omega,hbb,sk⟩
            omega
           ·rfl
          ·rfl
         ·kernel_rfl
        ·rfl
       ·rfl
      ·rfl
   ·rfl
  ·rfl
 ·rfl
theorem Ho (l s:List UInt8)(B:Nat->Nat)(g0:Nat)(w:World)(hl:(l++s).length<1152921504606846976)(hB:HS l B)
  (r0:Row w g0 (hC true (sw l) B l.length) 200)(kT:KT w)(hg:0≠g0):
  Calls Tryz.prog 125 #[.pointer (some ⟨g0,0,none⟩),.string ⟨s.toArray⟩] w fun e w'=>e= .returned (.tuple #[])/\
   ∃B',HS (l++s) B'/\Row w' g0 (hC true (sw (l++s)) B' (l++s).length) 200/\Kept [g0] w w':=by
 have e1:l.length=64*(l.length/64)+l.length%64:=by omega
 have e2:ab (bf l) (l.length/64)=ab (bf (l++s)) (l.length/64):=Mt _ fun i hi=>(He l s i (by omega)).symm
 have e3:(l++s).drop (64*(l.length/64)+l.length%64)=s:=by rw[<-e1];exact List.drop_left
 have r1:Row w g0 (hC true (ab (bf (l++s)) (l.length/64)) B (64*(l.length/64)+l.length%64)) 200:=by
  rw[<-e2,<-e1];exact r0
 have h:=E3 (l++s) B (l++s).length (l.length/64) (l.length%64) s.length g0 w rfl hl (by rw[aS0];omega) (by omega)
  (fun i hi=>(hB.b i hi).trans (He l s _ (by omega)).symm) hB.lt r1 kT hg
 rw[e3]at h;exact h
theorem E4: ∃i,Tryz.prog.info? 5=some i/\i.zero=some (.int .u8 0)/\i.size=1/\i.bytes=1:=by
 have h:(Tryz.prog.info? 5).map (fun i=>(i.zero,i.size,i.bytes))=some (some (.int .u8 0),1,1):=by kernel_rfl
 cases hq:Tryz.prog.info? 5 with
 |none=>simp[hq]at h
 |some i=>
  simp[hq]at h;exact⟨i,rfl,h.1,h.2.1,h.2.2⟩
theorem A5 (n:Nat):madeCells #[.int .u8 0] n=rC .u8 n fun _=>0:=by
 apply B_;intro i;by_cases hi:i<n
 ·rw[YD _ _ _ _ hi];unfold madeCells;simp[hi,aW0]
 ·rw[h_ (by rw[fE0];omega),h_ (by rw[Yg];omega)]
theorem Hp:Tryz.prog.built 200 [(0,.bool true),(1,.agg (rC .u32 8 ivf))]=some (hC true ivf (fun _=>0) 0):=by kernel_rfl
section
variable {P:Program}{olds:W1}{p:Nat->Nat}{W:World}{F:Act->Ct->Prop}{n:Nat}{l:List Oper}{pl:List Sp}{a:Act}{ct:Ct}{o:Oper}{ρ:Operand->Value}
theorem E5 (x y:Operand)(ho:o.op= .makeSlice 118 x y)(k:IntKind)(m:Nat)(hx:a.eval x= .int k m)(hy:a.eval y= .int k m)(hm:m<=16777216)
  (h:MX Tryz.prog olds p W F (n+1) l pl (a.put o.dst (.slice (some ⟨p n,0,none⟩) m m)) (X3 ct (2*n+1) (5,rC .u8 m fun _=>0))):
  MX Tryz.prog olds p W F n (o::l) ((fun q=>.slice (some ⟨q n,0,none⟩) m m,[],some (5,rC .u8 m fun _=>0),[])::pl) a ct:=
 Tt (fun g=>.slice (some ⟨g,0,none⟩) m m) 5 _ (fun w=>by
  obtain⟨i,h1,h2,h3,h4⟩:=E4;have hr:=fY0 (P:=Tryz.prog) w 118 5 i (.int .u8 0) dL0 h1 h2 k k (m:Int) (m:Int) (by omega) (by omega) (by rw[q_,h3];omega) (by rw[h4];omega) (by omega);rw[q_,h3,I_,show(Value.int IntKind.u8 0).cells=#[.int .u8 0]from rfl,A5]at hr;unfold execOp;simp only[ho,hx,hy,r_,hr,m_]
  rfl) h
theorem Cc (t:TypeId)(x y:Operand)(ho:o.op= .indexAddr t x y)(g off len cap:Nat)(hx:ρ x= .slice (some ⟨g,off,none⟩) len cap)(i:Nat)(hy:ρ y= .int .i64 i)(hi:i<len)(e:TypeId)(hu:P.underlying t=some (.slice e))
  (hz: ∀w,(sizeOf e).run P w= .ok 1 w)(r:Nat)(hr:off+i=r)(w:World):(execOp ρ o).run P w= .ok (.value (.pointer (some ⟨g,r,none⟩))) w:=by
 subst hr;have:=Zo (P:=P) (o:=o) t x y ho g off len cap hx i hy hi e hu 1 hz w;rw[I_]at this;exact this
theorem xy (t:TypeId)(x y:Operand)(ho:o.op= .indexAddr t x y)(g off:Nat)(hx:ρ x= .pointer (some ⟨g,off,none⟩))(i len:Nat)(hy:ρ y= .int .i64 i)(hi:i<len)(e:TypeId)(hu:P.underlying t=some (.array len e))
  (hz: ∀w,(sizeOf e).run P w= .ok 1 w)(r:Nat)(hr:off+i=r)(w:World):(execOp ρ o).run P w= .ok (.value (.pointer (some ⟨g,r,none⟩))) w:=by
 subst hr;have:=Yt (P:=P) (o:=o) t x y ho g off hx i len hy hi e hu 1 hz w;rw[I_]at this;exact this
theorem xz (x:Operand)(ho:o.op= .convert 118 9 x)(g off cap n:Nat)(l:List UInt8)(hx:ρ x= .slice (some ⟨g,off,none⟩) n cap)(hn:l.length=n){cs:Array Value}{t:TypeId}(w:World)(hr:WG w g cs t)
  (hc: ∀j,j<l.length->cs[off+j]?=some (.int .u8 (bf l j:Nat))):(execOp ρ o).run Tryz.prog w= .ok (.value (.string ⟨l.toArray⟩)) w:=by
 subst hn
 have h:=run_convert_bytes_back (P:=Tryz.prog) w 118 9 5 ⟨g,off,none⟩ cap l dL0 bX0 S_ (fun j hj=>by
  rw[Addr.add_mid,hr.cell,hc j hj];unfold bf;rw[s_,dE0 hj]
  rfl)
 unfold execOp;simp only[ho,hx,r_,h,m_];rfl
end
theorem E6 (w:World):
  Calls Tryz.prog 124 #[] w fun e w'=> ∃g,e= .returned (.pointer (some ⟨g,0,none⟩))/\w.heap.size<=g/\Row w' g (hC true (sw []) (fun _=>0) 0) 200/\Below w.heap.size w w':=by
 go_enter func124,ntmps124
 iterate 2 go_step
 apply Za [] [_] trivial a_
 ·intro p;refine ZB (.pointer none) (fun _=>rfl) ?_;simp only[Act.put,cH0,eB0];refine Zd ?_;intro w2 hkw hrw hnew hdis;have sb:=k_b hkw;clear hkw hrw hnew hdis;iterate 3 go_step
  apply Za [] [_,_,_,_] trivial a_
  ·intro p;refine m_V _ (UT _ _ rfl _ rfl _ (MA ivf)) ?_;refine m_V _ (UT _ _ rfl _ rfl _ Hp) ?_;refine Yc 200 _ rfl _ rfl (m_W ?_);refine Tu 2 (fun g=>.pointer (some ⟨g,0,none⟩)) (.inl rfl) (by omega) rfl ?_;simp only[Act.put,cH0,eB0];refine Zd ?_;intro w3 hkw hrw hnew hdis;have n3:=hnew 2 rfl;have zr3:Row w3 (p 2) (hC true ivf (fun _=>0) 0) 200:=hrw 5 (200,hC true ivf (fun _=>0) 0) rfl;have b3:=f_ sb.size n3;replace sb:=kk sb hkw;clear hkw hrw hnew hdis n3;generalize p 2=g3 at*;have r3:=zr3;clear zr3;go_wp2;go_ret;exact⟨g3,rfl,b3,r3,sb⟩
  ·rfl
 ·rfl
theorem xA:HS [] fun _=>0:=⟨fun i hi=>by simp at hi,fun _=>by decide⟩
theorem uk (n:Nat):bf (tl n) 0=128:=rfl
theorem ul (n j:Nat)(h:j<zs n):bf (tl n) (1+j)=0:=by
 unfold bf tl;rw[s_,bT0 1 j,gJ0,dC0 (by simpa using h),List.getElem?_replicate,i_ h];rfl
theorem um (n k:Nat)(h:k<8):bf (tl n) (1+zs n+k)=8*n/2^(8*(7-k))%256:=by
 unfold bf tl be8;rw[s_,show 1+zs n+k=(zs n+k)+1 by omega,gJ0,dZ0 (by simp),List.length_replicate,bF0,cZ0,hR0 h];show(UInt8.ofNat _).toNat=_
 rw[cS0 (n_ _ (by decide))]
theorem E7 (n m:Nat)(hm:m=9+zs n):(rC .u8 m fun _=>0).setIfInBounds 0 (.int .u8 ((128:Nat):Int))=rC .u8 m (WX (bf (tl n)) (1+zs n)):=by
 refine Re _ _ _ _ _ _ fun j hj=>?_
 unfold WX;by_cases h0:j=0
 ·subst h0;rw[i_ rfl,i_ (by omega),uk]
 ·rw[j_ h0];by_cases h:j<1+zs n
  ·rw[i_ h,show j=1+(j-1) by omega,ul n _ (by omega)]
  ·rw[j_ h]
structure ClH (wr w:World)(g0 g14 m c k:Nat)(v B:Nat->Nat):Prop where
 r0:Row wr g0 (hC true v B c) 200
 r:Row wr g14 (rC .u8 m (WX (bf (tl c)) (1+zs c+k))) 5
 below:Below w.heap.size w wr
theorem Ni (v B:Nat->Nat)(c g0:Nat)(w:World)(hc:c<1152921504606846976)(r0:Row w g0 (hC true v B c) 200):
  Calls Tryz.prog 171 #[.pointer (some ⟨g0,0,none⟩)] w fun e w'=>e= .returned (.string ⟨(tl c).toArray⟩)/\Below w.heap.size w w':=by
 have hz:(119-c%64)%64=zs c:=rfl
 have hz64:zs c<64:=by unfold zs;omega
 have htl:=PQ c;have hsc:8*c<18446744073709551616:=by omega
 go_enter func171,ntmps171
 iterate 2 go_step
 apply Za [] [_] trivial a_
 ·intro p;refine m_V (.string ⟨#[]⟩) (fun _=>rfl) ?_;refine Zd ?_;intro w2 hkw hrw hnew hdis;replace r0:=hkw.ro r0;have sb:=k_b hkw;clear hkw hrw hnew hdis;iterate 3 go_step
  apply Za [] [_,_,_,_,_] trivial a_
  ·intro p;refine m_W ?_;refine m_K 169 func169 #[.pointer (some ⟨g0,0,none⟩)] (fun w' hk=>Rf _ _ _ _ g0 w' (hk.row r0 (by simp))) ?_;refine m_V _ (Su _ _ _ _ rfl 119 (c%64) rfl rfl (by omega) (by omega)) ?_;refine m_V (.int .i64 (zs c:Nat)) (fun w'=>(YI _ _ _ _ rfl (119-c%64) 64 rfl rfl (by omega) w').trans (by rw[hz])) ?_;refine Zd ?_;intro w3 hkw hrw hnew hdis;replace r0:=hkw.ro r0;replace sb:=kk sb hkw;clear hkw hrw hnew hdis;clear hz;iterate 3 go_step
   apply Za [] [_,_,_,_,_] trivial a_
   ·intro p;refine m_W ?_;refine m_V _ (XK _ _ _ _ rfl 1 (zs c) rfl rfl (by omega)) ?_;refine m_V _ (XK _ _ _ _ rfl (1+zs c) 8 rfl rfl (by omega)) ?_;refine E5 _ _ rfl .i64 (1+zs c+8) rfl rfl (by omega) (m_W ?_);refine Tu 3 (fun g=>.slice (some ⟨g,0,none⟩) (1+zs c+8) (1+zs c+8)) (.inl rfl) (by omega) rfl (m_W ?_);refine Zd ?_;intro w4 hkw hrw hnew hdis;have n14:=hnew 3 rfl;have zr14:Row w4 (p 3) (rC .u8 (1+zs c+8) fun _=>0) 5:=hrw 7 (5,rC .u8 (1+zs c+8) fun _=>0) rfl;have d0x14:=l_l r0.lt n14;replace r0:=hkw.ro r0;have b14:=f_ sb.size n14;replace sb:=kk sb hkw;clear hkw hrw hnew hdis n14;generalize p 3=g14 at*;have r14:=zr14;clear zr14;iterate 3 go_step
    apply Za [(g14,5,rC .u8 (1+zs c+8) fun _=>0)] [_,_,_] ⟨r14,trivial⟩ (by simp<;>omega)
    ·intro p;refine m_W ?_;refine m_V _ (Cc _ _ _ rfl g14 0 (1+zs c+8) (1+zs c+8) rfl 0 rfl (by omega) _ dL0 fO0 0 rfl) ?_;refine Xu 0 5 _ _ rfl (0) rfl rfl .u8 (((128:Nat):Int)) rfl fO0 (by rw[Yg];omega) (rC .u8 (1+zs c+8) (WX (bf (tl c)) (1+zs c))) (E7 c _ (by omega)) ?_;simp only[Act.put];refine Zd ?_;intro w5 hkw hrw hnew hdis;have zr14:Row w5 (g14) (rC .u8 (1+zs c+8) (WX (bf (tl c)) (1+zs c))) 5:=hrw 0 (5,rC .u8 (1+zs c+8) (WX (bf (tl c)) (1+zs c))) rfl;replace r0:=hkw.ro r0;replace sb:=kk sb hkw;clear hkw hrw hnew hdis r14;have r14:=zr14;clear zr14;iterate 3 go_step
     apply Za [] [_,_,_,_,_,_] trivial a_
     ·intro p;refine m_W ?_;refine m_V (.pointer (some ⟨g0,0,none⟩)) (Yj _ rfl g0 0 rfl) ?_;refine m_V _ (Ze 200 _ 3 rfl g0 0 rfl _ cP0 _ rfl 0 cB0) ?_;refine m_D 73 r0 (.int .u64 (c:Nat)) (Wz _ _ _ _ 73 (by omega)) eK0 ?_;refine m_V _ (AP _ _ _ _ rfl 8 c _ rfl rfl rfl hsc) ?_;refine Zd ?_;intro w6 hkw hrw hnew hdis;replace r0:=hkw.ro r0;replace r14:=hkw.ro r14;replace sb:=kk sb hkw;clear hkw hrw hnew hdis;have H0:ClH w6 w g0 g14 (1+zs c+8) c 0 v B:=⟨r0,r14,sb⟩;have HX:Hid (g0≠g14/\w.heap.size<=g14):=⟨by omega,b14⟩;clear r0 r14 sb b14 d0x14
      go_wp2_with fail
      go_loopg [6,22] 8 (fun g s6 s22 wr=> ∃k:Nat,k+g=8/\s22= .int .i64 k/\ClH wr w g0 g14 (1+zs c+8) c k v B)
      case atStart=>exact⟨0,by omega,rfl,H0⟩
      case round=>
       obtain⟨k,hk,rfl,r0,r14,sb⟩:=hrel;obtain⟨x1,x2⟩:=HX.out;clear H0
       cases gk with
       |zero=>
        obtain rfl:k=8:=by omega
        clear hk
        go_step
        apply Za [] [_] trivial a_
        ·intro p;refine m_V _ (P6 _ _ _ _ rfl 8 8 rfl rfl false rfl) ?_;refine Zd ?_;intro w7 hkw hrw hnew hdis;replace r14:=hkw.ro r14;replace sb:=kk sb hkw;clear hkw hrw hnew hdis;iterate 8 go_step
         apply Za [] [_,_,_] trivial a_
         ·intro p;refine m_W ?_;refine XB (.string ⟨(tl c).toArray⟩) [] (fun w' hkw _=>xz _ rfl g14 0 (1+zs c+8) (1+zs c+8) (tl c) rfl (by omega) w' (hkw.row r14 (by simp)).r (fun j hj=>(YD _ _ _ _ (by omega)).trans (by rw[A_,V1 _ _ _ (by omega)]))) (m_W ?_);refine Zd ?_;intro w8 hkw hrw hnew hdis;replace sb:=kk sb hkw;clear hkw hrw hnew hdis;go_wp2;go_ret;exact⟨rfl,sb⟩
         ·rfl
        ·rfl
       |succ g=>
        have hN:bf (tl c) (1+zs c+k)=8*c/2^(8*(7-k))%256:=um c k (by omega)
        go_step
        apply Za [] [_] trivial a_
        ·intro p;refine m_V _ (P6 _ _ _ _ rfl k 8 rfl rfl true (c_ (by omega))) ?_;refine Zd ?_;intro w7 hkw hrw hnew hdis;replace r0:=hkw.ro r0;replace r14:=hkw.ro r14;replace sb:=kk sb hkw;clear hkw hrw hnew hdis;iterate 10 go_step
         apply Za [] [_,_] trivial a_
         ·intro p;refine m_W ?_;refine Zd ?_;intro w8 hkw hrw hnew hdis;replace r0:=hkw.ro r0;replace r14:=hkw.ro r14;replace sb:=kk sb hkw;clear hkw hrw hnew hdis;iterate 2 go_step
          apply Za [(g14,5,rC .u8 (1+zs c+8) (WX (bf (tl c)) (1+zs c+k)))] [_,_,_,_,_,_,_,_,_,_,_,_,_] ⟨r14,trivial⟩ (by simp<;>omega)
          ·intro p;refine m_W ?_;refine m_V _ (XK _ _ _ _ rfl 1 (zs c) rfl rfl (by omega)) ?_;refine m_V _ (XK _ _ _ _ rfl (1+zs c) k rfl rfl (by omega)) ?_;refine m_V _ (Su _ _ _ _ rfl 7 k rfl rfl (by omega) (by omega)) ?_;refine m_V _ (Mw _ _ _ _ rfl 8 (7-k) _ rfl rfl rfl (by omega)) ?_;refine m_V _ (AQ _ _ _ _ rfl (8*c) (8*(7-k)) .i64 rfl rfl (by omega)) ?_;refine m_V (.int .u8 (8*c/2^(8*(7-k))%256:Nat)) (Uz _ _ _ rfl .u64 .u8 gZ0 bX0 ((8*c/2^(8*(7-k)):Nat):Int) _ rfl (vR _ _ rfl)) ?_;refine m_V (.pointer (some ⟨g14,1+zs c+k,none⟩)) (Cc _ _ _ rfl g14 0 (1+zs c+8) (1+zs c+8) rfl (1+zs c+k) rfl (by omega) _ dL0 fO0 _ (by omega)) ?_;refine Xu 0 5 _ _ rfl (1+zs c+k) rfl rfl .u8 (((8*c/2^(8*(7-k))%256:Nat):Int)) rfl fO0 (by rw[Yg];omega) (rC .u8 (1+zs c+8) (WX (bf (tl c)) (1+zs c+k+1))) (Re _ _ _ _ _ _ (Tm _ _ _ hN _)) ?_;simp only[Act.put];refine Zd ?_;intro w9 hkw hrw hnew hdis;have zr14:Row w9 (g14) (rC .u8 (1+zs c+8) (WX (bf (tl c)) (1+zs c+k+1))) 5:=hrw 0 (5,rC .u8 (1+zs c+8) (WX (bf (tl c)) (1+zs c+k+1))) rfl;replace r0:=hkw.ro r0;replace sb:=kk sb hkw;clear hkw hrw hnew hdis r14;have r14:=zr14;clear zr14;iterate 2 go_step
           apply Za [] [_,_] trivial a_
           ·intro p;refine m_V _ (XK _ _ _ _ rfl k 1 rfl rfl (by omega)) ?_;refine Zd ?_;intro w10 hkw hrw hnew hdis;replace r0:=hkw.ro r0;replace r14:=hkw.ro r14;replace sb:=kk sb hkw;clear hkw hrw hnew hdis;go_wp2
            go_roundg g
            ·exact⟨k+1,by omega,rfl,r0,r14,sb⟩
            omega
           ·rfl
          ·rfl
         ·rfl
        ·rfl
     ·rfl
    ·rfl
   ·rfl
  ·rfl
 ·rfl
theorem A6 (V:Nat->Nat)(k j:Nat)(hk:k<8)(hj:j<4):bf (Mu V) (k*4+j)=V k/2^(8*(3-j))%256:=by
 unfold bf Mu;rw[s_,cZ0,hR0 (by omega)];show(UInt8.ofNat _).toNat=_
 rw[cS0 (n_ _ (by decide)),show(k*4+j)/4=k by omega,show(k*4+j)%4=j by omega]
structure SuH (wr w:World)(g3 g4 c i:Nat)(V B:Nat->Nat):Prop where
 r3:Row wr g3 (hC true V B c) 200
 r4:Row wr g4 (rC .u8 32 (WX (bf (Mu V)) i)) 164
 below:Below w.heap.size w wr
theorem E8 (l:List UInt8)(B:Nat->Nat)(g0:Nat)(w:World)(hl:l.length<576460752303423488)(hHS:HS l B)(r0:Row w g0 (hC true (sw l) B l.length) 200)(kT:KT w):
  Calls Tryz.prog 126 #[.pointer (some ⟨g0,0,none⟩)] w fun e w'=>e= .returned (.string ⟨(sha l).toArray⟩)/\Below w.heap.size w w':=by
 have hll:(l++tl l.length).length<1152921504606846976:=by
  rw[aS0,PQ]
  have:zs l.length<64:=by unfold zs;omega
  omega
 go_enter func126,ntmps126
 iterate 2 go_step
 apply Za [] [_] trivial a_
 ·intro p;refine m_V (.string ⟨#[]⟩) (fun _=>rfl) ?_;refine Zd ?_;intro w2 hkw hrw hnew hdis;replace r0:=hkw.ro r0;have sb:=k_b hkw;clear hkw hrw hnew hdis;iterate 4 go_step
  refine ZE ?_;refine q_W ?_;refine q_V _ (Cb _ _ _ _ rfl (some ⟨g0,0,none⟩) rfl rfl _ underlying166) ?_;refine q_V (.pointer (some ⟨g0,0,none⟩)) (Yj _ rfl g0 0 rfl) ?_;refine q_V _ (Ze 200 _ 0 rfl g0 0 rfl _ cP0 _ rfl 0 sizeOf4) ?_;refine ZF (by rfl) 4 _ rfl _ (0) rfl r0 (.bool true) (Wz _ _ _ _ 0 (by omega)) isAgg4 (q_W ?_);refine q_V _ (Zs _ _ rfl true rfl) ?_;refine q_P false (.bool false) ?_;intro w3 hqb;replace r0:=r0.belowAll hqb;replace sb:=b_o sb hqb;clear hqb;iterate 7 go_step
  apply Za [] [_,_,_,_,_] trivial a_
  ·intro p;refine m_W ?_;refine m_V (.pointer (some ⟨g0,0,none⟩)) (Yj _ rfl g0 0 rfl) ?_;refine XD 200 _ rfl _ (0) rfl r0 (by simp<;>omega) (hC true (sw l) B l.length) (xw _ _ _ _) _ cP0 rfl (by rw[Xz];exact PV) (m_W ?_);refine XV 200 rfl _ Hm (m_W ?_);refine Xl 7 200 _ _ rfl rfl rfl (hC true (sw l) B l.length) rfl (by rw[Xz];exact PV) (by simp only[Xz]) (xv _ _ _ _) ?_;simp only[Act.put];refine Zd ?_;intro w4 hkw hrw hnew hdis;have n3:=hnew 3 rfl;have zr3:Row w4 (p 3) (hC true (sw l) B l.length) 200:=hrw 7 (200,hC true (sw l) B l.length) rfl;have d0x3:=l_l r0.lt n3;replace r0:=hkw.ro r0;have b3:=f_ sb.size n3;replace sb:=kk sb hkw;clear hkw hrw hnew hdis n3;generalize p 3=g3 at*;have r3:=zr3;clear zr3
   go_wp2_with fail
   refine(Ni _ _ _ g0 _ (by omega) r0).mono ?_;rintro _ w5 ⟨rfl,bb⟩;replace r3:=r3.belowAll bb;replace sb:=b_o sb bb;clear bb r0
   dsimp only
   go_wp2_with fail
   refine(Ho l (tl l.length) B g3 _ hll hHS r3 (kT.below sb) (by omega)).mono ?_;rintro _ w6 ⟨rfl,B2,hHS2,r3,sk⟩;replace sb:=sb.trans (sk.below w.heap.size sb.size (by simpa using b3));clear sk hHS hHS2 kT
   dsimp only
   have HV:Hid (sha l=Mu (sw (l++tl l.length))):=rfl;generalize sw (l++tl l.length)=V at*;generalize (l++tl l.length).length=c at*;iterate 5 go_step
   apply Za [] [_] trivial a_
   ·intro p;refine XV 164 rfl _ EY (m_W ?_);refine Zd ?_;intro w7 hkw hrw hnew hdis;have n4:=hnew 0 rfl;have zr4:Row w7 (p 0) (rC .u8 32 fun _=>0) 164:=hrw 1 (164,rC .u8 32 fun _=>0) rfl;have d3x4:=l_l r3.lt n4;replace r3:=hkw.ro r3;have b4:=f_ sb.size n4;replace sb:=kk sb hkw;clear hkw hrw hnew hdis n4;generalize p 0=g4 at*;have r4:=zr4;clear zr4;have H0:SuH w7 w g3 g4 c (0*4) V B2:=⟨r3,by rw[cD0,PU];exact r4,sb⟩;have HX:Hid (g3≠g4/\w.heap.size<=g4):=⟨by omega,b4⟩;clear r3 r4 sb b3 b4 d3x4 hl hll
    go_wp2_with fail
    go_loopg [5,6,22,25] 8 (fun g s5 s6 s22 s25 wr=> ∃k:Nat,k+g=8/\s22= .int .i64 k/\SuH wr w g3 g4 c (k*4) V B2)
    case atStart=>exact⟨0,by omega,rfl,H0⟩
    case round=>
     obtain⟨k,hk,rfl,r3,r4,sb⟩:=hrel;obtain⟨x1,x2⟩:=HX.out;clear H0
     cases gk with
     |zero=>
      obtain rfl:k=8:=by omega
      clear hk
      go_step
      apply Za [] [_] trivial a_
      ·intro p;refine m_V _ (P6 _ _ _ _ rfl 8 8 rfl rfl false rfl) ?_;refine Zd ?_;intro w8 hkw hrw hnew hdis;replace r4:=hkw.ro r4;replace sb:=kk sb hkw;clear hkw hrw hnew hdis;iterate 8 go_step
       apply Za [] [_,_,_] trivial a_
       ·intro p;refine m_V _ (L0 164 5 _ 32 underlying164 fO0 rfl g4 0 rfl (by omega)) ?_;refine XB (.string ⟨(Mu V).toArray⟩) [] (fun w' hkw _=>xz _ rfl g4 0 32 32 (Mu V) rfl (V0 V) w' (hkw.row r4 (by simp)).r (fun j hj=>by rw[V0]at hj;exact(YD _ _ _ _ (by omega)).trans (by rw[A_,V1 _ _ _ (by omega)]))) (m_W ?_);refine Zd ?_;intro w9 hkw hrw hnew hdis;replace sb:=kk sb hkw;clear hkw hrw hnew hdis;go_wp2;go_ret;exact⟨by rw[HV.out];rfl,sb⟩
       ·rfl
      ·rfl
     |succ g=>
      have hk8:k<8:=by omega
      go_step
      apply Za [] [_] trivial a_
      ·intro p;refine m_V _ (P6 _ _ _ _ rfl k 8 rfl rfl true (c_ (by omega))) ?_;refine Zd ?_;intro w8 hkw hrw hnew hdis;replace r3:=hkw.ro r3;replace r4:=hkw.ro r4;replace sb:=kk sb hkw;clear hkw hrw hnew hdis;iterate 10 go_step
       apply Za [] [_,_] trivial a_
       ·intro p;refine m_W ?_;refine Zd ?_;intro w9 hkw hrw hnew hdis;replace r3:=hkw.ro r3;replace r4:=hkw.ro r4;replace sb:=kk sb hkw;clear hkw hrw hnew hdis;have H1:SuH w9 w g3 g4 c (k*4+0) V B2:=⟨r3,r4,sb⟩;clear r3 r4 sb x1 x2
        go_wp2_with fail
        go_loopg [6,25] 4 (fun m s6 s25 wq=> ∃j:Nat,j+m=4/\s25= .int .i64 j/\SuH wq w g3 g4 c (k*4+j) V B2)
        case atStart=>exact⟨0,by omega,rfl,H1⟩
        case round=>
         obtain⟨j,hj,rfl,r3,r4,sb⟩:=hrel;obtain⟨x1,x2⟩:=HX.out;clear H1
         cases gk with
         |zero=>
          obtain rfl:j=4:=by omega
          clear hj
          go_step
          apply Za [] [_] trivial a_
          ·intro p;refine m_V _ (P6 _ _ _ _ rfl 4 4 rfl rfl false rfl) ?_;refine Zd ?_;intro w10 hkw hrw hnew hdis;replace r3:=hkw.ro r3;replace r4:=hkw.ro r4;replace sb:=kk sb hkw;clear hkw hrw hnew hdis;iterate 7 go_step
           apply Za [] [_,_] trivial a_
           ·intro p;refine m_V _ (XK _ _ _ _ rfl k 1 rfl rfl (by omega)) ?_;refine Zd ?_;intro w11 hkw hrw hnew hdis;replace r3:=hkw.ro r3;replace r4:=hkw.ro r4;replace sb:=kk sb hkw;clear hkw hrw hnew hdis;go_wp2
            go_roundg g
            ·exact⟨k+1,by omega,rfl,r3,by rw[show(k+1)*4=k*4+4 by omega];exact r4,sb⟩
            omega
           ·rfl
          ·rfl
         |succ m=>
          have hN:bf (Mu V) (k*4+j)=V k/2^(8*(3-j))%256:=A6 V k j hk8 (by omega)
          go_step
          apply Za [] [_] trivial a_
          ·intro p;refine m_V _ (P6 _ _ _ _ rfl j 4 rfl rfl true (c_ (by omega))) ?_;refine Zd ?_;intro w10 hkw hrw hnew hdis;replace r3:=hkw.ro r3;replace r4:=hkw.ro r4;replace sb:=kk sb hkw;clear hkw hrw hnew hdis;iterate 10 go_step
           apply Za [] [_,_] trivial a_
           ·intro p;refine m_W ?_;refine Zd ?_;intro w11 hkw hrw hnew hdis;replace r3:=hkw.ro r3;replace r4:=hkw.ro r4;replace sb:=kk sb hkw;clear hkw hrw hnew hdis;iterate 2 go_step
            apply Za [(g4,164,rC .u8 32 (WX (bf (Mu V)) (k*4+j)))] [_,_,_,_,_,_,_,_,_,_,_,_,_,_,_] ⟨r4,trivial⟩ (by simp<;>omega)
            ·intro p;refine m_W ?_;refine m_V _ (Mw _ _ _ _ rfl k 4 _ rfl rfl rfl (by omega)) ?_;refine m_V _ (XK _ _ _ _ rfl (k*4) j rfl rfl (by omega)) ?_;refine m_V _ (Ze 200 _ 1 rfl g3 0 rfl _ cP0 _ rfl 7 sizeOf197) ?_;refine m_V _ (xy _ _ _ rfl g3 1 rfl k 8 rfl (by omega) _ bZ0 cI0 _ rfl) ?_;refine m_D (1+k) r3 (.int .u32 (V k:Nat)) (AW _ _ _ _ _ (by omega)) eI0 ?_;refine m_V _ (Su _ _ _ _ rfl 3 j rfl rfl (by omega) (by omega)) ?_;refine m_V _ (Mw _ _ _ _ rfl 8 (3-j) _ rfl rfl rfl (by omega)) ?_;refine m_V _ (Qj _ _ _ _ rfl (V k) (8*(3-j)) .i64 rfl rfl (by omega)) ?_;refine m_V (.int .u8 (V k/2^(8*(3-j))%256:Nat)) (Uz _ _ _ rfl .u32 .u8 gI0 bX0 ((V k/2^(8*(3-j)):Nat):Int) _ rfl (vR _ _ rfl)) ?_;refine m_V _ (Zw 164 _ _ rfl (g4) rfl (k*4+j) 32 rfl (by omega) _ underlying164 fO0) ?_;refine Xu 0 5 _ _ rfl (k*4+j) rfl rfl .u8 (((V k/2^(8*(3-j))%256:Nat):Int)) rfl fO0 (by rw[Yg];omega) (rC .u8 32 (WX (bf (Mu V)) (k*4+j+1))) (Re _ _ _ _ _ _ (Tm _ _ _ hN _)) ?_;simp only[Act.put];refine Zd ?_;intro w12 hkw hrw hnew hdis;have zr4:Row w12 (g4) (rC .u8 32 (WX (bf (Mu V)) (k*4+j+1))) 164:=hrw 0 (164,rC .u8 32 (WX (bf (Mu V)) (k*4+j+1))) rfl;replace r3:=hkw.ro r3;replace sb:=kk sb hkw;clear hkw hrw hnew hdis r4;have r4:=zr4;clear zr4;iterate 2 go_step
             apply Za [] [_,_] trivial a_
             ·intro p;refine m_V _ (XK _ _ _ _ rfl j 1 rfl rfl (by omega)) ?_;refine Zd ?_;intro w13 hkw hrw hnew hdis;replace r3:=hkw.ro r3;replace r4:=hkw.ro r4;replace sb:=kk sb hkw;clear hkw hrw hnew hdis;go_wp2
              go_roundg m
              ·exact⟨j+1,by omega,rfl,r3,r4,sb⟩
              omega
             ·rfl
            ·rfl
           ·rfl
          ·rfl
       ·rfl
      ·rfl
   ·rfl
  ·rfl
 ·rfl
theorem E9 (l:List UInt8)(w:World)(hl:l.length<576460752303423488)(kT:KT w):
  Calls Tryz.prog 74 #[.string ⟨l.toArray⟩] w fun e w'=>e= .returned (.string ⟨(sha l).toArray⟩)/\Below w.heap.size w w':=by
 have k0:=kT.lt
 go_enter func74,ntmps74
 go_wp2_with fail
 refine(E6 _).mono ?_;rintro _ w2 ⟨g,rfl,hg,r,sb⟩
 dsimp only
 go_wp2_with fail
 refine(Ho [] l (fun _=>0) g _ (by simp;omega) xA r (kT.below sb) (by omega)).mono ?_;rintro _ w3 ⟨rfl,B2,hHS2,r,sk⟩;replace sb:=sb.trans (sk.below w.heap.size sb.size (by simpa using hg));clear sk;rw[List.nil_append]at hHS2 r
 dsimp only
 go_wp2_with fail
 refine(E8 l B2 g _ hl hHS2 r (kT.below sb)).mono ?_;rintro _ w4 ⟨rfl,bb⟩;replace sb:=b_o sb bb
 dsimp only
 go_wp2;go_ret;exact⟨rfl,sb⟩
open Go.ChangeShapes Go.WideShapes Go.ChangeAt Go.RowKit
def lk:List (String×DataW Unit):=[("sacristy/sha.constants",Rows.laid_sacristy_sha_constants)]
theorem Cd:Tryz.prog.globalNamed "sacristy/sha.constants" =some 0:=by kernel_rfl
theorem xB:(Tryz.prog.globals[0]?).map (·.type)=some 228:=by kernel_rfl
theorem A7:Tryz.prog.cellsOf 196=1:=by kernel_rfl
theorem Hq:Tryz.prog.cellsOf 228=64:=by kernel_rfl
theorem Da (os:Os)(args:Array Value):laidMetH Tryz.prog lk ((World.doorLaid Tryz.prog 14 os).forCall (fun _ _=>0) ⟨#[],args,[]⟩).memory:=
 laidMetH_of_parts3 (fuel:=8) (laidMet_of_run' 8 (by kernel_rfl) (by kernel_rfl)) (by kernel_rfl) (by kernel_rfl)
theorem xC:(Rows.laid_sacristy_sha_constants:DataW Unit)=Lib.tabData .u32 (kL.map fun(n:Nat)=>(n:Int)):=by kernel_rfl
theorem L4 {W:World}(h:laidMetH Tryz.prog lk W):KT W:=by
 rw[MakeChecks.laidMetH_plain _ _ _ (by kernel_rfl)]at h;unfold lk at h;rw[xC]at h;have hT:=Lib.tabIs_of_head Cd xB dD0 gI0 A7 Hq h
 have hc: ∀i,i<64->W.cell? ⟨0,i,none⟩=some (.int .u32 (kf i:Nat)):=by
  intro i hi
  have hl:i<(kL.map fun(n:Nat)=>(n:Int)).length:=by rw[List.length_map];exact hi
  rw[hT.cell Cd i hl];unfold kf;rw[s_,cZ0,s_]
  cases kL[i]?<;>rfl
 obtain⟨_,cs,t,hR⟩:=VZ (hc 0 (by decide));exact⟨cs,t,hR,fun i hi=>by rw[<-hR.cell];exact hc i hi⟩
