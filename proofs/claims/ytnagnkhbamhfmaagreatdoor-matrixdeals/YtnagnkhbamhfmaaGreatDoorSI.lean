import Derived.Test.YtnagnkhbamhfmaaGreatDoorSH
import Derived.Laws.IdiomCopy
import Derived.Laws.MakeOwn
import Derived.Test.YtnagnkhbamhfmaaGreatDoorGU
import Derived.Test.YtnagnkhbamhfmaaGreatDoorTie
import Derived.Test.YtnagnkhbamhfmaaGreatDoorCards
import Derived.LaidMore
import Derived.Lib.LaidTab
import Derived.SevenTiedAt
set_option maxRecDepth 100000
set_option maxHeartbeats 8000000
namespace Go.Proofs.YtnagnkhbamhfmaaGreatDoor
set_option linter.all false
open Go.RowKit
open Go.Proofs.Tryz
def hv (q:Bool)(v B:Nat->Nat)(c:Nat)(i:Nat):Value:=
 if i=0 then .bool q else if i<9 then .int .u32 (v (i-1):Nat)else if i<73 then .int .u8 (B (i-9):Nat)else .int .u64 c
def hC (q:Bool)(v B:Nat->Nat)(c:Nat):Array Value:=Array.ofFn (n:=74) fun i=>hv q v B c i
theorem Xq (q:Bool)(v B:Nat->Nat)(c:Nat):(hC q v B c).size=74:=by simp[hC]
theorem Wz (q:Bool)(v B:Nat->Nat)(c i:Nat)(h:i<74):(hC q v B c)[i]?=some (hv q v B c i):=by simp[hC,h]
theorem N6 {q:Bool}{v B:Nat->Nat}{c:Nat}{a:Array Value}(hs:a.size=74)(h: ∀i,i<74->a[i]?=some (hv q v B c i)):a=hC q v B c:=by
 apply C_;intro i;by_cases hi:i<74
 ·rw[h i hi,Wz _ _ _ _ _ hi]
 ·rw[h_ (by omega),h_ (by rw[Xq];omega)]
theorem yr (q:Bool)(v B:Nat->Nat)(c:Nat):(hC q v B c).all (·.oneCell')=true:=by
 rw[gL0];intro i hi;have:(hC q v B c)[i]=hv q v B c i:=by simp[hC]
 rw[this];unfold hv
 split
 ·rfl
 ·split
  ·rfl
  ·split<;>rfl
theorem Ea {q:Bool}{v v' B B':Nat->Nat}{c:Nat}(hvv: ∀i,i<8->v i=v' i)(hb: ∀i,i<64->B i=B' i):hC q v B c=hC q v' B' c:=by
 refine N6 (Xq _ _ _ _) fun i hi=>?_
 rw[Wz _ _ _ _ _ hi];unfold hv;by_cases h0:i=0
 ·rw[j_ h0,j_ h0]
 rw[i_ h0,i_ h0];by_cases h1:i<9
 ·rw[j_ h1,j_ h1,hvv _ (by omega)]
 rw[i_ h1,i_ h1];by_cases h2:i<73
 ·rw[j_ h2,j_ h2,hb _ (by omega)]
 ·rw[i_ h2,i_ h2]
theorem vc (q:Bool)(v B:Nat->Nat)(c:Nat): ∀j x,(rC .u32 8 v).toList[j]?=some x->(hC q v B c)[1+j]?=some x:=by
 intro j x hx
 have hj:j<8:=by
  rcases aC0 j 8 with h|h
  ·exact h
  ·rw[gS0 (by rw[A_,Yc];exact h)]at hx;cases hx
 rw[o_,Yx _ _ _ _ hj]at hx;rw[Wz _ _ _ _ _ (by omega),<-hx];unfold hv;rw[i_ (by omega),j_ (by omega),aN0]
theorem vd (q:Bool)(v B:Nat->Nat)(c:Nat): ∀j x,(rC .u8 64 B).toList[j]?=some x->(hC q v B c)[9+j]?=some x:=by
 intro j x hx
 have hj:j<64:=by
  rcases aC0 j 64 with h|h
  ·exact h
  ·rw[gS0 (by rw[A_,Yc];exact h)]at hx;cases hx
 rw[o_,Yx _ _ _ _ hj]at hx;rw[Wz _ _ _ _ _ (by omega),<-hx];unfold hv;rw[i_ (by omega),i_ (by omega),j_ (by omega),aN0]
theorem Ag (q:Bool)(v B:Nat->Nat)(c k:Nat)(h:k<8):(hC q v B c)[1+k]?=some (.int .u32 (v k:Nat)):=by
 rw[Wz _ _ _ _ _ (by omega)];unfold hv;rw[i_ (by omega),j_ (by omega),aN0]
theorem yt (q:Bool)(v B:Nat->Nat)(c:Nat): ∀j x,(hC q v B c).toList[j]?=some x->(hC q v B c)[0+j]?=some x:=by
 intro j x hx;rw[B_,<-o_];exact hx
theorem Ah (q:Bool)(v v' B:Nat->Nat)(c:Nat):SG (hC q v B c) 1 (rC .u32 8 v').toList=hC q v' B c:=by
 have hl:(rC .u32 8 v').toList.length=8:=by rw[A_,Yc]
 refine N6 (by rw[Tx,Xq]) fun i hi=>?_
 rw[Ue _ _ _ _ (by rw[hl,Xq];omega),hl];by_cases h:1<=i/\i<1+8
 ·rw[j_ h,o_,Yx _ _ _ _ (by omega)];unfold hv;rw[i_ (by omega),j_ (by omega)]
 ·rw[i_ h,Wz _ _ _ _ _ hi];unfold hv;by_cases h0:i=0
  ·rw[j_ h0,j_ h0]
  ·rw[i_ h0,i_ h0,i_ (show ¬i<9 by omega),i_ (show ¬i<9 by omega)]
theorem Ai (q:Bool)(v B:Nat->Nat)(c d:Nat):(hC q v B c).setIfInBounds 73 (.int .u64 (d:Nat))=hC q v B d:=by
 refine N6 (by rw[eI0,Xq]) fun i hi=>?_
 rw[U_];by_cases h:73=i
 ·subst h;rw[j_ rfl,j_ (by rw[Xq];omega)];rfl
 ·rw[i_ h,Wz _ _ _ _ _ hi];unfold hv;by_cases h0:i=0
  ·rw[j_ h0,j_ h0]
  ·rw[i_ h0,i_ h0];by_cases h1:i<9
   ·rw[j_ h1,j_ h1]
   ·rw[i_ h1,i_ h1,j_ (by omega),j_ (by omega)]
def b8s (l:List UInt8):List Value:=l.map fun b=>.int .u8 (b.toNat:Int)
theorem UR (l:List UInt8):(b8s l).length=l.length:=by simp[b8s]
theorem Aj (l:List UInt8)(j:Nat)(h:j<l.length):(b8s l)[j]?=some (.int .u8 (bf l j:Nat)):=by
 unfold b8s bf;rw[cV0,u_,cQ0 h];rfl
theorem Ak (l:List UInt8): ∀x∈b8s l,x.oneCell'=true:=by
 intro x hx;obtain⟨b,_,rfl⟩:=eZ0.1 hx;rfl
def cpB (B:Nat->Nat)(F:Nat)(l:List UInt8)(i:Nat):Nat:=if F<=i/\i<F+l.length then bf l (i-F)else B i
theorem ID (q:Bool)(v B:Nat->Nat)(c F:Nat)(l:List UInt8)(h:F+l.length<=64):SG (hC q v B c) (9+F) (b8s l)=hC q v (cpB B F l) c:=by
 refine N6 (by rw[Tx,Xq]) fun i hi=>?_
 rw[Ue _ _ _ _ (by rw[UR,Xq];omega),UR];unfold hv cpB;by_cases h1:9+F<=i/\i<9+F+l.length
 ·rw[j_ h1,Aj _ _ (by omega),i_ (by omega),i_ (by omega),j_ (by omega),j_ (by omega),show i-9-F=i-(9+F) by omega]
 ·rw[i_ h1,Wz _ _ _ _ _ hi];unfold hv;by_cases h0:i=0
  ·rw[j_ h0,j_ h0]
  rw[i_ h0,i_ h0];by_cases h2:i<9
  ·rw[j_ h2,j_ h2]
  rw[i_ h2,i_ h2];by_cases h3:i<73
  ·rw[j_ h3,j_ h3,i_ (by omega)]
  ·rw[i_ h3,i_ h3]
theorem Pr:(prog.info? 200).map (·.size)=some 74:=by kernel_rfl
theorem IE (w:World):(zeroValue 200).run prog w= .ok (.agg (hC false (fun _=>0) (fun _=>0) 0)) w:=by
 have h:(prog.info? 200).map (fun i=>(i.zero,i.size))=some (some (.agg (hC false (fun _=>0) (fun _=>0) 0)),74):=by kernel_rfl
 exact(Q_ h).1 w
section
variable {P:Program}{o:Oper}{ρ:Operand->Value}
theorem N7 (t e:TypeId)(x lo:Operand)(n:Nat)(hu:P.underlying t=some (.array n e))(hz: ∀w,(sizeOf e).run P w= .ok 1 w)(ho:o.op= .slice t x (some lo) none none)(g off l:Nat)(hx:ρ x= .pointer (some ⟨g,off,none⟩))(hl:ρ lo= .int .i64 l)
  (hn:l<n)(w:World):(execOp ρ o).run P w= .ok (.value (.slice (some ⟨g,off+l,none⟩) (n-l) (n-l))) w:=by
 have hA:P.arrayLen t=n:=by simp[Program.arrayLen,hu]
 have hE:P.elem t=e:=by simp[Program.elem,hu]
 have hr:=run_sliceAt_array_l (P:=P) w t ⟨g,off,none⟩ (by rw[hA,hE];exact hu) .i64 l (by omega) (by rw[hA];omega);unfold execOp;simp only[ho,hx,hl,aS0,dO0,p_];rw[hr,hA,hE,hz];unfold slicedAt;simp only[q_,k_];rw[i_ (by omega),M_,Addr.add_mid];rfl
theorem Lt (t e:TypeId)(x:Operand)(n:Nat)(hu:P.underlying t=some (.array n e))(hz: ∀w,(sizeOf e).run P w= .ok 1 w)(ho:o.op= .slice t x none none none)(g off:Nat)(hx:ρ x= .pointer (some ⟨g,off,none⟩))
  (hn:0<n)(w:World):(execOp ρ o).run P w= .ok (.value (.slice (some ⟨g,off,none⟩) n n)) w:=by
 have hA:P.arrayLen t=n:=by simp[Program.arrayLen,hu]
 have hE:P.elem t=e:=by simp[Program.elem,hu]
 have hr:=run_sliceAt_array_all (P:=P) w t ⟨g,off,none⟩ (by rw[hA,hE];exact hu);unfold execOp;simp only[ho,hx,dO0,p_];rw[hr,hA,hE,hz];unfold slicedAt;simp only[k_];rw[i_ (by omega),cD0,Addr.add_mid];rfl
theorem Lu (l:List UInt8)(k:Nat)(h:k<=l.length):(⟨l.toArray⟩:ByteArray).extract k (⟨l.toArray⟩:ByteArray).size=⟨(l.drop k).toArray⟩:=by
 apply ByteArray.ext;rw[gH0];simp[ByteArray.size];exact gI0 (by simp)
theorem Eb (t:TypeId)(x lo:Operand)(hu:P.underlying t=some .string)(ho:o.op= .slice t x (some lo) none none)(L:List UInt8)(l:Nat)(hx:ρ x= .string ⟨L.toArray⟩)(hl:ρ lo= .int .i64 l)(hn:l<=L.length)(w:World):
  (execOp ρ o).run P w= .ok (.value (.string ⟨(L.drop l).toArray⟩)) w:=by
 have hs:(⟨L.toArray⟩:ByteArray).size=L.length:=by simp[ByteArray.size]
 have h1:(Instr.sliceAt t (.string ⟨L.toArray⟩) (some (.int .i64 l)) none none).run P w= .ok (.string ⟨(L.drop l).toArray⟩) w:=by
  rw[hV0 w t _ _ _ _ hu,run_slice_string_l w t ⟨L.toArray⟩ hu .i64 l (by omega) (by rw[hs];omega),q_,Lu L l hn]
 unfold execOp;simp only[ho,hx,hl,aS0,dO0,p_,h1,k_];rfl
end
section
variable {P:Program}{olds:W3}{p:Nat->Nat}{W:World}{F:Act->Ct->Prop}{n:Nat}{l:List Oper}{pl:List Sp}{a:Act}{ct:Ct}{o:Oper}
theorem Ec (k:Nat)(c:Array Value)(v:Value){t:TypeId}{old:Array Value}(hct:ct k=some (t,old))(hst: ∀w,Row w (Z8 olds p k) old t-> ∃w2,(execOp a.eval o).run P w= .ok (.value v) w2/\Row w2 (Z8 olds p k) c t/\Only (Z8 olds p k) w w2)
  (h:MX P olds p W F (n+1) l pl (a.put o.dst v) (XU ct k (t,c))):MX P olds p W F n (o::l) ((fun _=>v,[],none,[(k,c)])::pl) a ct:=by
 refine⟨⟨⟨.inl ⟨v,rfl⟩,fun x hx=>?_,fun w hk hrw=>?_⟩,?_⟩⟩
 ·obtain rfl:x=(k,c):=D_.1 hx;exact⟨_,hct⟩
 ·obtain⟨w2,hr,r2,ho⟩:=hst w (hrw k (bU0 _ (D_.2 rfl)) _ hct);rw[hr];refine⟨ho.os,ho.tape,ho.output,by rw[ho.size];exact c_ _,fun b _ hne=>ho.block b (hne (k,c) (D_.2 rfl)),fun x hx y hy=>?_,.inl ⟨rfl,rfl⟩⟩;obtain rfl:x=(k,c):=D_.1 hx;obtain rfl:(t,old)=y:=aI0 (hct.symm.trans hy);exact r2
 ·rw[LQ n _ _ k c ct hct];exact h.out
theorem Ps (w:World)(dT sT ty e:TypeId)(g off m cap:Nat)(L:List UInt8)(hd:P.underlying dT=some (.slice e))(hz: ∀w,(sizeOf e).run P w= .ok 1 w)(n:Nat)(hn:min L.length m=n)
  (hth:w.there g off n):(Builtin.copy_ #[dT,sT] ty #[.slice (some ⟨g,off,none⟩) m cap,.string ⟨L.toArray⟩]).run P w= .ok (goInt n) (w.setCells g off (b8s (L.take n))):=by
 have hs:(⟨L.toArray⟩:ByteArray).size=L.length:=by simp[ByteArray.size]
 have hle:n<=L.length:=by omega
 have hcells:((⟨L.toArray⟩:ByteArray).extract 0 n).data.map (fun b=>Value.int .u8 (b.toNat:Int))=(b8s (L.take n)).toArray:=by
  rw[gH0];simp[b8s]
 have hlen:(b8s (L.take n)).length=n:=by rw[UR,dT0];omega
 have hst:=run_storeCells_cells (P:=P) g off (b8s (L.take n)) 0 w (fun j hj=>(hth j (by omega)).1) (fun j hj=>(hth j (by omega)).2) (Ak _);rw[cC0]at hst
 have hmin:Nat.min (⟨L.toArray⟩:ByteArray).size m=n:=by rw[hs];exact hn
 simp only[Builtin.copy_,List.getElem?_toArray,List.getElem?_cons_zero,gG0];simp only[p_,V_ hd,k_,Builtin.lenOf,Y_,hz,Builtin.firstCells,hmin,hcells,hst]
theorem N8 (k:Nat)(d s:Operand)(dT sT e:TypeId)(ho:o.op= .call {callee:=.builtin .copy,args:=#[d,s],argTypes:=#[dT,sT]})(hud:P.underlying dT=some (.slice e))(hz: ∀w,(sizeOf e).run P w= .ok 1 w)
  (off m cap:Nat){t:TypeId}{old:Array Value}(hct:ct k=some (t,old))(hx:a.eval d= .slice (some ⟨Z8 olds p k,off,none⟩) m cap)(L:List UInt8)(hy:a.eval s= .string ⟨L.toArray⟩)(q:Nat)(hq:min L.length m=q)
  (hold:off+q<=old.size)(c:Array Value)(hc:SG old off (b8s (L.take q))=c)
  (h:MX P olds p W F (n+1) l pl (a.put o.dst (.int .i64 (q:Nat))) (XU ct k (t,c))):MX P olds p W F n (o::l) ((fun _=>.int .i64 (q:Nat),[],none,[(k,c)])::pl) a ct:=by
 subst hc;refine Ec k _ (.int .i64 (q:Nat)) hct (fun w hr=>⟨w.setCells (Z8 olds p k) off (b8s (L.take q)),?_,Row.setCells _ _ hr,XW _ _ _ _⟩) h;have:=Ps (P:=P) w dT sT o.type e (Z8 olds p k) off m cap L hud hz q hq (W7 hr off q hold);unfold execOp;simp only[ho];simp[resolve,invoke,builtin,hx,hy,this,goInt]
end
theorem IF (l:List UInt8)(n i:Nat)(h:i<n):bf (l.take n) i=bf l i:=by
 unfold bf;rw[u_,u_,List.getElem?_take_of_lt h]
theorem Al (L:List UInt8)(B:Nat->Nat)(F j:Nat)(hF:F<64)(hle:64*(j+1)<=L.length)(hB: ∀i,i<F->B i=bf L (64*j+i)):
  ∀i,i<64->cpB B F ((L.drop (64*j+F)).take (64-F)) i=bf L (64*j+i):=by
 intro i hi
 have hl:((L.drop (64*j+F)).take (64-F)).length=64-F:=by rw[dT0,cG0];omega
 unfold cpB;rw[hl];by_cases h:F<=i
 ·rw[j_ (by omega),IF _ _ _ (by omega),Iw,show 64*j+F+(i-F)=64*j+i by omega]
 ·rw[i_ (by omega),hB i (by omega)]
theorem Am (L:List UInt8)(B:Nat->Nat)(F j q:Nat)(hq:64*j+F+q=L.length)(hB: ∀i,i<F->B i=bf L (64*j+i)):
  ∀i,i<F+q->cpB B F ((L.drop (64*j+F)).take q) i=bf L (64*j+i):=by
 intro i hi
 have hl:((L.drop (64*j+F)).take q).length=q:=by rw[dT0,cG0];omega
 unfold cpB;rw[hl];by_cases h:F<=i
 ·rw[j_ (by omega),IF _ _ _ (by omega),Iw,show 64*j+F+(i-F)=64*j+i by omega]
 ·rw[i_ (by omega),hB i (by omega)]
theorem yw {B:Nat->Nat}(h: ∀i,B i<256)(F:Nat)(l:List UInt8)(i:Nat):cpB B F l i<256:=by
 unfold cpB
 split
 ·exact yp _ _
 ·exact h i
structure HS (l:List UInt8)(B:Nat->Nat):Prop where
 b: ∀i,i<l.length%64->B i=bf l (64*(l.length/64)+i)
 lt: ∀i,B i<256
theorem Ra (q:Bool)(v B:Nat->Nat)(c g0:Nat)(w:World)(r0:Row w g0 (hC q v B c) 200):
  Calls prog 169 #[.pointer (some ⟨g0,0,none⟩)] w fun e w'=>e= .returned (.int .i64 (c%64:Nat))/\Below w.heap.size w w':=by
 go_enter func169,ntmps169
 iterate 2 go_step
 apply Za [] [_] trivial a_
 ·intro p;refine Ze (.int .i64 0) (fun _=>rfl) ?_;simp only[pv];refine Zf ?_;intro w2 hkw hrw hnew hdis;replace r0:=hkw.ro r0;have sb:=k_b hkw;clear hkw hrw hnew hdis;iterate 3 go_step
  refine ZB ?_;refine q_m ?_;simp only[pv];refine q_v (.pointer (some ⟨g0,0,none⟩)) (Yf _ rfl g0 0 rfl) ?_;simp only[pv];refine q_v _ (Zh 200 _ 3 rfl g0 0 rfl _ cL0 _ rfl 0 cA0) ?_;simp only[pv];refine ZS (by rfl) 55 _ rfl _ (73) rfl r0 (.int .u64 (c:Nat)) (Wz _ _ _ _ 73 (by omega)) eG0 ?_;simp only[pv];refine q_v _ (Ab _ _ _ _ rfl c 64 rfl rfl (by omega)) ?_;simp only[pv];refine q_v (.int .i64 (c%64:Nat)) (Uu _ _ _ rfl .u64 .i64 dV0 bS0 ((c%64:Nat):Int) _ rfl (wrap_i64 _ (by omega))) ?_;refine q_a ?_;simp only[pv];refine ZR ?_;intro w3 hqb;replace sb:=b_o sb hqb;clear hqb;go_wp2;go_ret;exact⟨rfl,sb⟩
 ·rfl
structure AdH (wr w:World)(g N:Nat)(L:List UInt8)(j F:Nat)(B:Nat->Nat):Prop where
 r:Row wr g (hC true (ab (bf L) j) B N) 200
 b: ∀i,i<F->B i=bf L (64*j+i)
 lt: ∀i,B i<256
 kept:Kept [g] w wr
theorem Ed (L:List UInt8)(B:Nat->Nat)(N m f0 ls g0:Nat)(w:World)(hN:L.length=N)(hNl:N<1152921504606846976)(hm:N=64*m+f0+ls)(hf:f0<64)(hB: ∀i,i<f0->B i=bf L (64*m+i))(hlt: ∀i,B i<256)
  (r0:Row w g0 (hC true (ab (bf L) m) B (64*m+f0)) 200)(kT:KT w)(hg:0≠g0):
  Calls prog 125 #[.pointer (some ⟨g0,0,none⟩),.string ⟨(L.drop (64*m+f0)).toArray⟩] w fun e w'=>e= .returned (.tuple #[])/\
   ∃B',HS L B'/\Row w' g0 (hC true (ab (bf L) (N/64)) B' N) 200/\Kept [g0] w w':=by
 have sk:=Kept.refl [g0] w
 have hls:(L.drop (64*m+f0)).length=ls:=by rw[cG0];omega
 have hsz:(⟨(L.drop (64*m+f0)).toArray⟩:ByteArray).size=ls:=by simp only[ByteArray.size,List.size_toArray];exact hls
 have hr0:(64*m+f0)%64=f0:=by omega
 go_enter func125,ntmps125
 iterate 3 go_step
 refine ZB ?_;refine q_m ?_;simp only[pv];refine q_v _ (Dm _ _ _ _ rfl (some ⟨g0,0,none⟩) rfl rfl _ underlying166) ?_;refine q_m ?_;refine q_m ?_;simp only[pv];refine q_v (.pointer (some ⟨g0,0,none⟩)) (Yf _ rfl g0 0 rfl) ?_;simp only[pv];refine q_v _ (Zh 200 _ 0 rfl g0 0 rfl _ cL0 _ rfl 0 sizeOf4) ?_;simp only[pv];refine ZS (by rfl) 4 _ rfl _ (0) rfl r0 (.bool true) (Wz _ _ _ _ 0 (by omega)) isAgg4 ?_;simp only[pv];refine q_v _ (Zz _ _ rfl true rfl) ?_;refine q_p false (.bool false) ?_;simp only[pv];refine ZR ?_;intro w2 hqb;replace r0:=r0.belowAll hqb;replace sk:=sk.on hqb;clear hqb;iterate 7 go_step
 apply Za [] [_,_,_] trivial a_
 ·intro p;refine m_m ?_;simp only[pv];refine m_k 169 func169 #[.pointer (some ⟨g0,0,none⟩)] (fun w' hk=>Ra _ _ _ _ g0 w' (hk.row r0 (by simp))) ?_;refine m_a ?_;simp only[pv];refine Zf ?_;intro w3 hkw hrw hnew hdis;replace r0:=hkw.ro r0;replace sk:=sk.trans hkw (by simp);clear hkw hrw hnew hdis;rw[hr0];iterate 3 go_step
  apply Za [(g0,200,hC true (ab (bf L) m) B (64*m+f0))] [_,_,_,_,_,_,_,_,_,_,_] ⟨r0,trivial⟩ (by simp<;>omega)
  ·intro p;refine m_m ?_;simp only[pv];refine Ze (.pointer (some ⟨g0,0,none⟩)) (Yf _ rfl g0 0 rfl) ?_;simp only[pv];refine Ze _ (Zh 200 _ 3 rfl g0 0 rfl _ cL0 _ rfl 0 cA0) ?_;simp only[pv];refine YY 0 55 _ rfl (73) rfl rfl (.int .u64 (64*m+f0:Nat)) (Wz _ _ _ _ 73 (by omega)) eG0 ?_;refine m_m ?_;simp only[pv];refine Ze (.int .i64 (ls:Nat)) (fun w'=>(Dl _ _ rfl ⟨(L.drop (64*m+f0)).toArray⟩ rfl N_ w').trans (by rw[hsz])) ?_;simp only[pv];refine Ze (.int .u64 (ls:Nat)) (Uu _ _ _ rfl .i64 .u64 bS0 dV0 (ls:Int) _ rfl (xZ _ (by omega))) ?_;simp only[pv];refine Ze _ (B7 _ _ _ _ rfl (64*m+f0) ls rfl rfl (by omega)) ?_;simp only[pv];refine Ze (.pointer (some ⟨g0,0,none⟩)) (Yf _ rfl g0 0 rfl) ?_;simp only[pv];refine Ze _ (Zh 200 _ 3 rfl g0 0 rfl _ cL0 _ rfl 0 cA0) ?_;simp only[pv];refine Xk 0 55 _ _ rfl (73) rfl rfl .u64 (((64*m+f0+ls:Nat):Int)) rfl cA0 (by rw[Xq];omega) (hC true (ab (bf L) m) B (64*m+f0+ls)) (Ai _ _ _ _ _) ?_;simp only[Act.put];refine Zf ?_;intro w4 hkw hrw hnew hdis;have zr0:Row w4 (g0) (hC true (ab (bf L) m) B (64*m+f0+ls)) 200:=hrw 0 (200,hC true (ab (bf L) m) B (64*m+f0+ls)) rfl;replace sk:=sk.trans hkw (by simp);clear hkw hrw hnew hdis r0;have r0:=zr0;clear zr0;iterate 4 go_step
   apply Za [] [_,_,_,_,_,_] trivial a_
   ·intro p;refine m_m ?_;refine m_m ?_;simp only[pv];refine Ze (.int .i64 (ls:Nat)) (fun w'=>(Dl _ _ rfl ⟨(L.drop (64*m+f0)).toArray⟩ rfl N_ w').trans (by rw[hsz])) ?_;simp only[pv];refine Ze _ (XE _ _ _ _ rfl f0 ls rfl rfl (by omega)) ?_;simp only[pv];refine Ze _ (X3 _ _ _ _ rfl (f0+ls) 64 rfl rfl (by omega) (by omega)) ?_;simp only[pv];refine Ze (.int .i64 0) (fun _=>rfl) ?_;simp only[pv];refine Zf ?_;intro w5 hkw hrw hnew hdis;replace r0:=hkw.ro r0;replace sk:=sk.trans hkw (by simp);clear hkw hrw hnew hdis;have H0:AdH w5 w g0 N L (m+0) f0 B:=⟨by rw[hm];exact r0,hB,hlt,sk⟩;have HD:Hid (L.length=N/\N<1152921504606846976/\N=64*m+f0+ls/\f0<64/\KT w/\0≠g0):=⟨hN,hNl,hm,hf,kT,hg⟩;generalize hn:(f0+ls)/64=n;have HN:Hid ((f0+ls)/64=n):=hn;clear r0 sk hr0 hls hsz hB hlt hN hNl kT hg hn
    go_wp2_with fail
    go_loopg [1,4,5,32] n (fun g s1 s4 s5 s32 wr=> ∃k F B,k+g=n/\s32= .int .i64 (k:Nat)/\s1= .string ⟨(L.drop (64*(m+k)+F)).toArray⟩/\s4= .int .i64 (F:Nat)/\F<64/\(F=0∨(k=0/\F=f0))/\AdH wr w g0 N L (m+k) F B)
    case atStart=>exact⟨0,f0,B,by omega,rfl,rfl,rfl,hf,.inr ⟨rfl,rfl⟩,H0⟩
    case round=>
     obtain⟨k,F,B,hk,rfl,rfl,rfl,hF,hFk,r0,hB,hlt,sk⟩:=hrel;obtain⟨hN,hNl,hm,hf,kT,hg⟩:=HD.out;have hn:=HN.out;clear H0
     cases gk with
     |zero=>
      obtain rfl:k=n:=by omega
      have hq:min (L.drop (64*(m+k)+F)).length (64-F)=N%64-F:=by rw[cG0];omega
      have hcp:SG (hC true (ab (bf L) (m+k)) B N) (9+F) (b8s ((L.drop (64*(m+k)+F)).take (N%64-F)))=hC true (ab (bf L) (m+k)) (cpB B F ((L.drop (64*(m+k)+F)).take (N%64-F))) N:=
       ID _ _ _ _ _ _ (by rw[dT0,cG0];omega)
      have hHS:HS L (cpB B F ((L.drop (64*(m+k)+F)).take (N%64-F))):=by
       refine⟨fun i hi=>?_,yw hlt _ _⟩;rw[hN]at hi ⊢;rw[Am L B F (m+k) (N%64-F) (by omega) hB i (by omega),show N/64=m+k by omega]
      have hj:N/64=m+k:=by omega
      have hk64:F+(N%64-F)<=64:=by omega
      generalize N%64-F=q at*;clear hk hm hn hFk HD HN hB hlt
      go_step
      apply Za [] [_] trivial a_
      ·intro p;refine Ze _ (PC _ _ _ _ rfl k k rfl rfl false (e_ (by omega))) ?_;simp only[pv];refine Zf ?_;intro w6 hkw hrw hnew hdis;replace r0:=hkw.ro r0;replace sk:=sk.trans hkw (by simp);clear hkw hrw hnew hdis;iterate 7 go_step
       apply Za [(g0,200,hC true (ab (bf L) (m+k)) B N)] [_,_,_,_,_,_,_] ⟨r0,trivial⟩ (by simp<;>omega)
       ·intro p;refine m_m ?_;simp only[pv];refine Ze (.pointer (some ⟨g0,0,none⟩)) (Yf _ rfl g0 0 rfl) ?_;simp only[pv];refine Ze _ (Zh 200 _ 2 rfl g0 0 rfl _ cL0 _ rfl 63 sizeOf198) ?_;refine m_m ?_;simp only[pv];refine Ze _ (N7 198 5 _ _ 64 eV0 fG0 rfl g0 9 F rfl rfl (by omega)) ?_;refine m_m ?_;simp only[pv];refine N8 0 _ _ _ _ 5 rfl dG0 fG0 (9+F) (64-F) (64-F) rfl rfl (L.drop (64*(m+k)+F)) rfl q hq (by rw[Xq];omega) (hC true (ab (bf L) (m+k)) (cpB B F ((L.drop (64*(m+k)+F)).take q)) N) hcp ?_;simp only[pv];refine Zf ?_;intro w7 hkw hrw hnew hdis;have zr0:Row w7 (g0) (hC true (ab (bf L) (m+k)) (cpB B F ((L.drop (64*(m+k)+F)).take q)) N) 200:=hrw 0 (200,hC true (ab (bf L) (m+k)) (cpB B F ((L.drop (64*(m+k)+F)).take q)) N) rfl;replace sk:=sk.trans hkw (by simp);clear hkw hrw hnew hdis r0;have r0:=zr0;clear zr0;go_wp2
        go_end0
        exact⟨rfl,_,hHS,by rw[hj];exact r0,sk⟩
       ·rfl
      ·rfl
     |succ g=>
      have hle:64*(m+k+1)<=L.length:=by omega
      have hq:min (L.drop (64*(m+k)+F)).length (64-F)=64-F:=by rw[cG0];omega
      have hcp:SG (hC true (ab (bf L) (m+k)) B N) (9+F) (b8s ((L.drop (64*(m+k)+F)).take (64-F)))=hC true (ab (bf L) (m+k)) (fun i=>bf L (64*(m+k)+i)) N:=by
       rw[ID _ _ _ _ _ _ (by rw[dT0,cG0];omega)];exact Ea (fun _ _=>rfl) (Al L B F (m+k) hF hle hB)
      have hdr:(L.drop (64*(m+k)+F)).drop (64-F)=L.drop (64*(m+(k+1))+0):=by
       rw[List.drop_drop,show 64*(m+k)+F+(64-F)=64*(m+(k+1))+0 by omega]
      have hlen:64-F<=(L.drop (64*(m+k)+F)).length:=by rw[cG0];omega
      have hkn:(k:Int)<(n:Int):=by omega
      have hab:ab (bf L) (m+(k+1))=cmp (ab (bf L) (m+k)) (fun i=>bf L (64*(m+k)+i)):=rfl;have hV: ∀i,(ab (bf L) (m+k)) i<4294967296:=xY _ _
      have hbb: ∀i,(fun i=>bf L (64*(m+k)+i)) i<256:=fun i=>yp _ _
      clear hB hlt hle hFk
      go_step
      apply Za [] [_] trivial a_
      ·intro p;refine Ze _ (PC _ _ _ _ rfl k n rfl rfl true (d_ hkn)) ?_;simp only[pv];refine Zf ?_;intro w6 hkw hrw hnew hdis;replace r0:=hkw.ro r0;replace sk:=sk.trans hkw (by simp);clear hkw hrw hnew hdis;iterate 10 go_step
       apply Za [(g0,200,hC true (ab (bf L) (m+k)) B N)] [_,_,_,_,_,_,_,_] ⟨r0,trivial⟩ (by simp<;>omega)
       ·intro p;refine m_m ?_;simp only[pv];refine Ze (.pointer (some ⟨g0,0,none⟩)) (Yf _ rfl g0 0 rfl) ?_;simp only[pv];refine Ze _ (Zh 200 _ 2 rfl g0 0 rfl _ cL0 _ rfl 63 sizeOf198) ?_;refine m_m ?_;simp only[pv];refine Ze _ (N7 198 5 _ _ 64 eV0 fG0 rfl g0 9 F rfl rfl (by omega)) ?_;refine m_m ?_;simp only[pv];refine N8 0 _ _ _ _ 5 rfl dG0 fG0 (9+F) (64-F) (64-F) rfl rfl (L.drop (64*(m+k)+F)) rfl (64-F) hq (by rw[Xq];omega) (hC true (ab (bf L) (m+k)) (fun i=>bf L (64*(m+k)+i)) N) hcp ?_;refine m_a ?_;simp only[pv];refine Zf ?_;intro w7 hkw hrw hnew hdis;have zr0:Row w7 (g0) (hC true (ab (bf L) (m+k)) (fun i=>bf L (64*(m+k)+i)) N) 200:=hrw 0 (200,hC true (ab (bf L) (m+k)) (fun i=>bf L (64*(m+k)+i)) N) rfl;replace sk:=sk.trans hkw (by simp);clear hkw hrw hnew hdis r0;have r0:=zr0;clear zr0;iterate 3 go_step
        apply Za [] [_,_,_,_] trivial a_
        ·intro p;refine m_m ?_;refine m_m ?_;simp only[pv];refine Ze (.string ⟨(L.drop (64*(m+(k+1))+0)).toArray⟩) ((fun w'=>(Eb _ _ _ N_ rfl (L.drop (64*(m+k)+F)) (64-F) rfl rfl hlen w').trans (by rw[hdr]))) ?_;refine m_a ?_;simp only[pv];refine Zf ?_;intro w8 hkw hrw hnew hdis;replace r0:=hkw.ro r0;replace sk:=sk.trans hkw (by simp);clear hkw hrw hnew hdis;have kT8:=kT.kept sk (by simpa using hg);iterate 3 go_step
         apply Zi (by kernel_rfl) [(g0,200,hC true (ab (bf L) (m+k)) (fun i=>bf L (64*(m+k)+i)) N)] [_,_,_,_,_,_,_,_,_,_,_,_,_] ⟨r0,trivial⟩ (by simp<;>omega)
         ·intro p;refine m_m ?_;refine m_m ?_;simp only[pv];refine Ze (.pointer (some ⟨g0,0,none⟩)) (Yf _ rfl g0 0 rfl) ?_;simp only[pv];refine Ze _ (Zh 200 _ 1 rfl g0 0 rfl _ cL0 _ rfl 7 sizeOf197) ?_;simp only[pv];refine Wu 0 197 _ rfl (1) rfl rfl (rC .u32 8 (ab (bf L) (m+k))) (vc _ _ _ _) _ bY0 rfl (by rw[Yc];exact UP) ?_;refine m_m ?_;simp only[pv];refine Ze (.pointer (some ⟨g0,0,none⟩)) (Yf _ rfl g0 0 rfl) ?_;simp only[pv];refine Ze _ (Zh 200 _ 2 rfl g0 0 rfl _ cL0 _ rfl 63 sizeOf198) ?_;simp only[pv];refine Wu 0 198 _ rfl (9) rfl rfl (rC .u8 64 (fun i=>bf L (64*(m+k)+i))) (vd _ _ _ _) _ eV0 rfl (by rw[Yc];exact N4) ?_;simp only[pv];refine m_k 170 func170 #[.agg (rC .u32 8 (ab (bf L) (m+k))),.agg (rC .u8 64 (fun i=>bf L (64*(m+k)+i)))] (fun w' hk=>IC (ab (bf L) (m+k)) (fun i=>bf L (64*(m+k)+i)) hV hbb w' (kT8.kept hk (by simpa using hg))) ?_;simp only[pv];refine Ze (.pointer (some ⟨g0,0,none⟩)) (Yf _ rfl g0 0 rfl) ?_;simp only[pv];refine Ze _ (Zh 200 _ 1 rfl g0 0 rfl _ cL0 _ rfl 7 sizeOf197) ?_;simp only[pv];refine VK 0 197 _ _ rfl 1 rfl rfl (rC .u32 8 (cmp (ab (bf L) (m+k)) (fun i=>bf L (64*(m+k)+i)))) rfl (by rw[Yc];exact UP) (by rw[Yc,Xq];omega) (Pp _ _ _) (hC true (cmp (ab (bf L) (m+k)) (fun i=>bf L (64*(m+k)+i))) (fun i=>bf L (64*(m+k)+i)) N) (Ah _ _ _ _ _) ?_;simp only[Act.put];refine Zf ?_;intro w9 hkw hrw hnew hdis;have zr0:Row w9 (g0) (hC true (cmp (ab (bf L) (m+k)) (fun i=>bf L (64*(m+k)+i))) (fun i=>bf L (64*(m+k)+i)) N) 200:=hrw 0 (200,hC true (cmp (ab (bf L) (m+k)) (fun i=>bf L (64*(m+k)+i))) (fun i=>bf L (64*(m+k)+i)) N) rfl;replace sk:=sk.trans hkw (by simp);clear hkw hrw hnew hdis r0;have r0:=zr0;clear zr0;iterate 2 go_step
          apply Za [] [_] trivial a_
          ·intro p;refine Ze (.int .i64 0) (fun _=>rfl) ?_;simp only[pv];refine Zf ?_;intro w10 hkw hrw hnew hdis;replace r0:=hkw.ro r0;replace sk:=sk.trans hkw (by simp);clear hkw hrw hnew hdis;iterate 2 go_step
           apply Za [] [_,_] trivial a_
           ·intro p;refine Ze _ (XE _ _ _ _ rfl k 1 rfl rfl (by omega)) ?_;refine m_m ?_;simp only[pv];refine Zf ?_;intro w11 hkw hrw hnew hdis;replace r0:=hkw.ro r0;replace sk:=sk.trans hkw (by simp);clear hkw hrw hnew hdis;go_wp2
            go_roundg g
            case measure=>omega
            case rel=>exact⟨k+1,0,(fun i=>bf L (64*(m+k)+i)),by omega,rfl,rfl,rfl,by omega,.inl rfl,by rw[hab];exact r0,fun i hi=>by omega,hbb,sk⟩
           ·rfl
          ·rfl
         ·kernel_rfl
        ·rfl
       ·rfl
      ·rfl
   ·rfl
  ·rfl
 ·rfl
theorem IG (l s:List UInt8)(B:Nat->Nat)(g0:Nat)(w:World)(hl:(l++s).length<1152921504606846976)(hB:HS l B)
  (r0:Row w g0 (hC true (sw l) B l.length) 200)(kT:KT w)(hg:0≠g0):
  Calls prog 125 #[.pointer (some ⟨g0,0,none⟩),.string ⟨s.toArray⟩] w fun e w'=>e= .returned (.tuple #[])/\
   ∃B',HS (l++s) B'/\Row w' g0 (hC true (sw (l++s)) B' (l++s).length) 200/\Kept [g0] w w':=by
 have e1:l.length=64*(l.length/64)+l.length%64:=by omega
 have e2:ab (bf l) (l.length/64)=ab (bf (l++s)) (l.length/64):=NY _ fun i hi=>(Iu l s i (by omega)).symm
 have e3:(l++s).drop (64*(l.length/64)+l.length%64)=s:=by rw[<-e1];exact List.drop_left
 have r1:Row w g0 (hC true (ab (bf (l++s)) (l.length/64)) B (64*(l.length/64)+l.length%64)) 200:=by
  rw[<-e2,<-e1];exact r0
 have h:=Ed (l++s) B (l++s).length (l.length/64) (l.length%64) s.length g0 w rfl hl (by rw[bC0];omega) (by omega)
  (fun i hi=>(hB.b i hi).trans (Iu l s _ (by omega)).symm) hB.lt r1 kT hg
 rw[e3]at h;exact h
theorem Ee: ∃i,prog.info? 5=some i/\i.zero=some (.int .u8 0)/\i.size=1/\i.bytes=1:=by
 have h:(prog.info? 5).map (fun i=>(i.zero,i.size,i.bytes))=some (some (.int .u8 0),1,1):=by kernel_rfl
 cases hq:prog.info? 5 with
 |none=>simp[hq]at h
 |some i=>
  simp[hq]at h;exact⟨i,rfl,h.1,h.2.1,h.2.2⟩
theorem An (n:Nat):madeCells #[.int .u8 0] n=rC .u8 n fun _=>0:=by
 apply C_;intro i;by_cases hi:i<n
 ·rw[Yx _ _ _ _ hi];unfold madeCells;simp[hi,aP0]
 ·rw[h_ (by rw[fM0];omega),h_ (by rw[Yc];omega)]
theorem IH:prog.built 200 [(0,.bool true),(1,.agg (rC .u32 8 ivf))]=some (hC true ivf (fun _=>0) 0):=by kernel_rfl
section
variable {P:Program}{olds:W3}{p:Nat->Nat}{W:World}{F:Act->Ct->Prop}{n:Nat}{l:List Oper}{pl:List Sp}{a:Act}{ct:Ct}{o:Oper}{ρ:Operand->Value}
theorem Ef (x y:Operand)(ho:o.op= .makeSlice 118 x y)(k:IntKind)(m:Nat)(hx:a.eval x= .int k m)(hy:a.eval y= .int k m)(hm:m<=16777216)
  (h:MX prog olds p W F (n+1) l pl (a.put o.dst (.slice (some ⟨p n,0,none⟩) m m)) (XU ct (2*n+1) (5,rC .u8 m fun _=>0))):
  MX prog olds p W F n (o::l) ((fun q=>.slice (some ⟨q n,0,none⟩) m m,[],some (5,rC .u8 m fun _=>0),[])::pl) a ct:=
 Tr (fun g=>.slice (some ⟨g,0,none⟩) m m) 5 _ (fun w=>by
  obtain⟨i,h1,h2,h3,h4⟩:=Ee;have hr:=fU0 (P:=prog) w 118 5 i (.int .u8 0) dG0 h1 h2 k k (m:Int) (m:Int) (by omega) (by omega) (by rw[q_,h3];omega) (by rw[h4];omega) (by omega);rw[q_,h3,M_,show(Value.int IntKind.u8 0).cells=#[.int .u8 0]from rfl,An]at hr;unfold execOp;simp only[ho,hx,hy,p_,hr,k_]
  rfl) h
theorem Dn (t:TypeId)(x y:Operand)(ho:o.op= .indexAddr t x y)(g off len cap:Nat)(hx:ρ x= .slice (some ⟨g,off,none⟩) len cap)(i:Nat)(hy:ρ y= .int .i64 i)(hi:i<len)(e:TypeId)(hu:P.underlying t=some (.slice e))
  (hz: ∀w,(sizeOf e).run P w= .ok 1 w)(r:Nat)(hr:off+i=r)(w:World):(execOp ρ o).run P w= .ok (.value (.pointer (some ⟨g,r,none⟩))) w:=by
 subst hr;have:=Zw (P:=P) (o:=o) t x y ho g off len cap hx i hy hi e hu 1 hz w;rw[M_]at this;exact this
theorem yx (t:TypeId)(x y:Operand)(ho:o.op= .indexAddr t x y)(g off:Nat)(hx:ρ x= .pointer (some ⟨g,off,none⟩))(i len:Nat)(hy:ρ y= .int .i64 i)(hi:i<len)(e:TypeId)(hu:P.underlying t=some (.array len e))
  (hz: ∀w,(sizeOf e).run P w= .ok 1 w)(r:Nat)(hr:off+i=r)(w:World):(execOp ρ o).run P w= .ok (.value (.pointer (some ⟨g,r,none⟩))) w:=by
 subst hr;have:=Yp (P:=P) (o:=o) t x y ho g off hx i len hy hi e hu 1 hz w;rw[M_]at this;exact this
theorem yz (x:Operand)(ho:o.op= .convert 118 9 x)(g off cap n:Nat)(l:List UInt8)(hx:ρ x= .slice (some ⟨g,off,none⟩) n cap)(hn:l.length=n){cs:Array Value}{t:TypeId}(w:World)(hr:WV w g cs t)
  (hc: ∀j,j<l.length->cs[off+j]?=some (.int .u8 (bf l j:Nat))):(execOp ρ o).run prog w= .ok (.value (.string ⟨l.toArray⟩)) w:=by
 subst hn
 have h:=run_convert_bytes_back (P:=prog) w 118 9 5 ⟨g,off,none⟩ cap l dG0 bX0 N_ (fun j hj=>by
  rw[Addr.add_mid,hr.cell,hc j hj];unfold bf;rw[u_,cQ0 hj]
  rfl)
 unfold execOp;simp only[ho,hx,p_,h,k_];rfl
end
theorem Eg (w:World):
  Calls prog 124 #[] w fun e w'=> ∃g,e= .returned (.pointer (some ⟨g,0,none⟩))/\w.heap.size<=g/\Row w' g (hC true (sw []) (fun _=>0) 0) 200/\Below w.heap.size w w':=by
 go_enter func124,ntmps124
 iterate 2 go_step
 apply Za [] [_] trivial a_
 ·intro p;refine Ze (.pointer none) (fun _=>rfl) ?_;simp only[Act.put,aA0,bT0];refine Zf ?_;intro w2 hkw hrw hnew hdis;have sb:=k_b hkw;clear hkw hrw hnew hdis;iterate 3 go_step
  apply Za [] [_,_,_,_] trivial a_
  ·intro p;refine Ze _ (UQ _ _ rfl _ rfl _ (N5 ivf)) ?_;simp only[pv];refine Ze _ (UQ _ _ rfl _ rfl _ IH) ?_;simp only[pv];refine Ya 200 _ rfl _ rfl ?_;simp only[pv];refine Ts 2 (fun g=>.pointer (some ⟨g,0,none⟩)) (.inl rfl) (by omega) rfl ?_;simp only[Act.put,aA0,bT0];refine Zf ?_;intro w3 hkw hrw hnew hdis;have n3:=hnew 2 rfl;have zr3:Row w3 (p 2) (hC true ivf (fun _=>0) 0) 200:=hrw 5 (200,hC true ivf (fun _=>0) 0) rfl;have b3:=f_ sb.size n3;replace sb:=kk sb hkw;clear hkw hrw hnew hdis n3;generalize p 2=g3 at*;have r3:=zr3;clear zr3;go_wp2;go_ret;exact⟨g3,rfl,b3,r3,sb⟩
  ·rfl
 ·rfl
theorem yA:HS [] fun _=>0:=⟨fun i hi=>by simp at hi,fun _=>by decide⟩
theorem ve (n:Nat):bf (tl n) 0=128:=rfl
theorem vi (n j:Nat)(h:j<zs n):bf (tl n) (1+j)=0:=by
 unfold bf tl;rw[u_,bM0 1 j,gG0,eB0 (by simpa using h),List.getElem?_replicate,j_ h];rfl
theorem vj (n k:Nat)(h:k<8):bf (tl n) (1+zs n+k)=8*n/2^(8*(7-k))%256:=by
 unfold bf tl be8;rw[u_,show 1+zs n+k=(zs n+k)+1 by omega,gG0,fL0 (by simp),List.length_replicate,aN0,cV0,hC0 h];show(UInt8.ofNat _).toNat=_
 rw[cS0 (m_ _ (by decide))]
theorem Eh (n m:Nat)(hm:m=9+zs n):(rC .u8 m fun _=>0).setIfInBounds 0 (.int .u8 ((128:Nat):Int))=rC .u8 m (W0 (bf (tl n)) (1+zs n)):=by
 refine S9 _ _ _ _ _ _ fun j hj=>?_
 unfold W0;by_cases h0:j=0
 ·subst h0;rw[j_ rfl,j_ (by omega),ve]
 ·rw[i_ h0];by_cases h:j<1+zs n
  ·rw[j_ h,show j=1+(j-1) by omega,vi n _ (by omega)]
  ·rw[i_ h]
structure ClH (wr w:World)(g0 g14 m c k:Nat)(v B:Nat->Nat):Prop where
 r0:Row wr g0 (hC true v B c) 200
 r:Row wr g14 (rC .u8 m (W0 (bf (tl c)) (1+zs c+k))) 5
 below:Below w.heap.size w wr
theorem OS (v B:Nat->Nat)(c g0:Nat)(w:World)(hc:c<1152921504606846976)(r0:Row w g0 (hC true v B c) 200):
  Calls prog 171 #[.pointer (some ⟨g0,0,none⟩)] w fun e w'=>e= .returned (.string ⟨(tl c).toArray⟩)/\Below w.heap.size w w':=by
 have hz:(119-c%64)%64=zs c:=rfl
 have hz64:zs c<64:=by unfold zs;omega
 have htl:=Po c;have hsc:8*c<18446744073709551616:=by omega
 go_enter func171,ntmps171
 iterate 2 go_step
 apply Za [] [_] trivial a_
 ·intro p;refine Ze (.string ⟨#[]⟩) (fun _=>rfl) ?_;simp only[pv];refine Zf ?_;intro w2 hkw hrw hnew hdis;replace r0:=hkw.ro r0;have sb:=k_b hkw;clear hkw hrw hnew hdis;iterate 3 go_step
  apply Za [] [_,_,_,_,_] trivial a_
  ·intro p;refine m_m ?_;simp only[pv];refine m_k 169 func169 #[.pointer (some ⟨g0,0,none⟩)] (fun w' hk=>Ra _ _ _ _ g0 w' (hk.row r0 (by simp))) ?_;simp only[pv];refine Ze _ (Su _ _ _ _ rfl 119 (c%64) rfl rfl (by omega) (by omega)) ?_;simp only[pv];refine Ze (.int .i64 (zs c:Nat)) (fun w'=>(YO _ _ _ _ rfl (119-c%64) 64 rfl rfl (by omega) w').trans (by rw[hz])) ?_;refine m_a ?_;simp only[pv];refine Zf ?_;intro w3 hkw hrw hnew hdis;replace r0:=hkw.ro r0;replace sb:=kk sb hkw;clear hkw hrw hnew hdis;clear hz;iterate 3 go_step
   apply Za [] [_,_,_,_,_] trivial a_
   ·intro p;refine m_m ?_;simp only[pv];refine Ze _ (XE _ _ _ _ rfl 1 (zs c) rfl rfl (by omega)) ?_;simp only[pv];refine Ze _ (XE _ _ _ _ rfl (1+zs c) 8 rfl rfl (by omega)) ?_;simp only[pv];refine Ef _ _ rfl .i64 (1+zs c+8) rfl rfl (by omega) ?_;simp only[pv];refine Ts 3 (fun g=>.slice (some ⟨g,0,none⟩) (1+zs c+8) (1+zs c+8)) (.inl rfl) (by omega) rfl ?_;simp only[pv];refine Zf ?_;intro w4 hkw hrw hnew hdis;have n14:=hnew 3 rfl;have zr14:Row w4 (p 3) (rC .u8 (1+zs c+8) fun _=>0) 5:=hrw 7 (5,rC .u8 (1+zs c+8) fun _=>0) rfl;have d0x14:=l_l r0.lt n14;replace r0:=hkw.ro r0;have b14:=f_ sb.size n14;replace sb:=kk sb hkw;clear hkw hrw hnew hdis n14;generalize p 3=g14 at*;have r14:=zr14;clear zr14;iterate 3 go_step
    apply Za [(g14,5,rC .u8 (1+zs c+8) fun _=>0)] [_,_,_] ⟨r14,trivial⟩ (by simp<;>omega)
    ·intro p;refine m_m ?_;simp only[pv];refine Ze _ (Dn _ _ _ rfl g14 0 (1+zs c+8) (1+zs c+8) rfl 0 rfl (by omega) _ dG0 fG0 0 rfl) ?_;simp only[pv];refine Xk 0 5 _ _ rfl (0) rfl rfl .u8 (((128:Nat):Int)) rfl fG0 (by rw[Yc];omega) (rC .u8 (1+zs c+8) (W0 (bf (tl c)) (1+zs c))) (Eh c _ (by omega)) ?_;simp only[Act.put];refine Zf ?_;intro w5 hkw hrw hnew hdis;have zr14:Row w5 (g14) (rC .u8 (1+zs c+8) (W0 (bf (tl c)) (1+zs c))) 5:=hrw 0 (5,rC .u8 (1+zs c+8) (W0 (bf (tl c)) (1+zs c))) rfl;replace r0:=hkw.ro r0;replace sb:=kk sb hkw;clear hkw hrw hnew hdis r14;have r14:=zr14;clear zr14;iterate 3 go_step
     apply Za [] [_,_,_,_,_,_] trivial a_
     ·intro p;refine m_m ?_;simp only[pv];refine Ze (.pointer (some ⟨g0,0,none⟩)) (Yf _ rfl g0 0 rfl) ?_;simp only[pv];refine Ze _ (Zh 200 _ 3 rfl g0 0 rfl _ cL0 _ rfl 0 cA0) ?_;simp only[pv];refine Zs 55 _ rfl _ (73) rfl r0 (by simp<;>omega) (.int .u64 (c:Nat)) (Wz _ _ _ _ 73 (by omega)) eG0 ?_;simp only[pv];refine Ze _ (B9 _ _ _ _ rfl 8 c _ rfl rfl rfl hsc) ?_;refine m_a ?_;simp only[pv];refine Zf ?_;intro w6 hkw hrw hnew hdis;replace r0:=hkw.ro r0;replace r14:=hkw.ro r14;replace sb:=kk sb hkw;clear hkw hrw hnew hdis;have H0:ClH w6 w g0 g14 (1+zs c+8) c 0 v B:=⟨r0,r14,sb⟩;have HX:Hid (g0≠g14/\w.heap.size<=g14):=⟨by omega,b14⟩;clear r0 r14 sb b14 d0x14
      go_wp2_with fail
      go_loopg [6,22] 8 (fun g s6 s22 wr=> ∃k:Nat,k+g=8/\s22= .int .i64 k/\ClH wr w g0 g14 (1+zs c+8) c k v B)
      case atStart=>exact⟨0,by omega,rfl,H0⟩
      case round=>
       obtain⟨k,hk,rfl,r0,r14,sb⟩:=hrel;obtain⟨x1,x2⟩:=HX.out;clear H0
       cases gk with
       |zero=>
        obtain rfl:k=8:=by omega
        clear hk
        go_step
        apply Za [] [_] trivial a_
        ·intro p;refine Ze _ (PC _ _ _ _ rfl 8 8 rfl rfl false rfl) ?_;simp only[pv];refine Zf ?_;intro w7 hkw hrw hnew hdis;replace r14:=hkw.ro r14;replace sb:=kk sb hkw;clear hkw hrw hnew hdis;iterate 8 go_step
         apply Za [] [_,_,_] trivial a_
         ·intro p;refine m_m ?_;simp only[pv];refine Xu (.string ⟨(tl c).toArray⟩) [] (fun w' hkw _=>yz _ rfl g14 0 (1+zs c+8) (1+zs c+8) (tl c) rfl (by omega) w' (hkw.row r14 (by simp)).r (fun j hj=>(Yx _ _ _ _ (by omega)).trans (by rw[B_,V4 _ _ _ (by omega)]))) ?_;refine m_a ?_;simp only[pv];refine Zf ?_;intro w8 hkw hrw hnew hdis;replace sb:=kk sb hkw;clear hkw hrw hnew hdis;go_wp2;go_ret;exact⟨rfl,sb⟩
         ·rfl
        ·rfl
       |succ g=>
        have hN:bf (tl c) (1+zs c+k)=8*c/2^(8*(7-k))%256:=vj c k (by omega)
        go_step
        apply Za [] [_] trivial a_
        ·intro p;refine Ze _ (PC _ _ _ _ rfl k 8 rfl rfl true (d_ (by omega))) ?_;simp only[pv];refine Zf ?_;intro w7 hkw hrw hnew hdis;replace r0:=hkw.ro r0;replace r14:=hkw.ro r14;replace sb:=kk sb hkw;clear hkw hrw hnew hdis;iterate 10 go_step
         apply Za [] [_,_] trivial a_
         ·intro p;refine m_m ?_;refine m_a ?_;simp only[pv];refine Zf ?_;intro w8 hkw hrw hnew hdis;replace r0:=hkw.ro r0;replace r14:=hkw.ro r14;replace sb:=kk sb hkw;clear hkw hrw hnew hdis;iterate 2 go_step
          apply Za [(g14,5,rC .u8 (1+zs c+8) (W0 (bf (tl c)) (1+zs c+k)))] [_,_,_,_,_,_,_,_,_,_,_,_,_] ⟨r14,trivial⟩ (by simp<;>omega)
          ·intro p;refine m_m ?_;refine m_m ?_;simp only[pv];refine Ze _ (XE _ _ _ _ rfl 1 (zs c) rfl rfl (by omega)) ?_;refine m_m ?_;simp only[pv];refine Ze _ (XE _ _ _ _ rfl (1+zs c) k rfl rfl (by omega)) ?_;refine m_m ?_;refine m_m ?_;simp only[pv];refine Ze _ (Su _ _ _ _ rfl 7 k rfl rfl (by omega) (by omega)) ?_;simp only[pv];refine Ze _ (N1 _ _ _ _ rfl 8 (7-k) _ rfl rfl rfl (by omega)) ?_;simp only[pv];refine Ze _ (Aa _ _ _ _ rfl (8*c) (8*(7-k)) .i64 rfl rfl (by omega)) ?_;simp only[pv];refine Ze (.int .u8 (8*c/2^(8*(7-k))%256:Nat)) (Uu _ _ _ rfl .u64 .u8 dV0 bX0 ((8*c/2^(8*(7-k)):Nat):Int) _ rfl (wF _ _ rfl)) ?_;simp only[pv];refine Ze (.pointer (some ⟨g14,1+zs c+k,none⟩)) (Dn _ _ _ rfl g14 0 (1+zs c+8) (1+zs c+8) rfl (1+zs c+k) rfl (by omega) _ dG0 fG0 _ (by omega)) ?_;simp only[pv];refine Xk 0 5 _ _ rfl (1+zs c+k) rfl rfl .u8 (((8*c/2^(8*(7-k))%256:Nat):Int)) rfl fG0 (by rw[Yc];omega) (rC .u8 (1+zs c+8) (W0 (bf (tl c)) (1+zs c+k+1))) (S9 _ _ _ _ _ _ (Tk _ _ _ hN _)) ?_;simp only[Act.put];refine Zf ?_;intro w9 hkw hrw hnew hdis;have zr14:Row w9 (g14) (rC .u8 (1+zs c+8) (W0 (bf (tl c)) (1+zs c+k+1))) 5:=hrw 0 (5,rC .u8 (1+zs c+8) (W0 (bf (tl c)) (1+zs c+k+1))) rfl;replace r0:=hkw.ro r0;replace sb:=kk sb hkw;clear hkw hrw hnew hdis r14;have r14:=zr14;clear zr14;iterate 2 go_step
           apply Za [] [_,_] trivial a_
           ·intro p;refine Ze _ (XE _ _ _ _ rfl k 1 rfl rfl (by omega)) ?_;refine m_m ?_;simp only[pv];refine Zf ?_;intro w10 hkw hrw hnew hdis;replace r0:=hkw.ro r0;replace r14:=hkw.ro r14;replace sb:=kk sb hkw;clear hkw hrw hnew hdis;go_wp2
            go_roundg g
            case measure=>omega
            case rel=>exact⟨k+1,by omega,rfl,r0,r14,sb⟩
           ·rfl
          ·rfl
         ·rfl
        ·rfl
     ·rfl
    ·rfl
   ·rfl
  ·rfl
 ·rfl
theorem Ao (V:Nat->Nat)(k j:Nat)(hk:k<8)(hj:j<4):bf (NZ V) (k*4+j)=V k/2^(8*(3-j))%256:=by
 unfold bf NZ;rw[u_,cV0,hC0 (by omega)];show(UInt8.ofNat _).toNat=_
 rw[cS0 (m_ _ (by decide)),show(k*4+j)/4=k by omega,show(k*4+j)%4=j by omega]
structure SuH (wr w:World)(g3 g4 c i:Nat)(V B:Nat->Nat):Prop where
 r3:Row wr g3 (hC true V B c) 200
 r4:Row wr g4 (rC .u8 32 (W0 (bf (NZ V)) i)) 164
 below:Below w.heap.size w wr
theorem Ei (l:List UInt8)(B:Nat->Nat)(g0:Nat)(w:World)(hl:l.length<576460752303423488)(hHS:HS l B)(r0:Row w g0 (hC true (sw l) B l.length) 200)(kT:KT w):
  Calls prog 126 #[.pointer (some ⟨g0,0,none⟩)] w fun e w'=>e= .returned (.string ⟨(sha l).toArray⟩)/\Below w.heap.size w w':=by
 have hll:(l++tl l.length).length<1152921504606846976:=by
  rw[bC0,Po]
  have:zs l.length<64:=by unfold zs;omega
  omega
 go_enter func126,ntmps126
 iterate 2 go_step
 apply Za [] [_] trivial a_
 ·intro p;refine Ze (.string ⟨#[]⟩) (fun _=>rfl) ?_;simp only[pv];refine Zf ?_;intro w2 hkw hrw hnew hdis;replace r0:=hkw.ro r0;have sb:=k_b hkw;clear hkw hrw hnew hdis;iterate 4 go_step
  refine ZB ?_;refine q_m ?_;simp only[pv];refine q_v _ (Dm _ _ _ _ rfl (some ⟨g0,0,none⟩) rfl rfl _ underlying166) ?_;refine q_m ?_;refine q_m ?_;simp only[pv];refine q_v (.pointer (some ⟨g0,0,none⟩)) (Yf _ rfl g0 0 rfl) ?_;simp only[pv];refine q_v _ (Zh 200 _ 0 rfl g0 0 rfl _ cL0 _ rfl 0 sizeOf4) ?_;simp only[pv];refine ZS (by rfl) 4 _ rfl _ (0) rfl r0 (.bool true) (Wz _ _ _ _ 0 (by omega)) isAgg4 ?_;simp only[pv];refine q_v _ (Zz _ _ rfl true rfl) ?_;refine q_p false (.bool false) ?_;simp only[pv];refine ZR ?_;intro w3 hqb;replace r0:=r0.belowAll hqb;replace sb:=b_o sb hqb;clear hqb;iterate 7 go_step
  apply Za [] [_,_,_,_,_] trivial a_
  ·intro p;refine m_m ?_;simp only[pv];refine Ze (.pointer (some ⟨g0,0,none⟩)) (Yf _ rfl g0 0 rfl) ?_;simp only[pv];refine Xw 200 _ rfl _ (0) rfl r0 (by simp<;>omega) (hC true (sw l) B l.length) (yt _ _ _ _) _ cL0 rfl (by rw[Xq];exact Pr) ?_;simp only[pv];refine XP 200 rfl _ IE ?_;simp only[pv];refine Xc 7 200 _ _ rfl rfl rfl (hC true (sw l) B l.length) rfl (by rw[Xq];exact Pr) (by simp only[Xq]) (yr _ _ _ _) ?_;simp only[Act.put];refine Zf ?_;intro w4 hkw hrw hnew hdis;have n3:=hnew 3 rfl;have zr3:Row w4 (p 3) (hC true (sw l) B l.length) 200:=hrw 7 (200,hC true (sw l) B l.length) rfl;have d0x3:=l_l r0.lt n3;replace r0:=hkw.ro r0;have b3:=f_ sb.size n3;replace sb:=kk sb hkw;clear hkw hrw hnew hdis n3;generalize p 3=g3 at*;have r3:=zr3;clear zr3
   go_wp2_with fail
   refine(OS _ _ _ g0 _ (by omega) r0).mono ?_;rintro _ w5 ⟨rfl,bb⟩;replace r3:=r3.belowAll bb;replace sb:=b_o sb bb;clear bb r0
   dsimp only
   go_wp2_with fail
   refine(IG l (tl l.length) B g3 _ hll hHS r3 (kT.below sb) (by omega)).mono ?_;rintro _ w6 ⟨rfl,B2,hHS2,r3,sk⟩;replace sb:=sb.trans (sk.below w.heap.size sb.size (by simpa using b3));clear sk hHS hHS2 kT
   dsimp only
   have HV:Hid (sha l=NZ (sw (l++tl l.length))):=rfl;generalize sw (l++tl l.length)=V at*;generalize (l++tl l.length).length=c at*;iterate 5 go_step
   apply Za [] [_] trivial a_
   ·intro p;refine XP 164 rfl _ F8 ?_;simp only[pv];refine Zf ?_;intro w7 hkw hrw hnew hdis;have n4:=hnew 0 rfl;have zr4:Row w7 (p 0) (rC .u8 32 fun _=>0) 164:=hrw 1 (164,rC .u8 32 fun _=>0) rfl;have d3x4:=l_l r3.lt n4;replace r3:=hkw.ro r3;have b4:=f_ sb.size n4;replace sb:=kk sb hkw;clear hkw hrw hnew hdis n4;generalize p 0=g4 at*;have r4:=zr4;clear zr4;have H0:SuH w7 w g3 g4 c (0*4) V B2:=⟨r3,by rw[cD0,Pq];exact r4,sb⟩;have HX:Hid (g3≠g4/\w.heap.size<=g4):=⟨by omega,b4⟩;clear r3 r4 sb b3 b4 d3x4 hl hll
    go_wp2_with fail
    go_loopg [5,6,22,25] 8 (fun g s5 s6 s22 s25 wr=> ∃k:Nat,k+g=8/\s22= .int .i64 k/\SuH wr w g3 g4 c (k*4) V B2)
    case atStart=>exact⟨0,by omega,rfl,H0⟩
    case round=>
     obtain⟨k,hk,rfl,r3,r4,sb⟩:=hrel;obtain⟨x1,x2⟩:=HX.out;clear H0
     cases gk with
     |zero=>
      obtain rfl:k=8:=by omega
      clear hk
      go_step
      apply Za [] [_] trivial a_
      ·intro p;refine Ze _ (PC _ _ _ _ rfl 8 8 rfl rfl false rfl) ?_;simp only[pv];refine Zf ?_;intro w8 hkw hrw hnew hdis;replace r4:=hkw.ro r4;replace sb:=kk sb hkw;clear hkw hrw hnew hdis;iterate 8 go_step
       apply Za [] [_,_,_] trivial a_
       ·intro p;refine Ze _ (Lt 164 5 _ 32 underlying164 fG0 rfl g4 0 rfl (by omega)) ?_;simp only[pv];refine Xu (.string ⟨(NZ V).toArray⟩) [] (fun w' hkw _=>yz _ rfl g4 0 32 32 (NZ V) rfl (V3 V) w' (hkw.row r4 (by simp)).r (fun j hj=>by rw[V3]at hj;exact(Yx _ _ _ _ (by omega)).trans (by rw[B_,V4 _ _ _ (by omega)]))) ?_;refine m_a ?_;simp only[pv];refine Zf ?_;intro w9 hkw hrw hnew hdis;replace sb:=kk sb hkw;clear hkw hrw hnew hdis;go_wp2;go_ret;exact⟨by rw[HV.out];rfl,sb⟩
       ·rfl
      ·rfl
     |succ g=>
      have hk8:k<8:=by omega
      go_step
      apply Za [] [_] trivial a_
      ·intro p;refine Ze _ (PC _ _ _ _ rfl k 8 rfl rfl true (d_ (by omega))) ?_;simp only[pv];refine Zf ?_;intro w8 hkw hrw hnew hdis;replace r3:=hkw.ro r3;replace r4:=hkw.ro r4;replace sb:=kk sb hkw;clear hkw hrw hnew hdis;iterate 10 go_step
       apply Za [] [_,_] trivial a_
       ·intro p;refine m_m ?_;refine m_a ?_;simp only[pv];refine Zf ?_;intro w9 hkw hrw hnew hdis;replace r3:=hkw.ro r3;replace r4:=hkw.ro r4;replace sb:=kk sb hkw;clear hkw hrw hnew hdis;have H1:SuH w9 w g3 g4 c (k*4+0) V B2:=⟨r3,r4,sb⟩;clear r3 r4 sb x1 x2
        go_wp2_with fail
        go_loopg [6,25] 4 (fun m s6 s25 wq=> ∃j:Nat,j+m=4/\s25= .int .i64 j/\SuH wq w g3 g4 c (k*4+j) V B2)
        case atStart=>exact⟨0,by omega,rfl,H1⟩
        case round=>
         obtain⟨j,hj,rfl,r3,r4,sb⟩:=hrel;obtain⟨x1,x2⟩:=HX.out;clear H1
         cases gk with
         |zero=>
          obtain rfl:j=4:=by omega
          clear hj
          go_step
          apply Za [] [_] trivial a_
          ·intro p;refine Ze _ (PC _ _ _ _ rfl 4 4 rfl rfl false rfl) ?_;simp only[pv];refine Zf ?_;intro w10 hkw hrw hnew hdis;replace r3:=hkw.ro r3;replace r4:=hkw.ro r4;replace sb:=kk sb hkw;clear hkw hrw hnew hdis;iterate 7 go_step
           apply Za [] [_,_] trivial a_
           ·intro p;refine Ze _ (XE _ _ _ _ rfl k 1 rfl rfl (by omega)) ?_;refine m_m ?_;simp only[pv];refine Zf ?_;intro w11 hkw hrw hnew hdis;replace r3:=hkw.ro r3;replace r4:=hkw.ro r4;replace sb:=kk sb hkw;clear hkw hrw hnew hdis;go_wp2
            go_roundg g
            case measure=>omega
            case rel=>exact⟨k+1,by omega,rfl,r3,by rw[show(k+1)*4=k*4+4 by omega];exact r4,sb⟩
           ·rfl
          ·rfl
         |succ m=>
          have hN:bf (NZ V) (k*4+j)=V k/2^(8*(3-j))%256:=Ao V k j hk8 (by omega)
          go_step
          apply Za [] [_] trivial a_
          ·intro p;refine Ze _ (PC _ _ _ _ rfl j 4 rfl rfl true (d_ (by omega))) ?_;simp only[pv];refine Zf ?_;intro w10 hkw hrw hnew hdis;replace r3:=hkw.ro r3;replace r4:=hkw.ro r4;replace sb:=kk sb hkw;clear hkw hrw hnew hdis;iterate 10 go_step
           apply Za [] [_,_] trivial a_
           ·intro p;refine m_m ?_;refine m_a ?_;simp only[pv];refine Zf ?_;intro w11 hkw hrw hnew hdis;replace r3:=hkw.ro r3;replace r4:=hkw.ro r4;replace sb:=kk sb hkw;clear hkw hrw hnew hdis;iterate 2 go_step
            apply Za [(g4,164,rC .u8 32 (W0 (bf (NZ V)) (k*4+j)))] [_,_,_,_,_,_,_,_,_,_,_,_,_,_,_] ⟨r4,trivial⟩ (by simp<;>omega)
            ·intro p;refine m_m ?_;simp only[pv];refine Ze _ (N1 _ _ _ _ rfl k 4 _ rfl rfl rfl (by omega)) ?_;refine m_m ?_;simp only[pv];refine Ze _ (XE _ _ _ _ rfl (k*4) j rfl rfl (by omega)) ?_;refine m_m ?_;simp only[pv];refine Ze _ (Zh 200 _ 1 rfl g3 0 rfl _ cL0 _ rfl 7 sizeOf197) ?_;simp only[pv];refine Ze _ (yx _ _ _ rfl g3 1 rfl k 8 rfl (by omega) _ bY0 cH0 _ rfl) ?_;simp only[pv];refine Zs 196 _ rfl _ (1+k) rfl r3 (by simp<;>omega) (.int .u32 (V k:Nat)) (Ag _ _ _ _ _ (by omega)) eC0 ?_;refine m_m ?_;simp only[pv];refine Ze _ (Su _ _ _ _ rfl 3 j rfl rfl (by omega) (by omega)) ?_;simp only[pv];refine Ze _ (N1 _ _ _ _ rfl 8 (3-j) _ rfl rfl rfl (by omega)) ?_;simp only[pv];refine Ze _ (R6 _ _ _ _ rfl (V k) (8*(3-j)) .i64 rfl rfl (by omega)) ?_;simp only[pv];refine Ze (.int .u8 (V k/2^(8*(3-j))%256:Nat)) (Uu _ _ _ rfl .u32 .u8 gF0 bX0 ((V k/2^(8*(3-j)):Nat):Int) _ rfl (wF _ _ rfl)) ?_;simp only[pv];refine Ze _ (Zt 164 _ _ rfl (g4) rfl (k*4+j) 32 rfl (by omega) _ underlying164 fG0) ?_;simp only[pv];refine Xk 0 5 _ _ rfl (k*4+j) rfl rfl .u8 (((V k/2^(8*(3-j))%256:Nat):Int)) rfl fG0 (by rw[Yc];omega) (rC .u8 32 (W0 (bf (NZ V)) (k*4+j+1))) (S9 _ _ _ _ _ _ (Tk _ _ _ hN _)) ?_;simp only[Act.put];refine Zf ?_;intro w12 hkw hrw hnew hdis;have zr4:Row w12 (g4) (rC .u8 32 (W0 (bf (NZ V)) (k*4+j+1))) 164:=hrw 0 (164,rC .u8 32 (W0 (bf (NZ V)) (k*4+j+1))) rfl;replace r3:=hkw.ro r3;replace sb:=kk sb hkw;clear hkw hrw hnew hdis r4;have r4:=zr4;clear zr4;iterate 2 go_step
             apply Za [] [_,_] trivial a_
             ·intro p;refine Ze _ (XE _ _ _ _ rfl j 1 rfl rfl (by omega)) ?_;refine m_m ?_;simp only[pv];refine Zf ?_;intro w13 hkw hrw hnew hdis;replace r3:=hkw.ro r3;replace r4:=hkw.ro r4;replace sb:=kk sb hkw;clear hkw hrw hnew hdis;go_wp2
              go_roundg m
              case measure=>omega
              case rel=>exact⟨j+1,by omega,rfl,r3,r4,sb⟩
             ·rfl
            ·rfl
           ·rfl
          ·rfl
       ·rfl
      ·rfl
   ·rfl
  ·rfl
 ·rfl
theorem Ej (l:List UInt8)(w:World)(hl:l.length<576460752303423488)(kT:KT w):
  Calls prog 74 #[.string ⟨l.toArray⟩] w fun e w'=>e= .returned (.string ⟨(sha l).toArray⟩)/\Below w.heap.size w w':=by
 have k0:=kT.lt
 go_enter func74,ntmps74
 go_wp2_with fail
 refine(Eg _).mono ?_;rintro _ w2 ⟨g,rfl,hg,r,sb⟩
 dsimp only
 go_wp2_with fail
 refine(IG [] l (fun _=>0) g _ (by simp;omega) yA r (kT.below sb) (by omega)).mono ?_;rintro _ w3 ⟨rfl,B2,hHS2,r,sk⟩;replace sb:=sb.trans (sk.below w.heap.size sb.size (by simpa using hg));clear sk;rw[List.nil_append]at hHS2 r
 dsimp only
 go_wp2_with fail
 refine(Ei l B2 g _ hl hHS2 r (kT.below sb)).mono ?_;rintro _ w4 ⟨rfl,bb⟩;replace sb:=b_o sb bb
 dsimp only
 go_wp2;go_ret;exact⟨rfl,sb⟩
open Go.ChangeShapes Go.WideShapes Go.ChangeAt Go.RowKit
def lk:List (String×DataW Unit):=[("sacristy/sha.constants",Rows.laid_sacristy_sha_constants)]
theorem Do:prog.globalNamed "sacristy/sha.constants" =some 0:=by kernel_rfl
theorem yB:(prog.globals[0]?).map (·.type)=some 228:=by kernel_rfl
theorem Ap:prog.cellsOf 196=1:=by kernel_rfl
theorem II:prog.cellsOf 228=64:=by kernel_rfl
theorem Ek (os:Os)(args:Array Value):laidMetH prog lk ((World.doorLaid prog 14 os).forCall (fun _ _=>0) ⟨#[],args,[]⟩).memory:=
 laidMetH_of_parts3 (fuel:=8) (laidMet_of_run' 8 (by kernel_rfl) (by kernel_rfl)) (by kernel_rfl) (by kernel_rfl)
theorem yC:(Rows.laid_sacristy_sha_constants:DataW Unit)=Lib.tabData .u32 (kL.map fun(n:Nat)=>(n:Int)):=by kernel_rfl
theorem Lv {W:World}(h:laidMetH prog lk W):KT W:=by
 rw[MakeChecks.laidMetH_plain _ _ _ (by kernel_rfl)]at h;unfold lk at h;rw[yC]at h;have hT:=Lib.tabIs_of_head Do yB cW0 gF0 Ap II h
 have hc: ∀i,i<64->W.cell? ⟨0,i,none⟩=some (.int .u32 (kf i:Nat)):=by
  intro i hi
  have hl:i<(kL.map fun(n:Nat)=>(n:Int)).length:=by rw[List.length_map];exact hi
  rw[hT.cell Do i hl];unfold kf;rw[u_,cV0,u_]
  cases kL[i]?<;>rfl
 obtain⟨_,cs,t,hR⟩:=Sn (hc 0 (by decide));exact⟨cs,t,hR,fun i hi=>by rw[<-hR.cell];exact hc i hi⟩
end Go.Proofs.YtnagnkhbamhfmaaGreatDoor
