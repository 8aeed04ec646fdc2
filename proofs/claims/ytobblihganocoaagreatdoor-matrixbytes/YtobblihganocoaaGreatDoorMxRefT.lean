import Derived.Test.YtobblihganocoaaGreatDoorMxRefB
import Derived.Test.YtobblihganocoaaGreatDoorMB
namespace Go.Proofs.YtobblihganocoaaGreatDoor
open Go.RowKit
open Go.Proofs.Tryz
set_option linter.unusedVariables false
set_option linter.unusedSectionVars false
set_option linter.unusedSimpArgs false
theorem Pn {P:Program}{o:Oper}{ρ:Operand->Value}(t:TypeId)(x y:Operand)(u:TypeId)(ho:o.op= .binOp .gtr t x y u)(n m:Int)(hx:ρ x= .int .u8 n)(hy:ρ y= .int .u8 m)(b:Bool)(hb:decide (m<n)=b)(w:World):
  (execOp ρ o).run P w= .ok (.value (.bool b)) w:=by
 subst hb
 unfold execOp
 simp only[ho,hx,hy]
 simp[go_sem]
structure FamN (w:World)(base:Nat)(V:Nat->Value)(k:Nat)(F:Nat->Nat->Nat)(m:Nat):Prop where
 own: ∀j,j<m->Ud w base (V j) k (F j)
section
variable {w w2:World}{base m k:Nat}{V:Nat->Value}{F:Nat->Nat->Nat}
theorem FamN.on (h:FamN w base V k F m){S:List Nat}(kk:Kept S w w2)(hS: ∀j,j<m-> ∀b,(V j).ownBlock=some b->b∉S):FamN w2 base V k F m:=⟨fun j hj=>(h.own j hj).on kk (hS j hj)⟩
theorem FamN.below (h:FamN w base V k F m)(hb:Below w.heap.size w w2):FamN w2 base V k F m:=h.on (Kept.ofBelow hb) (fun _ _=>XU _)
theorem FS (w:World)(base:Nat)(V:Nat->Value)(k:Nat)(F:Nat->Nat->Nat):FamN w base V k F 0:=⟨fun j hj=>absurd hj (by omega)⟩
theorem FamN.add (h:FamN w base V k F m){v:Value}(hv:Ud w base v k (F m)):FamN w base (uxV V m v) k F (m+1):=⟨fun j hj=>by
 by_cases e:j=m
 ·subst e;rw[Sf];exact hv
 ·rw[Ph V v (by omega)];exact h.own j (by omega)⟩
end
theorem BS (ab:Option Addr)(n c k:Nat)(hk:k=1):Instr.fill (fun i=>some (i*k,k)) ((Array.range (1*k)).map ((Value.slice none 0 0).cells[· %(Value.slice none 0 0).cells.size]!)) [(0,.slice ab n c)]=some #[.slice ab n c]:=by
 subst hk
 kernel_rfl
theorem BT {l r:List UInt8}{at':Nat}(h:l.drop at'=r)(hl:at'<l.length):yb l at'=yb r 0:=by
 rw[<-h]
 unfold yb
 rw[List.getD_eq_getElem?_getD,List.getD_eq_getElem?_getD,List.getElem?_drop,Nat.add_zero]
theorem FT {l r:List UInt8}{at' b:Nat}(h:l.drop at'=r):(l.take (at'+1+b)).drop (at'+1)=(r.take (1+b)).drop 1:=by
 subst h
 apply List.ext_getElem?
 intro i
 rw[List.getElem?_drop,List.getElem?_drop,List.getElem?_take,List.getElem?_take,List.getElem?_drop]
 by_cases hi:i<b
 ·rw[if_pos (by omega),if_pos (by omega),show at'+1+i=at'+(1+i) by omega]
 ·rw[if_neg (by omega),if_neg (by omega)]
theorem Il {r:List UInt8}(h:r.length<=yb r 0):tkE r=4:=if_pos h
theorem zO {r:List UInt8}(h: ¬r.length<=yb r 0):tkE r=WK ⟨((r.take (1+yb r 0)).drop 1).toArray⟩/\tkA r=Ws ⟨((r.take (1+yb r 0)).drop 1).toArray⟩/\tkR r=r.drop (1+yb r 0):=⟨if_neg h,if_neg h,if_neg h⟩
theorem zP {l r0:List UInt8}{n k:Nat}(hX:l=UInt8.ofNat n::UInt8.ofNat k::r0)(n2:n<=25)(k2:k<=7)(hok: ∀s,s<n*k->tkE (tkS r0 s)=0):
  (xmB n (fun _=>k) (fun a b=>tkG r0 (a*k+b))=l->XmV n k (tkG r0)/\l=xmL n k (tkG r0))/\(xmB n (fun _=>k) (fun a b=>tkG r0 (a*k+b))≠l-> ∀n k G,XmV n k G->l≠xmL n k G):=by
 obtain⟨e1,e2⟩:=T8 r0 (n*k) hok
 by_cases hc:1<=n/\1<=k
 ·have hT:tbB n (fun _=>k)=true:=by
   rw[OD (N:=fun _=>k) (fun j _=>⟨rfl,hc.2,k2⟩),decide_eq_true (by omega),decide_eq_true (by omega)]
   rfl
  have hB:xmB n (fun _=>k) (fun a b=>tkG r0 (a*k+b))=xmL n k (tkG r0):=by
   unfold xmB
   rw[if_pos hT]
   show UInt8.ofNat n::UInt8.ofNat k::xmT _ (n*k)=UInt8.ofNat n::UInt8.ofNat k::xmT _ (n*k)
   rw[T5 (G':=tkG r0) (fun t ht=>by
    show tkG r0 (t/k*k+t%k)=tkG r0 t
    rw[Nat.mul_comm,Nat.div_add_mod])]
  rw[hB]
  refine⟨fun h=>⟨⟨hc.1,n2,hc.2,k2,e2⟩,h.symm⟩,fun h n' k' G' hv=>?_⟩
  refine JJ (n:=n) (k:=k) (G:=tkG r0) (r:=tkS r0 (n*k)) (by omega) (by omega) (by rw[<-e1];exact hX) e2 (fun h0=>h ?_) hv
  rw[hX]
  unfold xmL
  rw[h0,List.append_nil]at e1
  rw[<-e1]
 ·have hT:tbB n (fun _=>k)=false:=by
   cases h:tbB n (fun _=>k)
   ·rfl
   ·obtain⟨h1,_,h3,_⟩:=SL h
    exact absurd ⟨h1,h3⟩ hc
  have hB:xmB n (fun _=>k) (fun a b=>tkG r0 (a*k+b))=[]:=by
   unfold xmB
   rw[if_neg (by rw[hT];decide)]
  rw[hB]
  refine⟨fun h=>(by rw[hX]at h;cases h),fun _=>T9 (.inr ?_)⟩
  have b0:yb l 0=n:=by rw[hX];exact Ii (by omega)
  have b1:yb l 1=k:=by rw[hX];exact Ii (by omega)
  rw[b0,b1]
  cases h:ccB n k
  ·rfl
  ·obtain⟨h1,_,h3,_⟩:=JQ h
   exact absurd ⟨h1,h3⟩ hc
set_option maxRecDepth 100000 in
set_option maxHeartbeats 2000000 in
theorem NR (l:List UInt8)(w:World)(hl:l.length<=100000):
  Calls Tryz.prog 12 #[.string ⟨(l).toArray⟩] w fun e w'=>((∃n k G ao co S gO oO ocs tO,XmV n k G/\l=xmL n k G/\e= .returned (.tuple #[.slice ao n co,.int .i64 0])/\VsAt w' ao n S gO oO ocs tO/\ ∀i,i<n->Pt w' (S i) k (fun j=>G (i*k+j)))∨((∀n k G,XmV n k G->l≠xmL n k G)/\e= .returned (.tuple #[.slice none 0 0,.int .i64 4])))/\Below w.heap.size w w':=by
 by_cases h2:l.length<2
 ·have HN:Hid (∀n k G,XmV n k G->l≠xmL n k G):=T9 (.inl h2)
  go_enter func12,ntmps12
  have sb:=YN w
  iterate 2 go_step
  refine rp ?_;refine p_V (.slice none 0 0) ((fun _=>rfl)) ?_;refine p_V (.int .i64 0) (fun _=>rfl) ?_
  iterate 4 go_step
  refine r_p ?_;refine p_V _ (YP _ _ rfl l rfl underlying9) ?_;refine p_V _ (XC l.length 2) ?_;refine p_K true (.bool true) ?_;refine p_K true (.bool true) ?_
  iterate 4 go_step
  refine rp ?_;refine p_V (.slice none 0 0) ((fun _=>rfl)) ?_;refine p_V (.int .i64 4) (fun _=>rfl) ?_
  go_wp2
  go_ret2
  exact⟨.inr ⟨HN.out,rfl⟩,sb⟩
 have hlt0:=Mj l 0
 have hlt1:=Mj l 1
 have HX:=Pb (l:=l) (by omega)
 have HF:(25<yb l 0∨7<yb l 1)->(∀n k G,XmV n k G->l≠xmL n k G):=fun h=>T9 (.inr (by
  cases hc:ccB (yb l 0) (yb l 1)
  ·rfl
  ·have:=JQ hc
   omega))
 obtain⟨n,h0⟩: ∃n,yb l 0=n:=⟨_,rfl⟩
 obtain⟨k,h1⟩: ∃k,yb l 1=k:=⟨_,rfl⟩
 rw[h0]at hlt0 HX HF
 rw[h1]at hlt1 HX HF
 by_cases h25:25<n
 ·have HN:Hid (∀n k G,XmV n k G->l≠xmL n k G):=HF (.inl h25)
  clear HF HX
  go_enter func12,ntmps12
  have sb:=YN w
  iterate 2 go_step
  refine rp ?_;refine p_V (.slice none 0 0) ((fun _=>rfl)) ?_;refine p_V (.int .i64 0) (fun _=>rfl) ?_
  iterate 4 go_step
  refine r_p ?_;refine p_V _ (YP _ _ rfl l rfl underlying9) ?_;refine p_V _ (Xf l.length 2) ?_;refine p_V (.int .u8 (n:Nat)) (fun w'=>(Yg _ _ _ rfl underlying9 l rfl .i64 0 rfl (by omega) w').trans (by rw[h0])) ?_;refine p_V _ (Pn _ _ _ _ rfl (n:Nat) 25 rfl rfl true (decide_eq_true (by omega))) ?_;refine p_K false (.bool true) ?_;refine p_K true (.bool true) ?_
  iterate 4 go_step
  refine rp ?_;refine p_V (.slice none 0 0) ((fun _=>rfl)) ?_;refine p_V (.int .i64 4) (fun _=>rfl) ?_
  go_wp2
  go_ret2
  exact⟨.inr ⟨HN.out,rfl⟩,sb⟩
 by_cases h7:7<k
 ·have HN:Hid (∀n k G,XmV n k G->l≠xmL n k G):=HF (.inr h7)
  clear HF HX
  go_enter func12,ntmps12
  have sb:=YN w
  iterate 2 go_step
  refine rp ?_;refine p_V (.slice none 0 0) ((fun _=>rfl)) ?_;refine p_V (.int .i64 0) (fun _=>rfl) ?_
  iterate 4 go_step
  refine r_p ?_;refine p_V _ (YP _ _ rfl l rfl underlying9) ?_;refine p_V _ (Xf l.length 2) ?_;refine p_V (.int .u8 (n:Nat)) (fun w'=>(Yg _ _ _ rfl underlying9 l rfl .i64 0 rfl (by omega) w').trans (by rw[h0])) ?_;refine p_V _ (Pn _ _ _ _ rfl (n:Nat) 25 rfl rfl false (decide_eq_false (by omega))) ?_;refine p_K false (.bool false) ?_;refine p_V (.int .u8 (k:Nat)) (fun w'=>(Yg _ _ _ rfl underlying9 l rfl .i64 1 rfl (by omega) w').trans (by rw[h1])) ?_;refine p_V _ (Pn _ _ _ _ rfl (k:Nat) 7 rfl rfl true (decide_eq_true (by omega))) ?_;refine p_K false (.bool true) ?_
  iterate 4 go_step
  refine rp ?_;refine p_V (.slice none 0 0) ((fun _=>rfl)) ?_;refine p_V (.int .i64 4) (fun _=>rfl) ?_
  go_wp2
  go_ret2
  exact⟨.inr ⟨HN.out,rfl⟩,sb⟩
 clear HF
 obtain⟨r0,hr⟩: ∃r0,l.drop 2=r0:=⟨_,rfl⟩
 rw[hr]at HX
 have HNo:Hid (∀t,t<n*k->(∀s,s<t->tkE (tkS r0 s)=0)->tkE (tkS r0 t)=4->(∀n k G,XmV n k G->l≠xmL n k G)):=fun t ht hs hE n' k' G' hv=>by
  obtain⟨e1,e2⟩:=T8 r0 t hs
  exact A6 (n:=n) (k:=k) (t:=t) (G:=tkG r0) (r:=tkS r0 t) (by omega) (by omega) (by rw[<-e1];exact HX) e2 ht (by rw[JP,hE];rfl) hv
 have HEn:Hid ((∀s,s<n*k->tkE (tkS r0 s)=0)->(xmB n (fun _=>k) (fun a b=>tkG r0 (a*k+b))=l->XmV n k (tkG r0)/\l=xmL n k (tkG r0))/\(xmB n (fun _=>k) (fun a b=>tkG r0 (a*k+b))≠l->(∀n k G,XmV n k G->l≠xmL n k G))):=fun hs=>zP HX (by omega) (by omega) hs
 have HLt:Hid (∀t,(∀s,s<t->tkE (tkS r0 s)=0)-> ∀s,s<t->tkG r0 s<2^256):=fun t hs=>(T8 r0 t hs).2
 clear HX
 obtain⟨ie,hie,hze,hsz,hby⟩:=Ys
 obtain⟨is',his,hzs,hszs,hbys⟩:=Ug
 have hs1: ¬1*ie.size>2^24:=by rw[hsz];decide
 have hs2: ¬1*ie.size=0:=by rw[hsz];decide
 have hs3: ¬1*is'.size>2^24:=by rw[hszs];decide
 have hs4: ¬1*is'.size=0:=by rw[hszs];decide
 have hl1:=fun A=>VF A ie.size hsz
 have hls:=fun ab n c=>BS ab n c is'.size hszs
 clear hsz hby
 go_enter func12,ntmps12
 have sb:=YN w
 iterate 2 go_step
 refine rp ?_;refine p_V (.slice none 0 0) ((fun _=>rfl)) ?_;refine p_V (.int .i64 0) (fun _=>rfl) ?_
 iterate 4 go_step
 refine r_p ?_;refine p_V _ (YP _ _ rfl l rfl underlying9) ?_;refine p_V _ (Xf l.length 2) ?_;refine p_V (.int .u8 (n:Nat)) (fun w'=>(Yg _ _ _ rfl underlying9 l rfl .i64 0 rfl (by omega) w').trans (by rw[h0])) ?_;refine p_V _ (Pn _ _ _ _ rfl (n:Nat) 25 rfl rfl false (decide_eq_false (by omega))) ?_;refine p_K false (.bool false) ?_;refine p_V (.int .u8 (k:Nat)) (fun w'=>(Yg _ _ _ rfl underlying9 l rfl .i64 1 rfl (by omega) w').trans (by rw[h1])) ?_;refine p_V _ (Pn _ _ _ _ rfl (k:Nat) 7 rfl rfl false (decide_eq_false (by omega))) ?_;refine p_K false (.bool false) ?_
 iterate 7 go_step
 refine rp ?_;refine p_V (.slice none 0 0) ((fun _=>rfl)) ?_
 iterate 3 go_step
 refine rp ?_;refine p_V (.int .i64 2) (fun _=>rfl) ?_
 iterate 4 go_step
 refine rp ?_;refine p_V (.int .i64 0) (fun _=>rfl) ?_
 go_wp2_with fail
 go_loopg [4,5,6,7,8,9,10,11] n (fun x s4 s5 s6 s7 s8 s9 s10 s11 wr=> ∃(i p0:Nat) (V:Nat->Value),i+x=n/\s6= .int .i64 i/\s5= .int .i64 p0/\Hid (l.drop p0=tkS r0 (i*k))/\p0<=l.length/\(∀s,s<i*k->tkE (tkS r0 s)=0)/\TR 1 33 wr w.heap.size s4 i (fun a=>#[V a])/\FamN wr w.heap.size V k (fun a b=>tkG r0 (a*k+b)) i/\(∀j,j<i-> ∀b,(V j).ownBlock=some b->s4.ownBlock≠some b)/\Below w.heap.size w wr)
 case atStart=>exact⟨0,2,fun _=>.slice none 0 0,by omega,rfl,rfl,(by show l.drop 2=tkS r0 (0*k);rw[Nat.zero_mul];exact hr),by omega,fun s hs=>absurd hs (by omega),RF _ _ _ _,FS _ _ _ _ _,fun j hj=>absurd hj (by omega),sb⟩
 case round=>
  clear sb
  obtain⟨i,p0,V,hi,rfl,rfl,hp0,hpl,hok,hO,hA,zhOxhA,sb⟩:=hrel
  cases gk with
  |zero=>
   have hin:n=i:=by omega
   clear hi
   subst hin
   have hEn:=HEn.out hok
   have HLx:Hid (∀s,s<n*k->tkG r0 s<2^256):=HLt.out _ hok
   obtain⟨ao,co,gO,cur,rfl,_,hEl⟩:=UY (k:=1) (C:=fun a=>#[V a]) (fun _=>rfl) hO
   have hVs:VsAt _ ao n V gO 0 cur 33:=⟨hEl.at'.imp id fun⟨q1,q2,q3⟩=>⟨q1,q2,fun j hj=>q3 j hj 0 _ rfl⟩⟩
   have HNr:Hid (∀w',FamN w' w.heap.size V k (fun a b=>tkG r0 (a*k+b)) n-> ∀j,j<n->Pt w' (V j) k (fun b=>tkG r0 (j*k+b))):=fun w' hA j hj=>by
    have h:=hA.own j hj
    obtain⟨av,cv,e⟩:=Ub h
    rw[e]at h ⊢
    obtain⟨_,gv,cuv,hn⟩:=TN h (fun b hb=>HLx.out _ (Q9 hj hb))
    exact⟨av,cv,gv,0,cuv,62,rfl,hn⟩
   have hby:=fun w' (h:VsAt w' ao n V gO 0 cur 33) (hA:FamN w' w.heap.size V k (fun a b=>tkG r0 (a*k+b)) n)=>NQ ao n co V gO 0 cur 33 (fun _=>k) (fun a b=>tkG r0 (a*k+b)) w' (by omega) (fun _ _=>by omega) h (HNr.out w' hA)
   clear hO hEl zhOxhA HEn HNo HLt hok hp0 HLx hl1 hls
   generalize xmB n (fun _=>k) (fun a b=>tkG r0 (a*k+b))=XB at*
   by_cases hXl:XB=l
   ·obtain⟨hv1,hv2⟩:=hEn.1 hXl
    have HV:Hid (XmV n k (tkG r0)):=hv1
    have HQ:Hid (l=xmL n k (tkG r0)):=hv2
    have hne:decide (XB=l)= !false:=decide_eq_true hXl
    clear hEn hXl hv1 hv2
    iterate 2 go_step
    refine r_p ?_;refine p_V (.int .u8 (n:Nat)) (fun w'=>(Yg _ _ _ rfl underlying9 l rfl .i64 0 rfl (by omega) w').trans (by rw[h0])) ?_;refine p_V (.int .i64 (n:Nat)) (YF _ _ _ rfl .u8 .i64 underlying5 underlying3 (n:Nat) _ rfl (by rw[IntKind.wrap_i64];omega)) ?_;refine p_V _ (Xf n n) ?_
    iterate 8 go_step
    refine r_p ?_;refine p_c 13 func13 #[.slice ao n co] (hby _ hVs hA) ?_;intro z21001 k;refine p_W ?_;replace hVs:=hVs.below k.nil;replace hA:=hA.below k.nil;replace sb:=kk sb k;clear k;refine p_W ?_;refine p_V _ (Rz _ _ _ _ rfl XB l rfl rfl false hne) ?_
    iterate 7 go_step
    refine r_p ?_;refine p_V (.int .i64 0) (fun _=>rfl) ?_
    go_wp2
    go_ret2
    exact⟨.inl ⟨n,k,_,ao,co,V,gO,0,cur,_,HV.out,HQ.out,rfl,hVs,HNr.out _ hA⟩,sb⟩
   ·have HN:Hid (∀n k G,XmV n k G->l≠xmL n k G):=hEn.2 hXl
    have hne:decide (XB=l)= !true:=decide_eq_false hXl
    clear hEn hXl
    iterate 2 go_step
    refine r_p ?_;refine p_V (.int .u8 (n:Nat)) (fun w'=>(Yg _ _ _ rfl underlying9 l rfl .i64 0 rfl (by omega) w').trans (by rw[h0])) ?_;refine p_V (.int .i64 (n:Nat)) (YF _ _ _ rfl .u8 .i64 underlying5 underlying3 (n:Nat) _ rfl (by rw[IntKind.wrap_i64];omega)) ?_;refine p_V _ (Xf n n) ?_
    iterate 8 go_step
    refine r_p ?_;refine p_c 13 func13 #[.slice ao n co] (hby _ hVs hA) ?_;intro z21001 k;refine p_W ?_;replace hVs:=hVs.below k.nil;replace hA:=hA.below k.nil;replace sb:=kk sb k;clear k;refine p_W ?_;refine p_V _ (Rz _ _ _ _ rfl XB l rfl rfl true hne) ?_
    iterate 4 go_step
    refine rp ?_;refine p_V (.slice none 0 0) ((fun _=>rfl)) ?_;refine p_V (.int .i64 4) (fun _=>rfl) ?_
    go_wp2
    go_ret2
    exact⟨.inr ⟨HN.out,rfl⟩,sb⟩
  |succ x=>
   have hlt:i<n:=by omega
   iterate 2 go_step
   refine r_p ?_;refine p_V (.int .u8 (n:Nat)) (fun w'=>(Yg _ _ _ rfl underlying9 l rfl .i64 0 rfl (by omega) w').trans (by rw[h0])) ?_;refine p_V (.int .i64 (n:Nat)) (YF _ _ _ rfl .u8 .i64 underlying5 underlying3 (n:Nat) _ rfl (by rw[IntKind.wrap_i64];omega)) ?_;refine p_V _ (XC i n) ?_
   iterate 9 go_step
   refine rp ?_;refine p_V (.slice none 0 0) ((fun _=>rfl)) ?_
   iterate 4 go_step
   refine rp ?_;refine p_V (.int .i64 0) (fun _=>rfl) ?_
   go_wp2_with fail
   go_loopg [5,7,8,9,10,11] k (fun y s5 s7 s8 s9 s10 s11 wr=> ∃(j p1:Nat),j+y=k/\s8= .int .i64 j/\s5= .int .i64 p1/\Hid (l.drop p1=tkS r0 (i*k+j))/\p1<=l.length/\(∀s,s<i*k+j->tkE (tkS r0 s)=0)/\Ud wr w.heap.size s7 j ((fun a b=>tkG r0 (a*k+b)) i)/\TR 1 33 wr w.heap.size u4 i (fun a=>#[V a])/\FamN wr w.heap.size V k (fun a b=>tkG r0 (a*k+b)) i/\(∀j,j<i-> ∀b,(V j).ownBlock=some b->s7.ownBlock≠some b)/\(∀b,u4.ownBlock=some b->s7.ownBlock≠some b)/\Below w.heap.size w wr)
   case atStart=>exact⟨0,p0,by omega,rfl,rfl,hp0,hpl,hok,Gk _ _ _,hO,hA,fun _ _ _ _=>nofun,fun _ _=>nofun,sb⟩
   case round=>
    clear sb hO hA hok hp0 hpl
    obtain⟨j,p1,hj,rfl,rfl,hp1,hpl,hok,hR,hO,hA,zhRxhA,zhRxhO,sb⟩:=hrel
    cases gk with
    |zero=>
     have hjk:k=j:=by omega
     clear hj
     subst hjk
     rw[<-Nat.succ_mul]at hok hp1
     obtain⟨ar,cr,rfl⟩:=Ub hR
     obtain⟨C,hC⟩: ∃C:Nat->Array Value,C=fun a=>#[uxV V i (.slice ar k cr) a]:=⟨_,rfl⟩
     have hO2:TR 1 33 wr w.heap.size u4 i C:=by
      unfold TR at hO ⊢
      rw[Uf (D:=C) (fun a ha=>by rw[hC];dsimp only;rw[Ph V _ ha])]at hO
      exact hO
     have HC1:Hid (∀a,(C a).size=1):=fun a=>by rw[hC];rfl
     have hCi:C i=#[.slice ar k cr]:=by rw[hC];dsimp only;rw[Sf]
     have HCo:Hid ((C i).all (·.oneCell')=true):=by show _=true;rw[hCi];simp[Value.oneCell']
     have hli:=(hls ar k cr).trans (congrArg some hCi.symm)
     have zhO2xhA:=zhOxhA
     have zhRxhO2:=zhRxhO
     have zhO2xhR:=Jc zhRxhO2
     clear hO zhOxhA zhRxhO HNo HEn HLt
     iterate 2 go_step
     refine r_p ?_;refine p_V (.int .u8 (k:Nat)) (fun w'=>(Yg _ _ _ rfl underlying9 l rfl .i64 1 rfl (by omega) w').trans (by rw[h1])) ?_;refine p_V (.int .i64 (k:Nat)) (YF _ _ _ rfl .u8 .i64 underlying5 underlying3 (k:Nat) _ rfl (by rw[IntKind.wrap_i64];omega)) ?_;refine p_V _ (Xf k k) ?_
     iterate 6 go_step
     refine r_p ?_;refine XF (by rfl) 23 33 1 _ rfl (C i) is' _ underlying23 his hzs hs3 hs4 [(0,.slice ar k cr)] rfl hli ?_;intro gA z20002 n0 rA k;refine p_W ?_;clear n0
     replace hO2:=hO2.on k (XU _)
     replace hA:=hA.below k.nil
     replace hR:=hR.on k (XU _)
     replace sb:=kk sb k;clear k;refine Jg (by rfl) _ _ (23) rfl (w.heap.size) 33 is' _ 1 24 underlying23 his hzs hszs hbys rfl (by decide) (by decide) (_) (i) (C) (HC1.out) rfl hO2 gA _ rfl rA (HCo.out) ((by omega)) sb.size ?_
     have h0:=hO2
     clear hO2;intro v1 z20003 hO2 k hp;refine p_W ?_
     have zt:=fun j hj=>RA (hA.own j hj) hp (zhO2xhA j hj)
     replace hA:=hA.on k (fun j hj=>UW (zhO2xhA j hj))
     clear zhO2xhA
     have zhO2xhA:=zt
     clear zt
     have zt:=RA hR hp zhO2xhR
     replace hR:=hR.on k (UW zhO2xhR)
     clear zhO2xhR zhRxhO2
     have zhO2xhR:=zt
     have zhRxhO2:=Jc zt
     clear zt;clear hp
     replace sb:=sb.trans (k.below w.heap.size sb.size h0.base)
     clear h0;clear k;refine p_W ?_
     have hA2:=hA.add hR
     have zz: ∀j,j<i+1-> ∀b,(uxV V i (.slice ar k cr) j).ownBlock=some b->v1.ownBlock≠some b:=fun j hj b hb=>by
      by_cases e:j=i
      ·subst e;rw[Sf]at hb;exact zhO2xhR b hb
      ·rw[Ph V _ (by omega)]at hb;exact zhO2xhA j (by omega) b hb
     rw[hC]at hO2
     clear hA hR zhO2xhA zhRxhO2 zhO2xhR hC hCi HC1 HCo hli zhRxhA
     iterate 2 go_step
     refine r_p ?_;refine p_V _ (x_a i 1) ?_
     go_wp2
     go_roundg x
     ·exact⟨i+1,p1,_,by omega,rfl,rfl,hp1,hpl,hok,hO2,hA2,zz,sb⟩
     omega
    |succ y=>
     have hjk:j<k:=by omega
     have hij:=Q9 hlt hjk
     have HNx:Hid (tkE (tkS r0 (i*k+j))=4->(∀n k G,XmV n k G->l≠xmL n k G)):=HNo.out _ hij hok
     have HOx:Hid (tkE (tkS r0 (i*k+j))=0-> ∀s,s<i*k+(j+1)->tkE (tkS r0 s)=0):=fun h s hs=>by
      by_cases e:s=i*k+j
      ·rw[e];exact h
      ·exact hok s (by omega)
     have hAt:(fun a b=>tkG r0 (a*k+b)) i j=tkA (tkS r0 (i*k+j)):=rfl
     have HSt:Hid (tkS r0 (i*k+(j+1))=tkR (tkS r0 (i*k+j))):=rfl
     obtain⟨r,hrr⟩: ∃r,tkS r0 (i*k+j)=r:=⟨_,rfl⟩
     have hp2:=hp1.out
     rw[hrr]at HNx HOx hAt HSt hp2
     have hrl:r.length=l.length-p1:=by rw[<-hp2,List.length_drop]
     clear hok hrr HNo HEn HLt hp1
     by_cases hpe:l.length<=p1
     ·have HN:Hid (∀n k G,XmV n k G->l≠xmL n k G):=HNx.out (Il (by omega))
      clear HNx HOx hAt HSt hp2 hA hO hR zhRxhA zhRxhO zhOxhA
      iterate 2 go_step
      refine r_p ?_;refine p_V (.int .u8 (k:Nat)) (fun w'=>(Yg _ _ _ rfl underlying9 l rfl .i64 1 rfl (by omega) w').trans (by rw[h1])) ?_;refine p_V (.int .i64 (k:Nat)) (YF _ _ _ rfl .u8 .i64 underlying5 underlying3 (k:Nat) _ rfl (by rw[IntKind.wrap_i64];omega)) ?_;refine p_V _ (XC j k) ?_
      iterate 10 go_step
      refine r_p ?_;refine p_V _ (YP _ _ rfl l rfl underlying9) ?_;refine p_V _ (ZR _ _ _ _ rfl ((p1:Nat)) (l.length) rfl rfl true (decide_eq_true (by omega))) ?_;refine p_K true (.bool true) ?_
      iterate 4 go_step
      refine rp ?_;refine p_V (.slice none 0 0) ((fun _=>rfl)) ?_;refine p_V (.int .i64 4) (fun _=>rfl) ?_
      go_wp2
      go_ret2
      exact⟨.inr ⟨HN.out,rfl⟩,sb⟩
     have hyb':=BT hp2 (by omega)
     have hb256:=Mj l p1
     obtain⟨b,hyb⟩: ∃b,yb l p1=b:=⟨_,rfl⟩
     rw[hyb]at hyb' hb256
     have R12:l.length-p1-1<b↔r.length<=yb r 0:=by rw[<-hyb',hrl];omega
     by_cases hbd:l.length-p1-1<b
     ·have HN:Hid (∀n k G,XmV n k G->l≠xmL n k G):=HNx.out (Il (R12.1 hbd))
      clear HNx HOx hAt HSt hp2 hA hO hR zhRxhA zhRxhO zhOxhA R12 hyb'
      iterate 2 go_step
      refine r_p ?_;refine p_V (.int .u8 (k:Nat)) (fun w'=>(Yg _ _ _ rfl underlying9 l rfl .i64 1 rfl (by omega) w').trans (by rw[h1])) ?_;refine p_V (.int .i64 (k:Nat)) (YF _ _ _ rfl .u8 .i64 underlying5 underlying3 (k:Nat) _ rfl (by rw[IntKind.wrap_i64];omega)) ?_;refine p_V _ (XC j k) ?_
      iterate 10 go_step
      refine r_p ?_;refine p_V _ (YP _ _ rfl l rfl underlying9) ?_;refine p_V _ (ZR _ _ _ _ rfl ((p1:Nat)) (l.length) rfl rfl false (decide_eq_false (by omega))) ?_;refine p_V _ (YP _ _ rfl l rfl underlying9) ?_;refine p_V _ (ZM _ _ _ _ rfl l.length p1 rfl rfl (by omega) (by omega)) ?_;refine p_V _ (ZM _ _ _ _ rfl (l.length-p1) 1 rfl rfl (by omega) (by omega)) ?_;refine p_V (.int .u8 (b:Nat)) (fun w'=>(Yg _ _ _ rfl underlying9 l rfl .i64 p1 rfl (by omega) w').trans (by rw[hyb])) ?_;refine p_V (.int .i64 (b:Nat)) (YF _ _ _ rfl .u8 .i64 underlying5 underlying3 (b:Nat) _ rfl (by rw[IntKind.wrap_i64];omega)) ?_;refine p_V _ (XC (l.length-p1-1:Nat) b) ?_;refine p_K false (.bool true) ?_
      iterate 4 go_step
      refine rp ?_;refine p_V (.slice none 0 0) ((fun _=>rfl)) ?_;refine p_V (.int .i64 4) (fun _=>rfl) ?_
      go_wp2
      go_ret2
      exact⟨.inr ⟨HN.out,rfl⟩,sb⟩
     obtain⟨hE1,hA1,hR1⟩:=zO (r:=r) (fun h=>hbd (R12.2 h))
     rw[<-hyb']at hE1 hA1 hR1
     rw[hE1]at HNx HOx
     rw[hA1]at hAt
     rw[hR1]at HSt
     have hmid:=FT (b:=b) hp2
     have hnt:=fun w'=>JC ⟨((r.take (1+b)).drop 1).toArray⟩ w'
     have HD:Hid (l.drop (p1+1+b)=tkS r0 (i*k+(j+1))):=by
      show _=_
      rw[HSt.out,<-hp2,List.drop_drop]
      congr 1
      omega
     obtain⟨sg,hsg⟩: ∃sg,(r.take (1+b)).drop 1=sg:=⟨_,rfl⟩
     rw[hsg]at hmid hnt HNx HOx hAt
     have h04:=Nw ⟨sg.toArray⟩
     generalize WK ⟨sg.toArray⟩=E at*
     obtain⟨X,hX⟩: ∃X,Ws ⟨sg.toArray⟩=X:=⟨_,rfl⟩
     rw[hX]at hnt hAt
     clear hX hsg hE1 hA1 hR1 R12 hp2 HSt hyb' hrl
     obtain rfl|rfl:=h04
     ·have HOk:Hid (∀s,s<i*k+(j+1)->tkE (tkS r0 s)=0):=HOx.out rfl
      clear HNx HOx
      iterate 2 go_step
      refine r_p ?_;refine p_V (.int .u8 (k:Nat)) (fun w'=>(Yg _ _ _ rfl underlying9 l rfl .i64 1 rfl (by omega) w').trans (by rw[h1])) ?_;refine p_V (.int .i64 (k:Nat)) (YF _ _ _ rfl .u8 .i64 underlying5 underlying3 (k:Nat) _ rfl (by rw[IntKind.wrap_i64];omega)) ?_;refine p_V _ (XC j k) ?_
      iterate 10 go_step
      refine r_p ?_;refine p_V _ (YP _ _ rfl l rfl underlying9) ?_;refine p_V _ (ZR _ _ _ _ rfl ((p1:Nat)) (l.length) rfl rfl false (decide_eq_false (by omega))) ?_;refine p_V _ (YP _ _ rfl l rfl underlying9) ?_;refine p_V _ (ZM _ _ _ _ rfl l.length p1 rfl rfl (by omega) (by omega)) ?_;refine p_V _ (ZM _ _ _ _ rfl (l.length-p1) 1 rfl rfl (by omega) (by omega)) ?_;refine p_V (.int .u8 (b:Nat)) (fun w'=>(Yg _ _ _ rfl underlying9 l rfl .i64 p1 rfl (by omega) w').trans (by rw[hyb])) ?_;refine p_V (.int .i64 (b:Nat)) (YF _ _ _ rfl .u8 .i64 underlying5 underlying3 (b:Nat) _ rfl (by rw[IntKind.wrap_i64];omega)) ?_;refine p_V _ (Xf (l.length-p1-1:Nat) b) ?_;refine p_K false (.bool false) ?_
      iterate 7 go_step
      refine r_p ?_;refine p_V _ (x_a p1 1) ?_;refine p_V (.int .u8 (b:Nat)) (fun w'=>(Yg _ _ _ rfl underlying9 l rfl .i64 p1 rfl (by omega) w').trans (by rw[hyb])) ?_;refine p_V (.int .i64 (b:Nat)) (YF _ _ _ rfl .u8 .i64 underlying5 underlying3 (b:Nat) _ rfl (by rw[IntKind.wrap_i64];omega)) ?_;refine p_V _ (x_a (p1+1) b) ?_
      have cb:=YR sb
      iterate 3 go_step
      refine r_p ?_;refine p_V _ (x_a p1 1) ?_;refine p_V _ (Cr _ _ _ _ underlying9 rfl l (p1+1) (p1+1+b) rfl rfl rfl (by omega) (by omega) _ hmid) ?_;refine p_c 41 func41 #[.string ⟨(sg).toArray⟩] (hnt _) ?_;intro z15005 k;refine p_W ?_
      replace cb:=cb.trans (k.below _ cb.size (by simp<;>omega))
      replace sb:=kk sb k;clear k;refine p_W ?_;refine ZN (by rfl) 62 rfl _ Zm ?_;intro g10 z15009 n0 r10 k;refine p_W ?_
      have bcbx10:=Nat.le_trans cb.size n0
      have b10:=Nat.le_trans sb.size n0
      clear n0
      replace cb:=cb.trans (k.below _ cb.size (by simp<;>omega))
      replace sb:=kk sb k;clear k;refine p_p r10 X ?_;clear r10;intro z15010 r10 k;simp only[Act.put]
      replace cb:=cb.trans (k.below _ cb.size (by simp<;>omega))
      replace sb:=kk sb k;clear k;refine p_W ?_
      replace hO:=hO.on (Kept.ofBelow cb) (XU _)
      replace hA:=hA.below cb
      replace hR:=hR.on (Kept.ofBelow cb) (XU _)
      clear cb
      iterate 4 go_step
      refine r_p ?_;refine p_V _ (ZU .i64 _ _ _ _ rfl 0 0 rfl rfl false rfl) ?_
      have hlX:=(hl1 X).trans (congrArg (fun a=>some (Zc a)) hAt.symm)
      iterate 7 go_step
      refine r_p ?_;refine p_l r10.r ?_;refine p_W ?_;refine XF (by rfl) 33 62 1 _ rfl (Zc ((fun a b=>tkG r0 (a*k+b)) i j)) ie _ underlying33 hie hze hs1 hs2 [(0,.agg (Zc X))] rfl hlX ?_;intro gA z18002 n0 rA k;refine p_W ?_;clear n0
      replace hO:=hO.on k (XU _)
      replace hA:=hA.below k.nil
      replace hR:=hR.on k (XU _)
      replace sb:=kk sb k;clear k;refine Cp (by rfl) _ _ rfl (w.heap.size) (_) (j) ((fun a b=>tkG r0 (a*k+b)) i) rfl hR gA _ rfl rA ((by omega)) sb.size ?_
      have h0:=hR
      clear hR;intro v1 z18003 hR k hp;refine p_W ?_
      have zt:=RA hO hp zhRxhO
      replace hO:=hO.on k (UW zhRxhO)
      clear zhRxhO
      have zhRxhO:=zt
      clear zt
      have zt:=fun j hj=>RA (hA.own j hj) hp (zhRxhA j hj)
      replace hA:=hA.on k (fun j hj=>UW (zhRxhA j hj))
      clear zhRxhA
      have zhRxhA:=zt
      clear zt;clear hp
      replace sb:=sb.trans (k.below w.heap.size sb.size h0.base)
      clear h0;clear k;refine p_W ?_
      iterate 2 go_step
      refine r_p ?_
      iterate 2 go_step
      refine r_p ?_;refine p_V _ (x_a j 1) ?_
      go_wp2
      go_roundg y
      ·exact⟨j+1,p1+1+b,by omega,rfl,rfl,HD,by omega,HOk.out,hR,hO,hA,zhRxhA,zhRxhO,sb⟩
      omega
     ·have HN:Hid (∀n k G,XmV n k G->l≠xmL n k G):=HNx.out rfl
      clear HNx HOx hAt HD hA hO hR zhRxhA zhRxhO zhOxhA
      iterate 2 go_step
      refine r_p ?_;refine p_V (.int .u8 (k:Nat)) (fun w'=>(Yg _ _ _ rfl underlying9 l rfl .i64 1 rfl (by omega) w').trans (by rw[h1])) ?_;refine p_V (.int .i64 (k:Nat)) (YF _ _ _ rfl .u8 .i64 underlying5 underlying3 (k:Nat) _ rfl (by rw[IntKind.wrap_i64];omega)) ?_;refine p_V _ (XC j k) ?_
      iterate 10 go_step
      refine r_p ?_;refine p_V _ (YP _ _ rfl l rfl underlying9) ?_;refine p_V _ (ZR _ _ _ _ rfl ((p1:Nat)) (l.length) rfl rfl false (decide_eq_false (by omega))) ?_;refine p_V _ (YP _ _ rfl l rfl underlying9) ?_;refine p_V _ (ZM _ _ _ _ rfl l.length p1 rfl rfl (by omega) (by omega)) ?_;refine p_V _ (ZM _ _ _ _ rfl (l.length-p1) 1 rfl rfl (by omega) (by omega)) ?_;refine p_V (.int .u8 (b:Nat)) (fun w'=>(Yg _ _ _ rfl underlying9 l rfl .i64 p1 rfl (by omega) w').trans (by rw[hyb])) ?_;refine p_V (.int .i64 (b:Nat)) (YF _ _ _ rfl .u8 .i64 underlying5 underlying3 (b:Nat) _ rfl (by rw[IntKind.wrap_i64];omega)) ?_;refine p_V _ (Xf (l.length-p1-1:Nat) b) ?_;refine p_K false (.bool false) ?_
      iterate 7 go_step
      refine r_p ?_;refine p_V _ (x_a p1 1) ?_;refine p_V (.int .u8 (b:Nat)) (fun w'=>(Yg _ _ _ rfl underlying9 l rfl .i64 p1 rfl (by omega) w').trans (by rw[hyb])) ?_;refine p_V (.int .i64 (b:Nat)) (YF _ _ _ rfl .u8 .i64 underlying5 underlying3 (b:Nat) _ rfl (by rw[IntKind.wrap_i64];omega)) ?_;refine p_V _ (x_a (p1+1) b) ?_
      iterate 3 go_step
      refine r_p ?_;refine p_V _ (x_a p1 1) ?_;refine p_V _ (Cr _ _ _ _ underlying9 rfl l (p1+1) (p1+1+b) rfl rfl rfl (by omega) (by omega) _ hmid) ?_;refine p_c 41 func41 #[.string ⟨(sg).toArray⟩] (hnt _) ?_;intro z15005 k;refine p_W ?_;replace sb:=kk sb k;clear k;refine p_W ?_;refine ZN (by rfl) 62 rfl _ Zm ?_;intro g10 z15009 n0 r10 k;refine p_W ?_
      have b10:=Nat.le_trans sb.size n0
      clear n0;replace sb:=kk sb k;clear k;refine p_p r10 X ?_;clear r10;intro z15010 r10 k;simp only[Act.put];replace sb:=kk sb k;clear k;refine p_W ?_
      iterate 4 go_step
      refine r_p ?_;refine p_V _ (ZU .i64 _ _ _ _ rfl 4 0 rfl rfl true rfl) ?_
      iterate 4 go_step
      refine rp ?_;refine p_V (.slice none 0 0) ((fun _=>rfl)) ?_;refine p_V (.int .i64 4) (fun _=>rfl) ?_
      go_wp2
      go_ret2
      exact⟨.inr ⟨HN.out,rfl⟩,sb⟩
