/- MatrixBytes: for every matrix and text: of up to 26 rows of few numbers, and up to 1,024 bytes, the bytes and the digest are the document's, what is taken is what the document takes, and what is put is taken as it was; no condition. -/
import Derived.Test.YtobblihganocoaaGreatDoorMxRefT
import Derived.Test.YtobblihganocoaaGreatDoorSJ
set_option maxRecDepth 100000
set_option maxHeartbeats 2000000
namespace Go.Proofs.YtobblihganocoaaGreatDoor
open Go.ChangeShapes Go.WideShapes Go.ChangeAt Go.RowKit
open Go.ChangeMaps (open_string)
open Go.Proofs.Tryz
set_option linter.unusedVariables false
set_option linter.unusedSimpArgs false
namespace matrixBytesP
/-- A matrix in memory. -/
def MAt (w:World)(v:Value)(n:Nat)(N:Nat->Nat)(M:Nat->Nat->Nat):Prop:= ∃ab c S gb ob bcs tb,v= .slice ab n c/\VsAt w ab n S gb ob bcs tb/\ ∀i,i<n->Pt w (S i) (N i) (M i)
theorem MAt.below {w w2:World}{v:Value}{n:Nat}{N:Nat->Nat}{M:Nat->Nat->Nat}(h:MAt w v n N M)(hb:Below w.heap.size w w2):MAt w2 v n N M:=by
 obtain⟨ab,c,S,gb,ob,bcs,tb,e,h1,h2⟩:=h
 exact⟨ab,c,S,gb,ob,bcs,tb,e,h1.below hb,fun i hi=>(h2 i hi).below hb⟩
theorem Is (w:World)(N:Nat->Nat)(M:Nat->Nat->Nat):MAt w (.slice none 0 0) 0 N M:=⟨none,0,fun _=>.slice none 0 0,0,0,#[],0,rfl,⟨.inl rfl⟩,fun i hi=>absurd hi (by omega)⟩
theorem B0 {w:World}{base n k gM:Nat}{R:Nat->Nat}{G:Nat->Nat}(r:Row w gM (vsC n (fun j=>.slice (some ⟨R j,0,none⟩) k k)) 33)(h:FamAt w base k R (fun a b=>G (a*k+b)) n)(hG: ∀t,t<n*k->G t<2^256):MAt w (.slice (some ⟨gM,0,none⟩) n n) n (fun _=>k) (fun a b=>G (a*k+b)):=
 ⟨_,_,_,gM,0,_,_,rfl,⟨.inr ⟨rfl,r.r,fun i hi=>by rw[show 0+i*1=i by omega];exact Xz _ hi⟩⟩,fun i hi=>⟨_,_,_,_,_,_,rfl,YM (h.row i hi) (fun j hj=>hG _ (Q9 hi hj))⟩⟩
theorem MAt.congr {w:World}{v:Value}{n k:Nat}{M M':Nat->Nat->Nat}(h:MAt w v n (fun _=>k) M)(he: ∀i,i<n-> ∀j,j<k->M i j=M' i j):MAt w v n (fun _=>k) M':=by
 obtain⟨ab,c,S,gb,ob,bcs,tb,e,h1,h2⟩:=h
 refine⟨ab,c,S,gb,ob,bcs,tb,e,h1,fun i hi=>?_⟩
 obtain⟨a,d,g,o,cs,t,e2,h3⟩:=h2 i hi
 exact⟨a,d,g,o,cs,t,e2,h3.congr (he i hi)⟩
theorem MAt.to {w:World}{v:Value}{n k:Nat}{N:Nat->Nat}{M M':Nat->Nat->Nat}(h:MAt w v n N M)(hN: ∀i,i<n->N i=k)(he: ∀i,i<n-> ∀j,j<k->M' i j=M i j):MAt w v n (fun _=>k) M':=by
 obtain⟨ab,c,S,gb,ob,bcs,tb,e,h1,h2⟩:=h
 refine⟨ab,c,S,gb,ob,bcs,tb,e,h1,fun i hi=>?_⟩
 obtain⟨a,d,g,o,cs,t,e2,h3⟩:=h2 i hi
 rw[hN i hi]at e2 h3
 exact⟨a,d,g,o,cs,t,e2,h3.congr (fun j hj=>(he i hi j hj).symm)⟩
theorem RV {l:List UInt8}{n k:Nat}{G:Nat->Nat}(hl:l.length<4611686018427387904)(hv:XmV n k G)(he:l=xmL n k G)(w:World):Calls Tryz.prog 11 #[.string ⟨(l).toArray⟩] w fun e w'=> ∃a c,e= .returned (.tuple #[.slice a n c,.int .i64 0])/\MAt w' (.slice a n c) n (fun _=>k) (fun a b=>G (a*k+b))/\Below w.heap.size w w':=by
 refine(Sa l w hl).mono ?_
 rintro e w' ⟨⟨n',k',G',gM,R,hV,hE,rfl,_,rN,hR⟩|⟨hno,_⟩,hb⟩
 ·obtain⟨rfl,rfl,hG⟩:=Ot hv hV (he.symm.trans hE)
  exact⟨_,_,rfl,(B0 rN hR hV.lt).congr (fun i hi j hj=>(hG _ (Q9 hi hj)).symm),hb⟩
 ·exact absurd he (hno _ _ _ hv)
theorem It {l:List UInt8}{n k:Nat}{G:Nat->Nat}(hl:l.length<=100000)(hv:XmV n k G)(he:l=xmL n k G)(w:World):Calls Tryz.prog 12 #[.string ⟨(l).toArray⟩] w fun e w'=> ∃a c,e= .returned (.tuple #[.slice a n c,.int .i64 0])/\MAt w' (.slice a n c) n (fun _=>k) (fun a b=>G (a*k+b))/\Below w.heap.size w w':=by
 refine(NR l w hl).mono ?_
 rintro e w' ⟨⟨n',k',G',ao,co,S,gO,oO,ocs,tO,hV,hE,rfl,hVs,hNr⟩|⟨hno,_⟩,hb⟩
 ·obtain⟨rfl,rfl,hG⟩:=Ot hv hV (he.symm.trans hE)
  have hm:MAt w' (.slice ao n co) n (fun _=>k) (fun a b=>G' (a*k+b)):=⟨_,_,S,gO,oO,ocs,tO,rfl,hVs,hNr⟩
  exact⟨_,_,rfl,hm.congr (fun i hi j hj=>(hG _ (Q9 hi hj)).symm),hb⟩
 ·exact absurd he (hno _ _ _ hv)
theorem OE {l:List UInt8}(hl:l.length<4611686018427387904)(hv:(∀n k G,XmV n k G->l≠xmL n k G))(w:World):Calls Tryz.prog 11 #[.string ⟨(l).toArray⟩] w fun e w'=>e= .returned (.tuple #[.slice none 0 0,.int .i64 4])/\Below w.heap.size w w':=by
 refine(Sa l w hl).mono ?_
 rintro e w' ⟨⟨n',k',G',gM,R,hV,hE,_⟩|⟨_,rfl⟩,hb⟩
 ·exact absurd hE (hv _ _ _ hV)
 ·exact⟨rfl,hb⟩
theorem FZ {l:List UInt8}(hl:l.length<=100000)(hv:(∀n k G,XmV n k G->l≠xmL n k G))(w:World):Calls Tryz.prog 12 #[.string ⟨(l).toArray⟩] w fun e w'=>e= .returned (.tuple #[.slice none 0 0,.int .i64 4])/\Below w.heap.size w w':=by
 refine(NR l w hl).mono ?_
 rintro e w' ⟨⟨n',k',G',ao,co,S,gO,oO,ocs,tO,hV,hE,_⟩|⟨_,rfl⟩,hb⟩
 ·exact absurd hE (hv _ _ _ hV)
 ·exact⟨rfl,hb⟩
theorem U4 {w:World}{a1 a2:Option Addr}{n c1 c2:Nat}{N:Nat->Nat}{M:Nat->Nat->Nat}(hn:n<1000)(hN: ∀i,i<n->N i<1000)(h1:MAt w (.slice a1 n c1) n N M)(h2:MAt w (.slice a2 n c2) n N M):Calls Tryz.prog 16 #[.slice a1 n c1,.slice a2 n c2] w fun e w'=>e= .returned (.bool true)/\Below w.heap.size w w':=by
 obtain⟨b1,d1,S1,g1,o1,cs1,t1,e1,v1,m1⟩:=h1
 obtain⟨b2,d2,S2,g2,o2,cs2,t2,e2,v2,m2⟩:=h2
 cases e1
 cases e2
 exact SO a1 a2 n c1 c2 S1 S2 g1 o1 g2 o2 cs1 cs2 t1 t2 N M w (by omega) (fun i hi=>by have:=hN i hi;omega) v1 v2 m1 m2
theorem EN {w:World}{a1:Option Addr}{n c1:Nat}{N:Nat->Nat}{M:Nat->Nat->Nat}(hn:n<1000)(h1:MAt w (.slice a1 n c1) n N M):Calls Tryz.prog 10 #[.slice a1 n c1] w fun e w'=>e= .returned (.string ⟨(xmB n N M).toArray⟩)/\Below w.heap.size w w':=by
 obtain⟨b1,d1,S1,g1,o1,cs1,t1,e1,v1,m1⟩:=h1
 cases e1
 exact UD a1 n c1 S1 g1 o1 cs1 t1 N M w (by omega) v1 m1
theorem zS {n k:Nat}{G:Nat->Nat}(h:XmV n k G):xmB n (fun _=>k) (fun a b=>G (a*k+b))=xmL n k G:=by
 have hT:tbB n (fun _=>k)=true:=by
  rw[OD (N:=fun _=>k) (fun j _=>⟨rfl,h.k1,h.k2⟩),decide_eq_true (by have:=h.n1;omega),decide_eq_true (by have:=h.n2;omega)]
  rfl
 unfold xmB
 rw[if_pos hT]
 show UInt8.ofNat n::UInt8.ofNat k::xmT _ (n*k)=UInt8.ofNat n::UInt8.ofNat k::xmT _ (n*k)
 rw[T5 (G':=G) (fun t ht=>by
  show G (t/k*k+t%k)=G t
  rw[Nat.mul_comm,Nat.div_add_mod])]
theorem Iu {n:Nat}{N:Nat->Nat}{M:Nat->Nat->Nat}(hlt: ∀i,i<n-> ∀j,j<N i->M i j<2^256):xmB n N M=[]∨ ∃k G,XmV n k G/\xmB n N M=xmL n k G/\(∀i,i<n->N i=k)/\ ∀i,i<n-> ∀j,j<k->G (i*k+j)=M i j:=by
 cases hT:tbB n N
 ·exact .inl (by unfold xmB;rw[if_neg (by rw[hT];decide)])
 ·obtain⟨n1,n2,k1,k2,hN⟩:=SL hT
  refine .inr ⟨N 0,fun t=>M (t/N 0) (t%N 0),⟨n1,n2,k1,k2,fun t ht=>?_⟩,by unfold xmB;rw[if_pos hT],hN,fun i hi j hj=>?_⟩
  ·have h1:t/N 0<n:=Nat.div_lt_of_lt_mul (by rw[Nat.mul_comm];exact ht)
   exact hlt _ h1 _ (by rw[hN _ h1];exact Nat.mod_lt _ (by omega))
  ·show M _ _=_
   rw[JK i hj,JL i hj]
theorem zT (ab:Option Addr)(n c:Nat)(l:List UInt8)(w:World)(kT:KT w)(b:Bool)(hl:b=true->1024<l.length)
  (hfw: ∀w',Below w.heap.size w w'->Calls Tryz.prog 8 #[.slice ab n c,.int .i64 26] w' (Rt (.bool b) w')):
  Calls Tryz.prog 3 #[.slice ab n c,.string ⟨(l).toArray⟩] w fun e w'=>e= .returned (.bool true)/\Below w.heap.size w w':=by
 have haw:=fun w' (hb:Below w.heap.size w w')=>Sg w' (kT.below hb)
 cases b
 ·skip
  go_enter func3,ntmps3
  have sb:=YN w
  iterate 2 go_step
  refine rp ?_;refine p_V (.bool false) (fun _=>rfl) ?_
  iterate 4 go_step
  refine r_p ?_;refine p_c 8 func8 #[.slice ab n c,.int .i64 26] (hfw _ sb) ?_;intro z1001 k;refine p_W ?_;replace sb:=kk sb k;clear k;refine p_V _ (Zz _ _ rfl false rfl) ?_;refine p_K true (.bool true) ?_
  iterate 4 go_step
  refine rp ?_;refine p_c 9 func9 #[] (haw _ sb) ?_;intro z2000 k;refine p_W ?_;replace sb:=kk sb k;clear k;refine p_W ?_
  go_wp2
  go_ret
  exact⟨rfl,sb⟩
 ·have hl':=hl rfl
  clear hl
  go_enter func3,ntmps3
  have sb:=YN w
  iterate 2 go_step
  refine rp ?_;refine p_V (.bool false) (fun _=>rfl) ?_
  iterate 4 go_step
  refine r_p ?_;refine p_c 8 func8 #[.slice ab n c,.int .i64 26] (hfw _ sb) ?_;intro z1001 k;refine p_W ?_;replace sb:=kk sb k;clear k;refine p_V _ (Zz _ _ rfl true rfl) ?_;refine p_V _ (YP _ _ rfl l rfl underlying9) ?_;refine p_V _ (Ho l.length 1024) ?_;refine p_K false (.bool true) ?_
  iterate 4 go_step
  refine rp ?_;refine p_c 9 func9 #[] (haw _ sb) ?_;intro z2000 k;refine p_W ?_;replace sb:=kk sb k;clear k;refine p_W ?_
  go_wp2
  go_ret
  exact⟨rfl,sb⟩
theorem xm (ab:Option Addr)(n c:Nat)(S:Nat->Value)(N:Nat->Nat)(M:Nat->Nat->Nat)(gb ob:Nat)(bcs:Array Value)(tb:TypeId)(l:List UInt8)(w:World)(kT:KT w)(hn:n<=26)(hl:l.length<=1024)(hN8: ∀i,i<n->N i<=8)(hna:VsAt w ab n S gb ob bcs tb)(hS: ∀i,i<n->Pt w (S i) (N i) (M i))
  (hfw: ∀w',Below w.heap.size w w'->Calls Tryz.prog 8 #[.slice ab n c,.int .i64 26] w' (Rt (.bool true) w')):
  Calls Tryz.prog 3 #[.slice ab n c,.string ⟨(l).toArray⟩] w fun e w'=>e= .returned (.bool true)/\Below w.heap.size w w':=by
 have haw:=fun w' (hb:Below w.heap.size w w')=>Sg w' (kT.below hb)
 have hlt: ∀i,i<n-> ∀j,j<N i->M i j<2^256:=fun i hi j hj=>by
  obtain⟨_,_,_,_,_,_,_,h⟩:=hS i hi
  exact h.lt j hj
 have hXl:=OC hlt
 have HM:Hid (MAt w (.slice ab n c) n N M):=⟨_,_,S,gb,ob,bcs,tb,rfl,hna,hS⟩
 have hby:=fun w' (hb:Below w.heap.size w w')=>EN (by omega) (HM.out.below hb)
 have hrb:=fun w' (hb:Below w.heap.size w w')=>NQ ab n c S gb ob bcs tb N M w' (by omega) (fun i hi=>by have:=hN8 i hi;omega) (hna.below hb) (fun i hi=>(hS i hi).below hb)
 have hdg:=fun w' (hb:Below w.heap.size w w')=>NN ab n c S gb ob bcs tb N M w' (by omega) (kT.below hb) (hna.below hb) (fun i hi=>(hS i hi).below hb)
 have HXB:Hid (xmB n N M=[]∨ ∃k G,XmV n k G/\xmB n N M=xmL n k G/\(∀i,i<n->N i=k)/\ ∀i,i<n-> ∀j,j<k->G (i*k+j)=M i j):=Iu hlt
 obtain⟨XB,hXB⟩: ∃XB,xmB n N M=XB:=⟨_,rfl⟩
 rw[hXB]at hXl hby hrb hdg HXB
 have hrs:=fun w'=>FY XB w' (by omega)
 clear hXB hlt kT hna hS
 by_cases hV: ∃n1 k1 G1,XmV n1 k1 G1/\l=xmL n1 k1 G1
 ·obtain⟨n1,k1,G1,hv,he⟩:=hV
  have ht1:=fun w'=>RV (l:=l) (by omega) hv he w'
  have ht2:=fun w'=>It (l:=l) (by omega) hv he w'
  have hb1:=fun {a1:Option Addr} {c1:Nat} w' (h:MAt w' (.slice a1 n1 c1) n1 (fun _=>k1) (fun a b=>G1 (a*k1+b)))=>EN (by have:=hv.n2;omega) h
  rw[zS hv,<-he]at hb1
  have hn25:=hv.n2
  have hk17:=hv.k2
  clear hv he
  go_enter func3,ntmps3
  have sb:=YN w
  iterate 2 go_step
  refine rp ?_;refine p_V (.bool false) (fun _=>rfl) ?_
  iterate 4 go_step
  refine r_p ?_;refine p_c 8 func8 #[.slice ab n c,.int .i64 26] (hfw _ sb) ?_;intro z1001 k;refine p_W ?_;replace sb:=kk sb k;clear k;refine p_V _ (Zz _ _ rfl true rfl) ?_;refine p_V _ (YP _ _ rfl l rfl underlying9) ?_;refine p_V _ (Qz l.length 1024) ?_;refine p_K false (.bool false) ?_
  iterate 7 go_step
  refine r_p ?_;refine p_c 10 func10 #[.slice ab n c] (hby _ sb) ?_;intro z3001 k;refine p_W ?_;replace sb:=kk sb k;clear k;refine p_W ?_
  iterate 3 go_step
  refine r_p ?_;refine p_f 11 func11 #[.string ⟨(l).toArray⟩] (ht1 _) ?_
  rintro _ z4001 ⟨a1,c1,rfl,hm1,hb⟩
  refine⟨_,rfl,?_⟩
  refine p_W ?_
  have k:=Kept.ofBelow hb
  clear hb;replace sb:=kk sb k;clear k;refine p_W ?_
  iterate 3 go_step
  refine r_p ?_;refine p_f 12 func12 #[.string ⟨(l).toArray⟩] (ht2 _) ?_
  rintro _ z5001 ⟨a2,c2,rfl,hm2,hb⟩
  refine⟨_,rfl,?_⟩
  refine p_W ?_
  have k:=Kept.ofBelow hb
  clear hb;replace hm1:=hm1.below k.nil;replace sb:=kk sb k;clear k;refine p_W ?_
  iterate 4 go_step
  refine r_p ?_;refine p_c 13 func13 #[.slice ab n c] (hrb _ sb) ?_;intro z6002 k;refine p_W ?_;replace hm1:=hm1.below k.nil;replace hm2:=hm2.below k.nil;replace sb:=kk sb k;clear k;refine p_V _ (Rz _ _ _ _ rfl XB XB rfl rfl false (decide_eq_true rfl)) ?_;refine p_c 14 func14 #[.slice ab n c] (hdg _ sb) ?_;intro z6006 k;refine p_W ?_;replace hm1:=hm1.below k.nil;replace hm2:=hm2.below k.nil;replace sb:=kk sb k;clear k;refine p_W ?_;refine p_c 15 func15 #[.string ⟨(XB).toArray⟩] (hrs _) ?_;intro z6008 k;refine p_W ?_;replace hm1:=hm1.below k.nil;replace hm2:=hm2.below k.nil;replace sb:=kk sb k;clear k;refine p_V _ (Rz _ _ _ _ rfl (sha XB) (sha XB) rfl rfl false (decide_eq_true rfl)) ?_;refine p_K false (.bool false) ?_;refine p_c 16 func16 #[.slice a1 n1 c1,.slice a2 n1 c2] (U4 (by omega) (fun _ _=>by omega) hm1 hm2) ?_;intro z6014 k;refine p_W ?_;replace hm1:=hm1.below k.nil;replace hm2:=hm2.below k.nil;replace sb:=kk sb k;clear k;refine p_V _ (Zz _ _ rfl true rfl) ?_;refine p_K false (.bool false) ?_;refine p_V _ (ZU .i64 _ _ _ _ rfl 0 0 rfl rfl false rfl) ?_;refine p_K false (.bool false) ?_;refine p_V _ (ZG .i64 _ _ _ _ rfl 0 0 rfl rfl true rfl) ?_;refine p_c 10 func10 #[.slice a1 n1 c1] (hb1 _ hm1) ?_;intro z6027 k;refine p_W ?_;replace hm1:=hm1.below k.nil;replace hm2:=hm2.below k.nil;replace sb:=kk sb k;clear k;refine p_W ?_;refine p_V _ (Rz _ _ _ _ rfl l l rfl rfl false (decide_eq_true rfl)) ?_;refine p_K true (.bool false) ?_;refine p_K false (.bool false) ?_;clear hm1 hm2 ht1 ht2 hb1 hby hrb hdg hrs
  rcases HXB.out with hX0|⟨k3,G3,hv3,he3,hN3,hG3⟩
  ·have ht3:=fun w'=>OE (l:=XB) (by omega) (by rw[hX0];exact T9 (.inl (by decide))) w'
   have hX1:decide (XB=[])=true:=decide_eq_true hX0
   clear hX0
   iterate 7 go_step
   refine r_p ?_;refine p_c 11 func11 #[.string ⟨(XB).toArray⟩] (ht3 _) ?_;intro z8001 k;refine p_W ?_;replace sb:=kk sb k;clear k;refine p_W ?_
   iterate 3 go_step
   refine r_p ?_;refine p_V _ (Gm _ _ _ _ rfl XB [] rfl rfl true hX1) ?_;refine p_K true (.bool true) ?_;refine p_c 9 func9 #[] (haw _ sb) ?_;intro z9012 k;refine p_W ?_;replace sb:=kk sb k;clear k;refine p_K true (.bool true) ?_
   go_wp2
   go_ret
   exact⟨rfl,sb⟩
  ·have ht3:=fun w'=>RV (l:=XB) (by omega) hv3 he3 w'
   have hX1:decide (XB=[])=false:=decide_eq_false (fun h=>by rw[h]at he3;cases he3)
   have hm4:=fun w' (hb:Below w.heap.size w w')=>(HM.out.below hb).to hN3 hG3
   have hk7:=hv3.k2
   clear he3 hv3 hN3 hG3
   iterate 7 go_step
   refine r_p ?_;refine p_f 11 func11 #[.string ⟨(XB).toArray⟩] (ht3 _) ?_
   rintro _ z8001 ⟨a3,c3,rfl,hm3,hb⟩
   refine⟨_,rfl,?_⟩
   refine p_W ?_
   have k:=Kept.ofBelow hb
   clear hb;replace sb:=kk sb k;clear k;refine p_W ?_
   iterate 3 go_step
   refine r_p ?_;refine p_V _ (Gm _ _ _ _ rfl XB [] rfl rfl false hX1) ?_;refine p_V _ (ZG .i64 _ _ _ _ rfl 0 0 rfl rfl true rfl) ?_;refine p_c 16 func16 #[.slice a3 n c3,.slice ab n c] (U4 (by omega) (fun _ _=>by omega) hm3 (hm4 _ sb)) ?_;intro z9008 k;refine p_W ?_;replace hm3:=hm3.below k.nil;replace sb:=kk sb k;clear k;refine p_K true (.bool true) ?_;refine p_K false (.bool true) ?_;refine p_c 9 func9 #[] (haw _ sb) ?_;intro z9012 k;refine p_W ?_;replace hm3:=hm3.below k.nil;replace sb:=kk sb k;clear k;refine p_K true (.bool true) ?_
   go_wp2
   go_ret
   exact⟨rfl,sb⟩
 ·have hno:(∀n k G,XmV n k G->l≠xmL n k G):=fun n1 k1 G1 h e=>hV ⟨n1,k1,G1,h,e⟩
  have ht1:=fun w'=>OE (l:=l) (by omega) hno w'
  have ht2:=fun w'=>FZ (l:=l) (by omega) hno w'
  clear hV hno
  go_enter func3,ntmps3
  have sb:=YN w
  iterate 2 go_step
  refine rp ?_;refine p_V (.bool false) (fun _=>rfl) ?_
  iterate 4 go_step
  refine r_p ?_;refine p_c 8 func8 #[.slice ab n c,.int .i64 26] (hfw _ sb) ?_;intro z1001 k;refine p_W ?_;replace sb:=kk sb k;clear k;refine p_V _ (Zz _ _ rfl true rfl) ?_;refine p_V _ (YP _ _ rfl l rfl underlying9) ?_;refine p_V _ (Qz l.length 1024) ?_;refine p_K false (.bool false) ?_
  iterate 7 go_step
  refine r_p ?_;refine p_c 10 func10 #[.slice ab n c] (hby _ sb) ?_;intro z3001 k;refine p_W ?_;replace sb:=kk sb k;clear k;refine p_W ?_
  iterate 3 go_step
  refine r_p ?_;refine p_c 11 func11 #[.string ⟨(l).toArray⟩] (ht1 _) ?_;intro z4001 k;refine p_W ?_;replace sb:=kk sb k;clear k;refine p_W ?_
  iterate 3 go_step
  refine r_p ?_;refine p_c 12 func12 #[.string ⟨(l).toArray⟩] (ht2 _) ?_;intro z5001 k;refine p_W ?_;replace sb:=kk sb k;clear k;refine p_W ?_
  iterate 4 go_step
  refine r_p ?_;refine p_c 13 func13 #[.slice ab n c] (hrb _ sb) ?_;intro z6002 k;refine p_W ?_;replace sb:=kk sb k;clear k;refine p_V _ (Rz _ _ _ _ rfl XB XB rfl rfl false (decide_eq_true rfl)) ?_;refine p_c 14 func14 #[.slice ab n c] (hdg _ sb) ?_;intro z6006 k;refine p_W ?_;replace sb:=kk sb k;clear k;refine p_W ?_;refine p_c 15 func15 #[.string ⟨(XB).toArray⟩] (hrs _) ?_;intro z6008 k;refine p_W ?_;replace sb:=kk sb k;clear k;refine p_V _ (Rz _ _ _ _ rfl (sha XB) (sha XB) rfl rfl false (decide_eq_true rfl)) ?_;refine p_K false (.bool false) ?_;refine p_c 16 func16 #[.slice none 0 0,.slice none 0 0] (U4 (N:=fun _=>0) (M:=fun _ _=>0) (by omega) (fun _ _=>by omega) (Is _ _ _) (Is _ _ _)) ?_;intro z6014 k;refine p_W ?_;replace sb:=kk sb k;clear k;refine p_V _ (Zz _ _ rfl true rfl) ?_;refine p_K false (.bool false) ?_;refine p_V _ (ZU .i64 _ _ _ _ rfl 4 4 rfl rfl false rfl) ?_;refine p_K false (.bool false) ?_;refine p_V _ (ZG .i64 _ _ _ _ rfl 4 0 rfl rfl false rfl) ?_;refine p_K false (.bool false) ?_;refine p_K false (.bool false) ?_;clear ht1 ht2 hby hrb hdg hrs
  rcases HXB.out with hX0|⟨k3,G3,hv3,he3,hN3,hG3⟩
  ·have ht3:=fun w'=>OE (l:=XB) (by omega) (by rw[hX0];exact T9 (.inl (by decide))) w'
   have hX1:decide (XB=[])=true:=decide_eq_true hX0
   clear hX0
   iterate 7 go_step
   refine r_p ?_;refine p_c 11 func11 #[.string ⟨(XB).toArray⟩] (ht3 _) ?_;intro z8001 k;refine p_W ?_;replace sb:=kk sb k;clear k;refine p_W ?_
   iterate 3 go_step
   refine r_p ?_;refine p_V _ (Gm _ _ _ _ rfl XB [] rfl rfl true hX1) ?_;refine p_K true (.bool true) ?_;refine p_c 9 func9 #[] (haw _ sb) ?_;intro z9012 k;refine p_W ?_;replace sb:=kk sb k;clear k;refine p_K true (.bool true) ?_
   go_wp2
   go_ret
   exact⟨rfl,sb⟩
  ·have ht3:=fun w'=>RV (l:=XB) (by omega) hv3 he3 w'
   have hX1:decide (XB=[])=false:=decide_eq_false (fun h=>by rw[h]at he3;cases he3)
   have hm4:=fun w' (hb:Below w.heap.size w w')=>(HM.out.below hb).to hN3 hG3
   have hk7:=hv3.k2
   clear he3 hv3 hN3 hG3
   iterate 7 go_step
   refine r_p ?_;refine p_f 11 func11 #[.string ⟨(XB).toArray⟩] (ht3 _) ?_
   rintro _ z8001 ⟨a3,c3,rfl,hm3,hb⟩
   refine⟨_,rfl,?_⟩
   refine p_W ?_
   have k:=Kept.ofBelow hb
   clear hb;replace sb:=kk sb k;clear k;refine p_W ?_
   iterate 3 go_step
   refine r_p ?_;refine p_V _ (Gm _ _ _ _ rfl XB [] rfl rfl false hX1) ?_;refine p_V _ (ZG .i64 _ _ _ _ rfl 0 0 rfl rfl true rfl) ?_;refine p_c 16 func16 #[.slice a3 n c3,.slice ab n c] (U4 (by omega) (fun _ _=>by omega) hm3 (hm4 _ sb)) ?_;intro z9008 k;refine p_W ?_;replace hm3:=hm3.below k.nil;replace sb:=kk sb k;clear k;refine p_K true (.bool true) ?_;refine p_K false (.bool true) ?_;refine p_c 9 func9 #[] (haw _ sb) ?_;intro z9012 k;refine p_W ?_;replace hm3:=hm3.below k.nil;replace sb:=kk sb k;clear k;refine p_K true (.bool true) ?_
   go_wp2
   go_ret
   exact⟨rfl,sb⟩
theorem xZ (ab:Option Addr)(n c:Nat)(S:Nat->Value)(N:Nat->Nat)(M:Nat->Nat->Nat)(gb ob:Nat)(bcs:Array Value)(tb:TypeId)(l:List UInt8)(w:World)(hna:VsAt w ab n S gb ob bcs tb)(hS: ∀i,i<n->Pt w (S i) (N i) (M i)/\N i<=maxLen)(hw:(⟨l.toArray⟩:ByteArray).size<=maxLen)(kT:KT w):
  Calls Tryz.prog 3 #[.slice ab n c,.string ⟨(l).toArray⟩] w fun e w'=>e= .returned (.bool true)/\Below w.heap.size w w':=by
 have hfw:=fun w' (hb:Below w.heap.size w w')=>Fk 26 ab n c S gb ob bcs tb N w' (by decide) (hna.below hb) (fun i hi=>by
  obtain⟨⟨ai,ci,_,_,_,_,e,_⟩,_⟩:=hS i hi
  exact⟨ai,ci,e⟩)
 by_cases hP:n<=26/\ ∀i,i<n->N i<=8
 ·have hf2: ∀w',Below w.heap.size w w'->Calls Tryz.prog 8 #[.slice ab n c,.int .i64 26] w' fun e w2=>e= .returned (.bool true)/\Below w'.heap.size w' w2:=fun w' hb=>(hfw w' hb).mono fun e w2 ⟨B,he,hB,hb2⟩=>⟨by rw[he,hB.2 hP],hb2⟩
  by_cases hl:1024<l.length
  ·exact zT ab n c l w kT true (fun _=>hl) hf2
  ·exact xm ab n c S N M gb ob bcs tb l w kT hP.1 (by omega) hP.2 hna (fun i hi=>(hS i hi).1) hf2
 ·exact zT ab n c l w kT false nofun fun w' hb=>(hfw w' hb).mono fun e w2 ⟨B,he,hB,hb2⟩=>⟨by rw[he,Bool.eq_false_iff.2 (fun h=>hP (hB.1 h))],hb2⟩
theorem zU (os:Os)(started:os.Started)(H:Type)(enc:TypeId×Value->H):
  ReturnsInHanded {} Tryz.checked os 3 .any (fun w args=>(Rows.matrixBytesSpec.pre enc Tryz.prog Tryz.f3 [] false w args/\laidMetH Tryz.prog lk w)/\sizedMet enc Tryz.prog Tryz.f3 (OpenSpec.ofChange Rows.matrixBytesSpec) false w args)
   (Rows.matrixBytesSpec.post enc Tryz.prog Tryz.f3 false true false false):=by
 refine returnsInHanded_of_change_and (C:=Tryz.checked) (X:=fun w _=>laidMetH Tryz.prog lk w) (fun _ _ _ hh h=>h.of_heap hh) own started (by kernel_rfl) func3
  (ChangeSpec.witness_shaped (enc:=enc) (C:=Tryz.checked) (os:=os) (X:=fun w _=>laidMetH Tryz.prog lk w) false (World.doorLaid Tryz.prog 14 os) #[.slice none 0 0,.string ⟨#[]⟩] 8 rfl (World.shaped_of_RefB (by kernel_rfl) (by kernel_rfl)) (by kernel_rfl) (by kernel_rfl) (by kernel_rfl) (FJ os _)) ?_
 intro W base args ds gs before hval0 hW _ _ hL _
 have hval: ∀(j:Nat) t v,Tryz.f3.params[j]?=some t->args[j]?=some v->Value.okWide Tryz.prog W .any base t v:=hval0
 have hW':=hW
 obtain⟨p,q,hA0,hV,rfl,hfz,hnd⟩:=hW
 have hA:DataW.TrodAll enc Tryz.prog W 0 (fun _=>true) true Tryz.f3.params.toList args.toList ds p:=hA0
 rw[Tryz.params3]at hA hval
 obtain⟨v0,vs0,d0,ds0,p0,q0,hargs,rfl,rfl,h0,r0⟩:=trodAll_cons hA
 obtain⟨v1,vs1,d1,ds1,p1,q1,rfl,rfl,rfl,h1,r1⟩:=trodAll_cons r0
 obtain⟨rfl,rfl,rfl⟩:=trodAll_nil r1
 obtain rfl:args=#[v0,v1]:=by cases args;simp_all
 obtain⟨rfl,rfl⟩:=trodVars_none hV
 have k0:=h0
 have lt0:=SK h0
 obtain⟨ab0,m0,c0,S0,N0,A0,gb0,ob0,bcs0,tb0,rfl,hvs0,hrs0⟩:=Ba (hval 0 23 v0 rfl rfl) h0
 have k1:=h1
 have lt1:=SK h1
 obtain⟨⟨⟨s1⟩⟩,rfl,rfl,rfl,w1⟩:=open_string underlying9 (hval 1 9 v1 rfl rfl) h1
 clear hA0 hval0
 refine(xZ ab0 m0 c0 S0 N0 A0 gb0 ob0 bcs0 tb0 s1 W hvs0 hrs0 w1 (M0 hL)).mono fun e W' ⟨he,bel⟩=>?_
 subst he
 exact⟨_,rfl,_,_,_,[],_,[],hW',trodAll_mk1 (shut_bool underlying4 _),(trodAll_cons_mk (Below.trod JM (by kernel_rfl) (of_decide_eq_true (by kernel_rfl)) k0 bel lt0) (trodAll_cons_mk (Below.trod JM (by kernel_rfl) (of_decide_eq_true (by kernel_rfl)) k1 bel lt1) trodAll_mk0)),rfl,bel.frame _,fun h=>by cases h⟩
theorem wa:Rows.matrixBytesRow.holds Tryz.pinned (OpenSpec.ofChange Rows.matrixBytesSpec):=
 OpenClaim.holds_of_wide 3 Tryz.f3 rfl rfl rfl rfl rfl rfl rfl ⟨rfl,rfl,rfl,rfl,rfl⟩ rfl rfl rfl rfl rfl (by kernel_rfl) func3 (by kernel_rfl)
  (of_decide_eq_true (by kernel_rfl)) (by unfold Func.isWrapper;first|(rw[if_pos (by decide+kernel)];kernel_rfl)|(rw[if_neg (by decide+kernel)];exact⟨rfl,rfl⟩))
  (fun os started H enc _=>zU os started H enc)
theorem card:Claim7.holds Tryz.pinned (.plain (OpenSpec.ofChange Rows.matrixBytesSpec)) Rows.matrixBytesCard:=
 Claim7.holds_tied_plain_at .later [] [.data] true (true, "3134ec18fe1976ef51216545569fad35d52a17a6f837258b16d74a7665cfb5a1") false
  wa (fun _ h=>by cases h) (by kernel_rfl) (fun _ h=>by cases h) matrixBytes_row_tie rfl ⟨rfl,rfl⟩ (by kernel_rfl) rfl
  (fun f fn hf hfn=>by
   obtain rfl:f=3:=Option.some.inj ((show Tryz.prog.funcNamed "sacristy/sacristylaw16.MatrixBytes" =some 3 by kernel_rfl).symm.trans hf) |>.symm
   obtain rfl:fn=Tryz.f3:=(Option.some.inj (func3.symm.trans hfn)).symm
   exact⟨by kernel_rfl,fun j t ht=>by
    rw[Tryz.params3]at ht
    have hm:t∈[23,9]:=by simpa using Array.mem_of_getElem? ht
    have hall:([23,9].all fun u=> !Tryz.prog.wantsStandIn u)=true:=by kernel_rfl
    exact(show Tryz.prog.wantsStandIn t=false by simpa using List.all_eq_true.1 hall t hm)⟩)
  (by kernel_rfl)
end matrixBytesP
/-- for every matrix and text: of up to 26 rows of few numbers, and up to 1,024 bytes, the bytes and the digest are the document's, what is taken is what the document takes, and what is put is taken as it was; no condition. -/
theorem matrixBytes_holds:Rows.MatrixBytesCardSaid:=matrixBytesP.card
