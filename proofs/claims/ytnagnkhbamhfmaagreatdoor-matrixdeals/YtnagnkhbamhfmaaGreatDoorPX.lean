import Derived.Test.YtnagnkhbamhfmaaGreatDoorPM
import Derived.Test.YtnagnkhbamhfmaaGreatDoorMQ
import Derived.WalkMore
set_option maxRecDepth 100000
set_option maxHeartbeats 8000000
namespace Go.Proofs.YtnagnkhbamhfmaaGreatDoor
set_option linter.all false
open Go.Proofs.Tryz
open Go.RowKit
theorem Z7 {P:Program}{o:Oper}{ρ:Operand->Value}(t:TypeId)(x y:Operand)(u:TypeId)(ho:o.op= .binOp .mul t x y u)(n m r:Nat)(hx:ρ x= .int .i64 n)(hy:ρ y= .int .i64 m)(hr:n*m=r)(h:r<9223372036854775808)(w:World):
  (execOp ρ o).run P w= .ok (.value (.int .i64 (r:Int))) w:=by
 subst hr;unfold execOp;simp only[ho,hx,hy];simp[go_sem];rw[<-cJ0,J_];omega
theorem Xs {P:Program}{o:Oper}{ρ:Operand->Value}(t:TypeId)(x y:Operand)(u:TypeId)(ho:o.op= .binOp .leq t x y u)(n m:Int)(hx:ρ x= .int .i64 n)(hy:ρ y= .int .i64 m)(b:Bool)(hb:decide (n<=m)=b)(w:World):
  (execOp ρ o).run P w= .ok (.value (.bool b)) w:=by
 subst hb;unfold execOp;simp only[ho,hx,hy];simp[go_sem]
theorem YB {P:Program}{o:Oper}{ρ:Operand->Value}(t:TypeId)(x y:Operand)(u:TypeId)(ho:o.op= .binOp .lss t x y u)(n m:Int)(hx:ρ x= .int .i64 n)(hy:ρ y= .int .i64 m)(b:Bool)(hb:decide (n<m)=b)(w:World):
  (execOp ρ o).run P w= .ok (.value (.bool b)) w:=by
 subst hb;unfold execOp;simp only[ho,hx,hy];simp[go_sem]
theorem Xe {P:Program}{o:Oper}{ρ:Operand->Value}{t:TypeId}{x y:Operand}{u:TypeId}(n m:Int)(h: ¬n<m:=by omega)(ho:o.op= .binOp .lss t x y u:=by exact rfl)(hx:ρ x= .int .i64 n:=by exact rfl)(hy:ρ y= .int .i64 m:=by exact rfl): ∀w,(execOp ρ o).run P w= .ok (.value (.bool false)) w:=YB t x y u ho n m hx hy false (e_ h)
theorem X4 {P:Program}{o:Oper}{ρ:Operand->Value}{t:TypeId}{x y:Operand}{u:TypeId}(n m:Int)(h:n<m:=by omega)(ho:o.op= .binOp .lss t x y u:=by exact rfl)(hx:ρ x= .int .i64 n:=by exact rfl)(hy:ρ y= .int .i64 m:=by exact rfl): ∀w,(execOp ρ o).run P w= .ok (.value (.bool true)) w:=YB t x y u ho n m hx hy true (d_ h)
theorem xl (d:Nat)(h:d<=65537):d*d<9223372036854775808:=by
 have:=L_ h h;omega
theorem MQ (z:Int)(w:World)(h:z<2):
  Calls prog 150 #[.int .i64 z] w fun e w'=>e= .returned (.bool false)/\Below w.heap.size w w':=by
 go_enter func150,ntmps150
 iterate 2 go_step
 apply Za [] [_] trivial a_
 ·intro p;refine Ze (.bool false) (fun _=>rfl) ?_;simp only[pv];refine Zf ?_;intro w2 hkw hrw hnew hdis;have sb:=k_b hkw;clear hkw hrw hnew hdis;iterate 2 go_step
  go_step3
  iterate 2 go_step
  refine ZB ?_;refine q_m ?_;simp only[pv];refine q_v _ (YB _ _ _ _ rfl z 2 rfl rfl true (d_ h)) ?_;refine q_m ?_;simp only[pv];refine ZI (by rfl) ?_;simp only[pv];refine ZI (by rfl) ?_;refine q_p true (.bool true) ?_;simp only[pv];refine ZR ?_;intro w3 hqb;replace sb:=b_o sb hqb;clear hqb;go_wp2;rw[gB0];go_ret;exact⟨rfl,sb⟩
 ·rfl
theorem Oe (z:Int)(w:World)(h:65536<=z):
  Calls prog 150 #[.int .i64 z] w fun e w'=>e= .returned (.bool false)/\Below w.heap.size w w':=by
 go_enter func150,ntmps150
 iterate 2 go_step
 apply Za [] [_] trivial a_
 ·intro p;refine Ze (.bool false) (fun _=>rfl) ?_;simp only[pv];refine Zf ?_;intro w2 hkw hrw hnew hdis;have sb:=k_b hkw;clear hkw hrw hnew hdis;iterate 2 go_step
  go_step3
  iterate 2 go_step
  refine ZB ?_;refine q_m ?_;refine q_v _ (Xe z 2) ?_;refine q_m ?_;refine q_m ?_;simp only[pv];refine q_v _ (ZY _ _ _ _ rfl z 65536 rfl rfl true (d_ h)) ?_;refine q_p false (.bool true) ?_;simp only[pv];refine ZR ?_;intro w3 hqb;replace sb:=b_o sb hqb;clear hqb;go_wp2;rw[gB0];go_ret;exact⟨rfl,sb⟩
 ·rfl
theorem KQ (n:Nat)(B:Bool)(w:World)(h2:2<=n)(h:n<65536)(hB:TG n n 2=B):
  Calls prog 150 #[.int .i64 n] w fun e w'=>e= .returned (.bool B)/\Below w.heap.size w w':=by
 have HB:Hid (TG n n (0+2)=B):=hB;clear hB
 go_enter func150,ntmps150
 iterate 2 go_step
 apply Za [] [_] trivial a_
 ·intro p;refine Ze (.bool false) (fun _=>rfl) ?_;simp only[pv];refine Zf ?_;intro w2 hkw hrw hnew hdis;have sb:=k_b hkw;clear hkw hrw hnew hdis;iterate 2 go_step
  go_step3
  iterate 2 go_step
  refine ZB ?_;refine q_m ?_;refine q_v _ (Xe n 2) ?_;refine q_m ?_;refine q_m ?_;simp only[pv];refine q_v _ (ZY _ _ _ _ rfl n 65536 rfl rfl false (e_ (by omega))) ?_;refine q_p false (.bool false) ?_;simp only[pv];refine ZR ?_;intro w3 hqb;replace sb:=b_o sb hqb;clear hqb
  go_wp2_with fail
  go_step3
  go_wp2_with fail
  go_loopg [3,13] n (fun g s3 s13 wr=> ∃k:Nat,k+g=n/\s3= .bool true/\s13= .int .i64 k/\TG n g (k+2)=B/\Below w.heap.size w wr)
  case atStart=>exact⟨0,by omega,rfl,rfl,HB.out,sb⟩
  case round=>
   clear sb HB;obtain⟨k,hk,rfl,rfl,hs,sb⟩:=hrel
   cases gk with
   |zero=>
    obtain rfl:k=n:=by omega
    obtain rfl:true=B:=hs
    go_step
    apply Za [] [_] trivial a_
    ·intro p;refine Ze _ (Xe k k) ?_;simp only[pv];refine Zf ?_;intro w4 hkw hrw hnew hdis;replace sb:=kk sb hkw;clear hkw hrw hnew hdis;go_wp2
     (try rw[gB0])
     go_ret;exact⟨rfl,sb⟩
    ·rfl
   |succ g=>
    have hsq:=xl (2+k) (by omega);unfold TG at hs;rw[bM0 k 2]at hs
    go_step
    apply Za [] [_] trivial a_
    ·intro p;refine Ze _ (X4 k n) ?_;simp only[pv];refine Zf ?_;intro w4 hkw hrw hnew hdis;replace sb:=kk sb hkw;clear hkw hrw hnew hdis;iterate 10 go_step
     apply Za [] [_,_] trivial a_
     ·intro p;refine m_m ?_;refine m_a ?_;simp only[pv];refine Zf ?_;intro w5 hkw hrw hnew hdis;replace sb:=kk sb hkw;clear hkw hrw hnew hdis;iterate 3 go_step
      apply Za [] [_,_,_] trivial a_
      ·intro p;refine m_m ?_;simp only[pv];refine Ze _ (x_a 2 k) ?_;refine m_a ?_;simp only[pv];refine Zf ?_;intro w6 hkw hrw hnew hdis;replace sb:=kk sb hkw;clear hkw hrw hnew hdis;by_cases hbig:n<(2+k)*(2+k)
       ·rw[j_ hbig]at hs;subst hs;generalize hd:(2+k)*(2+k)=D at*;iterate 4 go_step
        apply Za [] [_,_,_,_,_,_] trivial a_
        ·intro p;refine m_m ?_;refine m_m ?_;simp only[pv];refine Ze _ (Z7 _ _ _ _ rfl (2+k) (2+k) D rfl rfl hd hsq) ?_;refine m_m ?_;simp only[pv];refine Ze _ (Gh D n) ?_;refine m_a ?_;simp only[pv];refine Zf ?_;intro w7 hkw hrw hnew hdis;replace sb:=kk sb hkw;clear hkw hrw hnew hdis;go_wp2
         (try rw[gB0])
         go_ret;exact⟨rfl,sb⟩
        ·rfl
       rw[i_ hbig]at hs;have hd0:0<2+k:=by omega
       by_cases hz:n%(2+k)=0
       ·rw[j_ hz]at hs;subst hs;generalize hd:(2+k)*(2+k)=D at*;iterate 4 go_step
        apply Za [] [_,_,_,_,_,_] trivial a_
        ·intro p;refine m_m ?_;refine m_m ?_;simp only[pv];refine Ze _ (Z7 _ _ _ _ rfl (2+k) (2+k) D rfl rfl hd hsq) ?_;refine m_m ?_;simp only[pv];refine Ze _ (UY D n) ?_;refine m_a ?_;simp only[pv];refine Zf ?_;intro w7 hkw hrw hnew hdis;replace sb:=kk sb hkw;clear hkw hrw hnew hdis;iterate 4 go_step
         apply Za [] [_,_,_,_,_] trivial a_
         ·intro p;refine m_m ?_;refine m_m ?_;simp only[pv];refine Ze _ (YO _ _ _ _ rfl n (2+k) rfl rfl hd0) ?_;simp only[pv];refine Ze _ (ZK .i64 _ _ _ _ rfl (n%(2+k):Nat) 0 rfl rfl true (d_ (by omega))) ?_;refine m_a ?_;simp only[pv];refine Zf ?_;intro w8 hkw hrw hnew hdis;replace sb:=kk sb hkw;clear hkw hrw hnew hdis;go_wp2
          (try rw[gB0])
          go_ret;exact⟨rfl,sb⟩
         ·rfl
        ·rfl
       ·rw[i_ hz]at hs;generalize hd:(2+k)*(2+k)=D at*;iterate 4 go_step
        apply Za [] [_,_,_,_,_,_] trivial a_
        ·intro p;refine m_m ?_;refine m_m ?_;simp only[pv];refine Ze _ (Z7 _ _ _ _ rfl (2+k) (2+k) D rfl rfl hd hsq) ?_;refine m_m ?_;simp only[pv];refine Ze _ (UY D n) ?_;refine m_a ?_;simp only[pv];refine Zf ?_;intro w7 hkw hrw hnew hdis;replace sb:=kk sb hkw;clear hkw hrw hnew hdis;iterate 4 go_step
         apply Za [] [_,_,_,_,_] trivial a_
         ·intro p;refine m_m ?_;refine m_m ?_;simp only[pv];refine Ze _ (YO _ _ _ _ rfl n (2+k) rfl rfl hd0) ?_;simp only[pv];refine Ze _ (ZK .i64 _ _ _ _ rfl (n%(2+k):Nat) 0 rfl rfl false (e_ (by omega))) ?_;refine m_a ?_;simp only[pv];refine Zf ?_;intro w8 hkw hrw hnew hdis;replace sb:=kk sb hkw;clear hkw hrw hnew hdis;iterate 6 go_step
          apply Za [] [_,_] trivial a_
          ·intro p;refine Ze _ (x_a k 1) ?_;refine m_m ?_;simp only[pv];refine Zf ?_;intro w9 hkw hrw hnew hdis;replace sb:=kk sb hkw;clear hkw hrw hnew hdis;go_wp2
           go_roundg g
           case measure=>omega
           case rel=>exact⟨k+1,by omega,rfl,rfl,by rw[<-hs,show k+1+2=2+k+1 by omega],sb⟩
          ·rfl
         ·rfl
        ·rfl
      ·rfl
     ·rfl
    ·rfl
 ·rfl
theorem KR (z:Int)(w:World):
  Calls prog 150 #[.int .i64 z] w (Rt (.bool (smI z)) w):=by
 unfold smI;by_cases h1:z<2
 ·rw[e_ (show ¬2<=z by omega)];exact MQ z w h1
 by_cases h2:65536<=z
 ·rw[e_ (show ¬z<65536 by omega),bI0,Bool.and_false];exact Oe z w h2
 obtain⟨n,rfl⟩:=aM0 (show 0<=z by omega);rw[d_ (show(2:Int)<=n by omega),d_ (show(n:Int)<65536 by omega),q_,bD0,bD0];exact KQ n _ w (by omega) (by omega) rfl
def plI (z:Int):Bool:=decide (2<=z)&&(decide (z<=4294967296)&&TG z.toNat 65534 2)
def clC (q:Option Addr)(F K:Nat):Array Value:=#[.pointer q,.int .u64 (lm F 0),.int .u64 (lm F 1),.int .u64 (lm F 2),.int .u64 (lm F 3),.int .u64 (lm K 0),.int .u64 (lm K 1),.int .u64 (lm K 2),.int .u64 (lm K 3)]
theorem wM (q:Option Addr)(F K:Nat): ∀j v,(Zc F).toList[j]?=some v->(clC q F K)[1+j]?=some v:=UX rfl rfl rfl rfl
theorem wN (q:Option Addr)(F K:Nat): ∀j v,(Zc K).toList[j]?=some v->(clC q F K)[5+j]?=some v:=UX rfl rfl rfl rfl
theorem EJ (q:Option Addr)(F K:Nat):(clC q F K).all (·.oneCell')=true:=by simp[clC,Value.oneCell']
theorem KS:(prog.info? 181).map (fun i=>(i.zero,i.size))=some (some (.agg (clC none 0 0)),9):=by kernel_rfl
theorem KU (w:World):(zeroValue 181).run prog w= .ok (.agg (clC none 0 0)) w:=(Q_ KS).1 w
theorem RH:(prog.info? 181).map (·.size)=some 9:=(Q_ KS).2
theorem Yi (c:Array Value): ∀j v,c.toList[j]?=some v->c[0+j]?=some v:=fun j v h=>by rw[B_,<-o_];exact h
theorem KV (q:Option Addr)(F K:Nat):prog.built 181 [(0,.pointer q),(1,.agg (Zc F)),(2,.agg (Zc K))]=some (clC q F K):=by
 unfold Zc clC;generalize lm F 0=a0;generalize lm F 1=a1;generalize lm F 2=a2;generalize lm F 3=a3;generalize lm K 0=b0;generalize lm K 1=b1;generalize lm K 2=b2;generalize lm K 3=b3
 kernel_rfl
theorem MR {o:Oper}{ρ:Operand->Value}{x0 x1 x2:Operand}(q:Option Addr)(F K:Nat)(ho:o.op= .build 181 #[(0,x0),(1,x1),(2,x2)])(h0:ρ x0= .pointer q)(h1:ρ x1= .agg (Zc F))(h2:ρ x2= .agg (Zc K))(w:World):
  (execOp ρ o).run prog w= .ok (.value (.agg (clC q F K))) w:=by
 unfold execOp;simp only[ho,cF0,dC0,eP0,h0,h1,h2,p_];rw[iE0 w 181 _ (clC q F K) (KV q F K)];rfl
theorem KW {P:Program}{fn:Func}{R:Ending->World->Prop}{a:Act}{w:World}{p u:Tmp}{ty:TypeId}(hf:fn.results=#[.cell p ty,.tmp u])(g:Nat)(hp:a.tmps.getD p undef= .pointer (some ⟨g,0,none⟩))
  {t:TypeId}{cs:Array Value}(hr:Row w g cs t)(fs:Array Field)(hu:P.underlying ty=some (.struct fs))(hi:(P.info? ty).map (·.size)=some cs.size)(hd:a.defers=[])
  (v:Value)(hv:a.tmps.getD u undef=v)(h:R (.returned (.tuple #[.agg cs,v])) w):bodyPost P fn R .ret a w:=by
 refine eM0 (v:=.tuple #[.agg cs,v]) ?_ hd h;rw[results_cell_tmp hf,hp,hv];simp only[asAddr,Y_,k_];rw[cB0 w g t ty cs (0,0) _ hr hu rfl hi];rfl
theorem SU (X:Nat)(h:1<=X):Zc (WC X 1)=Zc (X-1):=by
 rw[W5];unfold WC;rw[show X+(2^256-1)=X-1+2^256 by omega,Nat.add_mod_right]
theorem KX (A B:Nat):decide ((0:Int)<Wn A B)=decide (B<A):=by
 unfold Wn
 split
 ·rw[e_ (by omega),e_ (by omega)]
 ·split
  ·rw[d_ (by omega),d_ (by assumption)]
  ·rw[e_ (by omega),e_ (by omega)]
theorem QP (X:Nat):(!decide (X%2^256=X%2^256))=false:=by rw[d_ rfl];rfl
theorem CW (X Y:Nat)(hX:X<2^256)(hY:Y<2^256)(h:X≠Y):(!decide (X%2^256=Y%2^256))=true:=by
 rw[g_ hX,g_ hY,e_ h];rfl
theorem KY (F N L H:Nat)(w:World)(hb:(!decide (H%2^256=0%2^256))=true)
  (hmu: ∀w',Calls prog 157 #[.agg (Zc F),.agg (Zc F)] w' (Rt (.tuple #[.agg (Zc L),.agg (Zc H)]) w')):
  Calls prog 188 #[.agg (Zc F),.agg (Zc N)] w fun e w'=>e= .returned (.bool true)/\Below w.heap.size w w':=by
 go_enter func188,ntmps188
 iterate 2 go_step
 apply Za [] [_,_,_] trivial a_
 ·intro p;refine Ya 57 _ rfl _ rfl ?_;simp only[pv];refine Ya 57 _ rfl _ rfl ?_;simp only[pv];refine Ze (.bool false) (fun _=>rfl) ?_;simp only[pv];refine Zf ?_;intro w2 hkw hrw hnew hdis;have n2:=hnew 0 rfl;have n3:=hnew 1 rfl;have zr2:Row w2 (p 0) (Zc F) 57:=hrw 1 (57,Zc F) rfl;have zr3:Row w2 (p 1) (Zc N) 57:=hrw 3 (57,Zc N) rfl;have sb:=k_b hkw;clear hkw hrw hnew hdis n2 n3;generalize p 0=g2 at*;generalize p 1=g3 at*;have r2:=zr2;clear zr2;have r3:=zr3;clear zr3;iterate 3 go_step
  apply Za [] [_,_,_,_,_,_,_,_,_,_] trivial a_
  ·intro p;refine m_l r2 ?_;simp only[pv];refine m_l r2 ?_;simp only[pv];refine m_c 157 func157 #[.agg (Zc F),.agg (Zc F)] hmu ?_;refine m_m ?_;refine m_e ?_;refine m_e ?_;simp only[pv];refine m_n ?_;simp only[pv];refine m_n ?_;simp only[pv];refine m_p 13 L ?_;simp only[Act.put];refine m_p 15 H ?_;simp only[Act.put];refine Zf ?_;intro w3 hkw hrw hnew hdis;have zr5:Row w3 (p 6) (Zc L) 57:=hrw 13 (57,Zc L) rfl;have zr6:Row w3 (p 7) (Zc H) 57:=hrw 15 (57,Zc H) rfl;replace r3:=hkw.ro r3;replace sb:=kk sb hkw;clear hkw hrw hnew hdis;generalize p 6=g5 at*;generalize p 7=g6 at*;clear zr5;have r6:=zr6;clear zr6;iterate 3 go_step
   refine ZB ?_;refine YX (by rfl) 57 _ rfl _ rfl r6 4 _ b_ Zd ?_;simp only[pv];refine q_v _ (ZE 57 rfl _ ZA) ?_;simp only[pv];refine q_v (.bool true) (fun w'=>(Z5 _ _ _ rfl H 0 rfl rfl w').trans (by rw[hb])) ?_;refine q_m ?_;simp only[pv];refine ZI (by rfl) ?_;simp only[pv];refine ZI (by rfl) ?_;simp only[pv];refine ZI (by rfl) ?_;simp only[pv];refine ZI (by rfl) ?_;refine q_p true (.bool true) ?_;refine q_a ?_;simp only[pv];refine ZR ?_;intro w4 hqb;replace sb:=b_o sb hqb;clear hqb;go_wp2;go_ret;exact⟨rfl,sb⟩
  ·rfl
 ·rfl
theorem GB (F N L H:Nat)(z:Int)(w:World)(hb:(!decide (H%2^256=0%2^256))=false)
  (hmu: ∀w',Calls prog 157 #[.agg (Zc F),.agg (Zc F)] w' (Rt (.tuple #[.agg (Zc L),.agg (Zc H)]) w'))
  (hcm: ∀w',Calls prog 112 #[.agg (Zc L),.agg (Zc N)] w' (Rt (.int .i64 z) w')):
  Calls prog 188 #[.agg (Zc F),.agg (Zc N)] w fun e w'=>e= .returned (.bool (decide (0<z)))/\Below w.heap.size w w':=by
 go_enter func188,ntmps188
 iterate 2 go_step
 apply Za [] [_,_,_] trivial a_
 ·intro p;refine Ya 57 _ rfl _ rfl ?_;simp only[pv];refine Ya 57 _ rfl _ rfl ?_;simp only[pv];refine Ze (.bool false) (fun _=>rfl) ?_;simp only[pv];refine Zf ?_;intro w2 hkw hrw hnew hdis;have n2:=hnew 0 rfl;have n3:=hnew 1 rfl;have zr2:Row w2 (p 0) (Zc F) 57:=hrw 1 (57,Zc F) rfl;have zr3:Row w2 (p 1) (Zc N) 57:=hrw 3 (57,Zc N) rfl;have sb:=k_b hkw;clear hkw hrw hnew hdis n2 n3;generalize p 0=g2 at*;generalize p 1=g3 at*;have r2:=zr2;clear zr2;have r3:=zr3;clear zr3;iterate 3 go_step
  apply Za [] [_,_,_,_,_,_,_,_,_,_] trivial a_
  ·intro p;refine m_l r2 ?_;simp only[pv];refine m_l r2 ?_;simp only[pv];refine m_c 157 func157 #[.agg (Zc F),.agg (Zc F)] hmu ?_;refine m_m ?_;refine m_e ?_;refine m_e ?_;simp only[pv];refine m_n ?_;simp only[pv];refine m_n ?_;simp only[pv];refine m_p 13 L ?_;simp only[Act.put];refine m_p 15 H ?_;simp only[Act.put];refine Zf ?_;intro w3 hkw hrw hnew hdis;have zr5:Row w3 (p 6) (Zc L) 57:=hrw 13 (57,Zc L) rfl;have zr6:Row w3 (p 7) (Zc H) 57:=hrw 15 (57,Zc H) rfl;replace r3:=hkw.ro r3;replace sb:=kk sb hkw;clear hkw hrw hnew hdis;generalize p 6=g5 at*;generalize p 7=g6 at*;have r5:=zr5;clear zr5;have r6:=zr6;clear zr6;iterate 3 go_step
   refine ZB ?_;refine YX (by rfl) 57 _ rfl _ rfl r6 4 _ b_ Zd ?_;simp only[pv];refine q_v _ (ZE 57 rfl _ ZA) ?_;simp only[pv];refine q_v (.bool false) (fun w'=>(Z5 _ _ _ rfl H 0 rfl rfl w').trans (by rw[hb])) ?_;refine q_m ?_;simp only[pv];refine YX (by rfl) 57 _ rfl _ rfl r5 4 _ b_ Zd ?_;simp only[pv];refine YX (by rfl) 57 _ rfl _ rfl r3 4 _ b_ Zd ?_;simp only[pv];refine q_c 112 iH0 #[.agg (Zc L),.agg (Zc N)] hcm ?_;simp only[pv];refine q_v _ (Yg _ _ _ _ rfl z 0 rfl rfl _ rfl) ?_;simp only[pv];refine Rg false (v:=.bool (decide (0<z))) (by rfl) rfl rfl rfl ?_;refine q_a ?_;simp only[pv];refine ZR ?_;intro w4 hqb;replace sb:=b_o sb hqb;clear hqb;go_wp2;go_ret;exact⟨rfl,sb⟩
  ·rfl
 ·rfl
theorem GC (F N:Nat)(w:World)(hF:F<2^256)(hN:N<2^256):
  Calls prog 188 #[.agg (Zc F),.agg (Zc N)] w (Rt (.bool (decide (N<F*F))) w):=by
 have hFF:F*F/2^256<2^256:=by
  rw[aX0 (w_ _)];exact Nat.mul_lt_mul'' hF hF
 by_cases h:F*F<2^256
 ·have h0:F*F/2^256=0:=F_ h;have:=GB F N (F*F) 0 (Wn (F*F) N) w (QP 0) (fun w'=>h0▸U3 F F w' hF hF) (fun w'=>Wk (F*F) N w' h hN);rw[KX]at this;exact this
 ·rw[d_ (show N<F*F by omega)];refine KY F N (F*F) (F*F/2^256) w (CW _ 0 hFF (w_ _) ?_) (fun w'=>U3 F F w' hF hF);intro h0;have:=(Nat.div_eq_zero_iff_lt (w_ 256)).1 h0;exact h this
theorem KZ (N F L K R:Nat)(er lz:Int)(RG:Array Value)(w:World)(he:er=0)(hr:(!decide (R%2^256=0%2^256))=false)
  (hnew: ∀w',Calls prog 55 #[.agg (Zc N)] w' fun e w2=> ∃g,e= .returned (.tuple #[.pointer (some ⟨g,0,none⟩),.int .i64 0])/\w'.heap.size<=g/\Row w2 g RG 160/\Below w'.heap.size w' w2)
  (hof: ∀w',Calls prog 57 #[.int .i64 1] w' (Rt (.agg (Zc 1)) w'))
  (hsu: ∀w',Calls prog 154 #[.agg (Zc N),.agg (Zc 1)] w' (Rt (.tuple #[.agg (Zc L),.int .i64 lz]) w'))
  (hdi: ∀w',Calls prog 187 #[.agg (Zc L),.agg (Zc F)] w' (Rt (.tuple #[.agg (Zc K),.agg (Zc R),.int .i64 er]) w'))
  (hsq: ∀w',Calls prog 188 #[.agg (Zc F),.agg (Zc N)] w' (Rt (.bool true) w')):
  Calls prog 151 #[.agg (Zc N),.agg (Zc F)] w fun e w'=>(∃g,e= .returned (.tuple #[.agg (clC (some ⟨g,0,none⟩) F K),.bool true])/\w.heap.size<=g/\Row w' g RG 160)/\Below w.heap.size w w':=by
 go_enter func151,ntmps151
 iterate 2 go_step
 apply Za [] [_,_,_,_] trivial a_
 ·intro p;refine Ya 57 _ rfl _ rfl ?_;simp only[pv];refine Ya 57 _ rfl _ rfl ?_;simp only[pv];refine XP 181 rfl _ KU ?_;simp only[pv];refine Ze (.bool false) (fun _=>rfl) ?_;simp only[pv];refine Zf ?_;intro w2 hkw hrw hnew hdis;have n2:=hnew 0 rfl;have n3:=hnew 1 rfl;have n4:=hnew 2 rfl;have zr2:Row w2 (p 0) (Zc N) 57:=hrw 1 (57,Zc N) rfl;have zr3:Row w2 (p 1) (Zc F) 57:=hrw 3 (57,Zc F) rfl;have zr4:Row w2 (p 2) (clC none 0 0) 181:=hrw 5 (181,clC none 0 0) rfl;have d3x4:=hdis 1 2 (by omega) rfl rfl;have sb:=k_b hkw;have b4:w.heap.size<=p 2:=n4;clear hkw hrw hnew hdis n2 n3 n4;generalize p 0=g2 at*;generalize p 1=g3 at*;generalize p 2=g4 at*;have r2:=zr2;clear zr2;have r3:=zr3;clear zr3;have r4:=zr4;clear zr4
  go_wp2_with (first
   |refine Zj rfl 57 _ rfl _ rfl r2 4 _ b_ (by exact Zd) ?_)
  refine(hnew _).mono ?_;rintro _ wb ⟨g6,rfl,hg6,r6,bb⟩;replace r2:=r2.belowAll bb;replace r3:=r3.belowAll bb;have d4x6:=l_l r4.lt hg6;replace r4:=r4.belowAll bb;have b6:w.heap.size<=g6:=f_ sb.size hg6;replace sb:=b_o sb bb;clear bb hg6 hnew
  dsimp only
  iterate 21 go_step
  apply Za [] [_,_] trivial a_
  ·intro p;refine m_m ?_;simp only[pv];refine Ze _ (ZX .i64 _ _ _ _ rfl 0 0 rfl rfl false rfl) ?_;simp only[pv];refine Zf ?_;intro w4 hkw hrw hnew hdis;replace r2:=hkw.ro r2;replace r3:=hkw.ro r3;replace r4:=hkw.ro r4;replace r6:=hkw.ro r6;replace sb:=kk sb hkw;clear hkw hrw hnew hdis;iterate 7 go_step
   apply Zi (by kernel_rfl) [] [_,_,_,_,_,_,_,_,_] trivial a_
   ·intro p;refine m_l r2 ?_;simp only[pv];refine m_c 57 gZ0 #[.int .i64 1] hof ?_;simp only[pv];refine m_c 154 iO0 #[.agg (Zc N),.agg (Zc 1)] hsu ?_;refine m_m ?_;refine m_e ?_;refine m_e ?_;simp only[pv];refine m_n ?_;simp only[pv];refine m_p 13 L ?_;simp only[Act.put];refine m_a ?_;simp only[pv];refine Zf ?_;intro w5 hkw hrw hnew hdis;have zr8:Row w5 (p 6) (Zc L) 57:=hrw 13 (57,Zc L) rfl;replace r2:=hkw.ro r2;replace r3:=hkw.ro r3;replace r4:=hkw.ro r4;replace r6:=hkw.ro r6;replace sb:=kk sb hkw;clear hkw hrw hnew hdis;generalize p 6=g8 at*;have r8:=zr8;clear zr8;iterate 3 go_step
    apply Za [] [_,_,_,_,_,_,_,_,_,_,_,_] trivial a_
    ·intro p;refine m_l r8 ?_;simp only[pv];refine m_l r3 ?_;simp only[pv];refine m_c 187 func187 #[.agg (Zc L),.agg (Zc F)] hdi ?_;refine m_m ?_;refine m_e ?_;refine m_e ?_;refine m_e ?_;simp only[pv];refine m_n ?_;simp only[pv];refine m_n ?_;simp only[pv];refine m_p 15 K ?_;simp only[Act.put];refine m_p 17 R ?_;simp only[Act.put];refine m_a ?_;simp only[pv];refine Zf ?_;intro w6 hkw hrw hnew hdis;have n10:=hnew 7 rfl;have n11:=hnew 8 rfl;have zr10:Row w6 (p 7) (Zc K) 57:=hrw 15 (57,Zc K) rfl;have zr11:Row w6 (p 8) (Zc R) 57:=hrw 17 (57,Zc R) rfl;have d4x10:=l_l r4.lt n10;replace r2:=hkw.ro r2;replace r3:=hkw.ro r3;replace r4:=hkw.ro r4;replace r6:=hkw.ro r6;replace sb:=kk sb hkw;clear hkw hrw hnew hdis n10 n11;generalize p 7=g10 at*;generalize p 8=g11 at*;have r10:=zr10;clear zr10;have r11:=zr11;clear zr11;iterate 4 go_step
     refine ZB ?_;refine q_m ?_;simp only[pv];refine q_v _ (ZX .i64 _ _ _ _ rfl er 0 rfl rfl false (by rw[d_ he];rfl)) ?_;refine q_m ?_;simp only[pv];refine YX (by rfl) 57 _ rfl _ rfl r11 4 _ b_ Zd ?_;simp only[pv];refine q_v _ (ZE 57 rfl _ ZA) ?_;simp only[pv];refine q_v (.bool false) (fun w'=>(Z5 _ _ _ rfl R 0 rfl rfl w').trans (by rw[hr])) ?_;refine q_p false (.bool false) ?_;refine q_m ?_;simp only[pv];refine YX (by rfl) 57 _ rfl _ rfl r3 4 _ b_ Zd ?_;simp only[pv];refine YX (by rfl) 57 _ rfl _ rfl r2 4 _ b_ Zd ?_;simp only[pv];refine q_c 188 func188 #[.agg (Zc F),.agg (Zc N)] hsq ?_;simp only[pv];refine q_v _ (Zz _ _ rfl true rfl) ?_;refine q_p false (.bool false) ?_;simp only[pv];refine ZR ?_;intro w7 hqb;replace r3:=r3.belowAll hqb;replace r4:=r4.belowAll hqb;replace r6:=r6.belowAll hqb;replace r10:=r10.belowAll hqb;replace sb:=b_o sb hqb;clear hqb;iterate 7 go_step
     apply Za [(g4,181,clC none 0 0)] [_,_,_,_,_,_] ⟨r4,trivial⟩ (by simp<;>omega)
     ·intro p;refine m_m ?_;simp only[pv];refine m_l r3 ?_;simp only[pv];refine m_l r10 ?_;simp only[pv];refine Ze _ (MR (some ⟨g6,0,none⟩) F K rfl rfl rfl rfl) ?_;simp only[pv];refine Xc 0 181 _ _ rfl rfl rfl (clC (some ⟨g6,0,none⟩) F K) rfl (by exact RH) (by rfl) (EJ _ _ _) ?_;simp only[Act.put];refine Ze (.bool true) (fun _=>rfl) ?_;simp only[pv];refine Zf ?_;intro w8 hkw hrw hnew hdis;have zr4:Row w8 (g4) (clC (some ⟨g6,0,none⟩) F K) 181:=hrw 0 (181,clC (some ⟨g6,0,none⟩) F K) rfl;replace r6:=hkw.ro r6;replace sb:=kk sb hkw;clear hkw hrw hnew hdis r4;have r4:=zr4;clear zr4;go_wp2;exact KW rfl _ rfl r4 _ fI0 (by exact RH) rfl _ rfl ⟨⟨g6,rfl,b6,r6⟩,sb⟩
     ·rfl
    ·rfl
   ·kernel_rfl
  ·rfl
 ·rfl
theorem Of (N F:Nat)(hN:N<2^256)(hF:F<2^256)(h1:1<=N):
  (∀w',Calls prog 57 #[.int .i64 1] w' (Rt (.agg (Zc 1)) w'))/\
  (∀w',Calls prog 154 #[.agg (Zc N),.agg (Zc 1)] w' (Rt (.tuple #[.agg (Zc (N-1)),.int .i64 (bN N 1 256:Nat)]) w'))/\
  (∀w',Calls prog 187 #[.agg (Zc (N-1)),.agg (Zc F)] w' (Rt (.tuple #[.agg (Zc (zf (N-1) F)),.agg (Zc (Sx (N-1) F)),.int .i64 (U6 F)]) w')):=
 ⟨fun w'=>Xl 1 w' (by decide),fun w'=>SU N h1▸XV N 1 w' (by decide),fun w'=>Gt (N-1) F w' (by omega) hF⟩
theorem SV {N F:Nat}(h:CD N F=true):N%2=1/\N≠1/\F≠0/\(N-1)%F=0/\N<F*F:=by
 unfold CD at h
 simpa only[s_,X_]using h
theorem K0 (N F:Nat)(w:World)(hN:N<2^256)(hF:F<2^256)(h:CD N F=true):
  Calls prog 151 #[.agg (Zc N),.agg (Zc F)] w fun e w'=>(∃g,e= .returned (.tuple #[.agg (clC (some ⟨g,0,none⟩) F ((N-1)/F)),.bool true])/\w.heap.size<=g/\Row w' g (rgC N (miL N) (WX N) (sqL N)) 160)/\Below w.heap.size w w':=by
 obtain⟨h1,h2,h3,h4,h5⟩:=SV h;obtain⟨c1,c2,c3⟩:=Of N F hN hF (by omega);rw[show zf (N-1) F=(N-1)/F from i_ h3,show Sx (N-1) F=(N-1)%F from i_ h3]at c3;refine KZ N F (N-1) ((N-1)/F) _ _ _ _ w (i_ h3) (by rw[h4];exact QP 0) (fun w'=>P1 N w' h1 (by omega) hN) c1 c2 c3 fun w'=>?_
 have hs:=GC F N w' hF hN;rw[d_ h5]at hs;exact hs
theorem K1 (N F K A X Y L G:Nat)(z:Int)(g:Nat)(RG:Array Value)(w:World)(r0:Row w g RG 160)(lz:Int)(B:Bool)(hy:Y=1)(hB:decide (G%2^256=1%2^256)=B)
  (ho1: ∀w',Calls prog 57 #[.int .i64 1] w' (Rt (.agg (Zc 1)) w'))
  (hoz: ∀w',Calls prog 57 #[.int .i64 z] w' (Rt (.agg (Zc A)) w'))
  (hx1: ∀w',Row w' g RG 160->Calls prog 56 #[.pointer (some ⟨g,0,none⟩),.agg (Zc A),.agg (Zc K)] w' (Rt (.agg (Zc X)) w'))
  (hx2: ∀w',Row w' g RG 160->Calls prog 56 #[.pointer (some ⟨g,0,none⟩),.agg (Zc X),.agg (Zc F)] w' (Rt (.agg (Zc Y)) w'))
  (hsu: ∀w',Calls prog 154 #[.agg (Zc X),.agg (Zc 1)] w' (Rt (.tuple #[.agg (Zc L),.int .i64 lz]) w'))
  (hM: ∀w',Row w' g RG 160->Calls prog 190 #[.pointer (some ⟨g,0,none⟩)] w' (Rt (.agg (Zc N)) w'))
  (hgc: ∀w',Calls prog 189 #[.agg (Zc N),.agg (Zc L)] w' (Rt (.agg (Zc G)) w')):
  Calls prog 152 #[.agg (clC (some ⟨g,0,none⟩) F K),.int .i64 z] w fun e w'=>e= .returned (.bool B)/\Below w.heap.size w w':=by
 go_enter func152,ntmps152
 iterate 2 go_step
 apply Za [] [_,_] trivial a_
 ·intro p;refine Ya 181 _ rfl _ rfl ?_;simp only[pv];refine Ze (.bool false) (fun _=>rfl) ?_;simp only[pv];refine Zf ?_;intro w2 hkw hrw hnew hdis;have n2:=hnew 0 rfl;have zr2:Row w2 (p 0) (clC (some ⟨g,0,none⟩) F K) 181:=hrw 1 (181,clC (some ⟨g,0,none⟩) F K) rfl;replace r0:=hkw.ro r0;have sb:=k_b hkw;clear hkw hrw hnew hdis n2;generalize p 0=g2 at*;have r2:=zr2;clear zr2;iterate 3 go_step
  apply Za [] [_,_,_] trivial a_
  ·intro p;refine m_c 57 gZ0 #[.int .i64 1] ho1 ?_;simp only[pv];refine m_n ?_;simp only[pv];refine m_p 3 1 ?_;simp only[Act.put];refine Zf ?_;intro w3 hkw hrw hnew hdis;have zr5:Row w3 (p 1) (Zc 1) 57:=hrw 3 (57,Zc 1) rfl;replace r0:=hkw.ro r0;replace r2:=hkw.ro r2;replace sb:=kk sb hkw;clear hkw hrw hnew hdis;generalize p 1=g5 at*;have r5:=zr5;clear zr5;iterate 3 go_step
   apply Zi (by kernel_rfl) [] [_,_,_,_,_,_,_,_,_] trivial a_
   ·intro p;refine Ze _ (Zh 181 _ 0 rfl g2 0 rfl _ fI0 _ rfl 0 sizeOf68) ?_;simp only[pv];refine Zs 68 _ rfl _ (0) rfl r2 (by simp<;>omega) (.pointer (some ⟨g,0,none⟩)) rfl isAgg68 ?_;refine m_m ?_;simp only[pv];refine m_c 57 gZ0 #[.int .i64 z] hoz ?_;simp only[pv];refine Ze _ (Zh 181 _ 2 rfl g2 0 rfl _ fI0 _ rfl 3 bJ0) ?_;simp only[pv];refine Xw 57 _ rfl _ (5) rfl r2 (by simp<;>omega) (Zc K) (wN _ F K) _ b_ rfl Zd ?_;simp only[pv];refine m_k 56 func56 #[.pointer (some ⟨g,0,none⟩),.agg (Zc A),.agg (Zc K)] (fun w' hk=>hx1 w' (hk.row r0 (by simp))) ?_;simp only[pv];refine m_n ?_;simp only[pv];refine m_p 15 X ?_;simp only[Act.put];refine Zf ?_;intro w4 hkw hrw hnew hdis;have zr6:Row w4 (p 7) (Zc X) 57:=hrw 15 (57,Zc X) rfl;replace r0:=hkw.ro r0;replace r2:=hkw.ro r2;replace r5:=hkw.ro r5;replace sb:=kk sb hkw;clear hkw hrw hnew hdis;generalize p 7=g6 at*;have r6:=zr6;clear zr6;iterate 4 go_step
    refine ZD (by kernel_rfl) (by kernel_rfl) ?_;refine q_v _ (Zh 181 _ 0 rfl g2 0 rfl _ fI0 _ rfl 0 sizeOf68) ?_;simp only[pv];refine ZS (by rfl) 68 _ rfl _ (0) rfl r2 (.pointer (some ⟨g,0,none⟩)) rfl isAgg68 ?_;simp only[pv];refine YX (by rfl) 57 _ rfl _ rfl r6 4 _ b_ Zd ?_;simp only[pv];refine q_v _ (Zh 181 _ 1 rfl g2 0 rfl _ fI0 _ rfl 3 bJ0) ?_;simp only[pv];refine YJ (by rfl) 57 _ rfl _ (1) rfl r2 (Zc F) (wM _ F K) _ b_ rfl Zd ?_;simp only[pv];refine q_k 56 func56 #[.pointer (some ⟨g,0,none⟩),.agg (Zc X),.agg (Zc F)] (fun w' hb=>hx2 w' (r0.belowAll hb)) ?_;simp only[pv];refine YX (by rfl) 57 _ rfl _ rfl r5 4 _ b_ Zd ?_;simp only[pv];refine q_v (.bool false) (fun w'=>(Z5 _ _ _ rfl Y 1 rfl rfl w').trans (by rw[hy,QP])) ?_;simp only[pv];refine ZR ?_;intro w5 hqb;replace r0:=r0.belowAll hqb;replace r2:=r2.belowAll hqb;replace r5:=r5.belowAll hqb;replace r6:=r6.belowAll hqb;replace sb:=b_o sb hqb;clear hqb;iterate 7 go_step
    apply Za [] [_,_,_,_,_,_,_,_,_] trivial a_
    ·intro p;refine m_l r6 ?_;simp only[pv];refine m_l r5 ?_;simp only[pv];refine m_c 154 iO0 #[.agg (Zc X),.agg (Zc 1)] hsu ?_;refine m_m ?_;refine m_e ?_;refine m_e ?_;simp only[pv];refine m_n ?_;simp only[pv];refine m_p 13 L ?_;simp only[Act.put];refine m_a ?_;simp only[pv];refine Zf ?_;intro w6 hkw hrw hnew hdis;have zr7:Row w6 (p 6) (Zc L) 57:=hrw 13 (57,Zc L) rfl;replace r0:=hkw.ro r0;replace r2:=hkw.ro r2;replace r5:=hkw.ro r5;replace sb:=kk sb hkw;clear hkw hrw hnew hdis;generalize p 6=g7 at*;have r7:=zr7;clear zr7;iterate 3 go_step
     refine ZD (by kernel_rfl) (by kernel_rfl) ?_;refine q_v _ (Zh 181 _ 0 rfl g2 0 rfl _ fI0 _ rfl 0 sizeOf68) ?_;simp only[pv];refine ZS (by rfl) 68 _ rfl _ (0) rfl r2 (.pointer (some ⟨g,0,none⟩)) rfl isAgg68 ?_;simp only[pv];refine q_k 190 func190 #[.pointer (some ⟨g,0,none⟩)] (fun w' hb=>hM w' (r0.belowAll hb)) ?_;simp only[pv];refine YX (by rfl) 57 _ rfl _ rfl r7 4 _ b_ Zd ?_;simp only[pv];refine q_c 189 func189 #[.agg (Zc N),.agg (Zc L)] hgc ?_;simp only[pv];refine YX (by rfl) 57 _ rfl _ rfl r5 4 _ b_ Zd ?_;simp only[pv];refine q_v (.bool B) (fun w'=>(ZG _ _ _ rfl G 1 rfl rfl w').trans (by rw[hB])) ?_;refine q_a ?_;simp only[pv];refine ZR ?_;intro w7 hqb;replace sb:=b_o sb hqb;clear hqb;go_wp2;go_ret;exact⟨rfl,sb⟩
    ·rfl
   ·kernel_rfl
  ·rfl
 ·rfl
theorem K2 (N F K:Nat)(z:Int)(B:Bool)(RG:Array Value)(w:World)(h1:2<=z)(h2:z<=65535)
  (hcl: ∀w',Calls prog 151 #[.agg (Zc N),.agg (Zc F)] w' fun e w2=>(∃g,e= .returned (.tuple #[.agg (clC (some ⟨g,0,none⟩) F K),.bool true])/\w'.heap.size<=g/\Row w2 g RG 160)/\Below w'.heap.size w' w2)
  (hsh: ∀g w',Row w' g RG 160->Calls prog 152 #[.agg (clC (some ⟨g,0,none⟩) F K),.int .i64 z] w' (Rt (.bool B) w')):
  Calls prog 110 #[.agg (Zc N),.agg (Zc F),.int .i64 z] w fun e w'=>e= .returned (.bool B)/\Below w.heap.size w w':=by
 go_enter func110,ntmps110
 iterate 2 go_step
 apply Za [] [_,_,_] trivial a_
 ·intro p;refine Ya 57 _ rfl _ rfl ?_;simp only[pv];refine Ya 57 _ rfl _ rfl ?_;simp only[pv];refine Ze (.bool false) (fun _=>rfl) ?_;simp only[pv];refine Zf ?_;intro w2 hkw hrw hnew hdis;have n3:=hnew 0 rfl;have n4:=hnew 1 rfl;have zr3:Row w2 (p 0) (Zc N) 57:=hrw 1 (57,Zc N) rfl;have zr4:Row w2 (p 1) (Zc F) 57:=hrw 3 (57,Zc F) rfl;have sb:=k_b hkw;clear hkw hrw hnew hdis n3 n4;generalize p 0=g3 at*;generalize p 1=g4 at*;have r3:=zr3;clear zr3;have r4:=zr4;clear zr4;iterate 4 go_step
  refine ZB ?_;refine q_m ?_;refine q_v _ (Xe z 2) ?_;refine q_m ?_;refine q_m ?_;refine q_v _ (UY z 65535) ?_;simp only[pv];refine q_p false (.bool false) ?_;simp only[pv];refine ZR ?_;intro w3 hqb;replace r3:=r3.belowAll hqb;replace r4:=r4.belowAll hqb;replace sb:=b_o sb hqb;clear hqb
  go_wp2_with (first
   |refine Zj rfl 57 _ rfl _ rfl r3 4 _ b_ (by exact Zd) ?_
   |refine Zj rfl 57 _ rfl _ rfl r4 4 _ b_ (by exact Zd) ?_)
  refine(hcl _).mono ?_;rintro _ wb ⟨⟨g9,rfl,hg9,r9⟩,bb⟩;replace sb:=b_o sb bb;clear bb hg9 hcl r3 r4
  dsimp only
  (repeat((fail_if_success (with_reducible show Code.wp _ (Code.region _ _ _) _ _ _));first|(refine Zg rfl 181 rfl _ KU ?_;simp only[Act.put,aA0,bT0,hJ0])|(refine ZL rfl 181 _ _ rfl _ rfl rfl _ _ (by exact RH) (by rfl) (EJ _ _ _) ?_;simp only[Act.put])|go_step))
  have r7:Row (wb.alloc (.cells (clC (some ⟨g9,0,none⟩) F K) 181)) wb.heap.size (clC (some ⟨g9,0,none⟩) F K) 181:=Row.here rfl;replace r9:=r9.alloc (.cells (clC (some ⟨g9,0,none⟩) F K) 181);replace sb:=sb.alloc sb.size (.cells (clC (some ⟨g9,0,none⟩) F K) 181);generalize wb.alloc (.cells (clC (some ⟨g9,0,none⟩) F K) 181)=w4 at*;generalize wb.heap.size=g7 at*;refine ZB ?_;refine q_m ?_;refine q_m ?_;simp only[pv];refine YJ (by rfl) 181 _ rfl _ (0) rfl r7 (clC (some ⟨g9,0,none⟩) F K) (Yi _) _ fI0 rfl RH ?_;refine q_m ?_;simp only[pv];refine q_k 152 func152 #[.agg (clC (some ⟨g9,0,none⟩) F K),.int .i64 z] (fun w' hb=>hsh g9 w' (r9.belowAll hb)) ?_;refine q_p true (.bool B) ?_;refine q_a ?_;simp only[pv];refine ZR ?_;intro w5 hqb;replace sb:=b_o sb hqb;clear hqb;go_wp2;go_ret;exact⟨rfl,sb⟩
 ·rfl
def wtF (sh:Nat->Bool):Nat->Nat->Nat
 |0,_=>0
 |g+1,k=>if sh (2+k)=true then 2+k else wtF sh g (k+1)
def witN (N F:Nat):Nat:=if CD N F=true then wtF (shN N F) 99 0 else 0
def errW (W:Nat):Int:=if W=0 then 3 else 0
def lkC (N:Nat)(z:Int):Array Value:=#[.int .u64 (lm N 0),.int .u64 (lm N 1),.int .u64 (lm N 2),.int .u64 (lm N 3),.int .i64 z]
theorem wA (N:Nat)(z:Int): ∀j v,(Zc N).toList[j]?=some v->(lkC N z)[0+j]?=some v:=UX rfl rfl rfl rfl
theorem CX:(prog.info? 106).map (fun i=>(i.zero,i.size))=some (some (.agg (lkC 0 0)),5):=by kernel_rfl
theorem CZ:(prog.info? 106).map (·.size)=some 5:=(Q_ CX).2
theorem WL:prog.underlying 54=some (.slice (prog.elem 54)):=by kernel_rfl
structure LinksAt (w:World)(ab:Option Addr)(n:Nat)(N:Nat->Nat)(A:Nat->Int)(gb ob:Nat)(bcs:Array Value)(tb:TypeId):Prop where
 at':n=0∨(ab=some ⟨gb,ob,none⟩/\WV w gb bcs tb/\ ∀i,i<n-> ∀j v,(lkC (N i) (A i)).toList[j]?=some v->bcs[ob+i*5+j]?=some v)
 lt: ∀i,i<n->N i<2^256
theorem LinksAt.below {w w2:World}{ab:Option Addr}{n:Nat}{N:Nat->Nat}{A:Nat->Int}{gb ob:Nat}{bcs:Array Value}{tb:TypeId}(h:LinksAt w ab n N A gb ob bcs tb)(hb:Below w.heap.size w w2):LinksAt w2 ab n N A gb ob bcs tb:=
 ⟨h.at'.imp id fun⟨h1,h2,h3⟩=>⟨h1,h2.belowAll hb,h3⟩,h.lt⟩
theorem UI {bcs:Array Value}{off N:Nat}{z:Int}(h: ∀j v,(lkC N z).toList[j]?=some v->bcs[off+j]?=some v): ∀j v,(Zc N).toList[j]?=some v->bcs[off+j]?=some v:=fun j v hv=>by
 have:=wA N z j v hv;rw[B_,<-o_]at this;exact h j v this
theorem C0 {bcs:Array Value}{off N:Nat}{z:Int}(h: ∀j v,(lkC N z).toList[j]?=some v->bcs[off+j]?=some v):bcs[off+4]?=some (.int .i64 z):=h 4 _ rfl
theorem MS (N:Nat)(z I:Int)(w:World) 
  (hin: ∀w',Calls prog 149 #[.agg (Zc N)] w' (Rt (.tuple #[.int .i64 I,.bool true]) w'))
  (hsm: ∀w',Calls prog 150 #[.int .i64 I] w' (Rt (.bool true) w')):
  Calls prog 109 #[.agg (lkC N z)] w fun e w'=>e= .returned (.bool (decide (z=0)))/\Below w.heap.size w w':=by
 go_enter func109,ntmps109
 iterate 2 go_step
 apply Za [] [_,_] trivial a_
 ·intro p;refine Ya 106 _ rfl _ rfl ?_;simp only[pv];refine Ze (.bool false) (fun _=>rfl) ?_;simp only[pv];refine Zf ?_;intro w2 hkw hrw hnew hdis;have n1:=hnew 0 rfl;have zr1:Row w2 (p 0) (lkC N z) 106:=hrw 1 (106,lkC N z) rfl;have sb:=k_b hkw;clear hkw hrw hnew hdis n1;generalize p 0=g1 at*;have r1:=zr1;clear zr1;iterate 3 go_step
  apply Za [] [_,_,_,_,_,_,_,_] trivial a_
  ·intro p;refine Ze _ (Zh 106 _ 0 rfl g1 0 rfl _ dF0 _ rfl 3 bJ0) ?_;simp only[pv];refine Xw 57 _ rfl _ (0) rfl r1 (by simp<;>omega) (Zc N) (wA N z) _ b_ rfl Zd ?_;simp only[pv];refine m_c 149 func149 #[.agg (Zc N)] hin ?_;refine m_m ?_;refine m_e ?_;refine m_e ?_;refine m_a ?_;simp only[pv];refine m_a ?_;simp only[pv];refine Zf ?_;intro w3 hkw hrw hnew hdis;replace r1:=hkw.ro r1;replace sb:=kk sb hkw;clear hkw hrw hnew hdis;iterate 3 go_step
   refine ZB ?_;refine q_m ?_;refine q_m ?_;refine q_m ?_;simp only[pv];refine q_c 150 func150 #[.int .i64 I] hsm ?_;refine q_p true (.bool true) ?_;refine q_m ?_;simp only[pv];refine q_v _ (Zh 106 _ 1 rfl g1 0 rfl _ dF0 _ rfl 0 aJ0) ?_;simp only[pv];refine ZS (by rfl) 3 _ rfl _ (4) rfl r1 (.int .i64 z) rfl bG0 ?_;simp only[pv];refine q_v _ (ZK .i64 _ _ _ _ rfl z 0 rfl rfl _ rfl) ?_;simp only[pv];refine Rg true (v:=.bool (decide (z=0))) (by rfl) rfl rfl rfl ?_;refine q_a ?_;simp only[pv];refine ZR ?_;intro w4 hqb;replace sb:=b_o sb hqb;clear hqb;go_wp2;go_ret;exact⟨rfl,sb⟩
  ·rfl
 ·rfl
def errC (b:Bool):Int:=if b=true then 0 else 4
theorem GD (N F K a g:Nat)(w:World)(hN:N<2^256)(ho:N%2=1)(h2:2<=N)(hF:F<2^256)(hF0:F≠0)(hK:K<2^256)(ha:a<9223372036854775808)(r0:Row w g (rgC N (miL N) (WX N) (sqL N)) 160)(hy:(a^K%N)^F%N=1)(hg:Nat.gcd N (a^K%N-1)=1):
  Calls prog 152 #[.agg (clC (some ⟨g,0,none⟩) F K),.int .i64 a] w (Rt (.bool true) w):=by
 have lm': ∀z,z%N<2^256:=fun z=>E_ (m_ _ (by omega)) hN
 have o1:=fun w'=>Xl 1 w' (by decide)
 have oz:=fun w'=>Xl (a:Int) w' (by omega)
 rw[q_]at oz
 have hX:1<=a^K%N:=by
  rcases aK0 (a^K%N)with h0|h0
  ·rw[h0,Nat.zero_pow (by omega),eN0]at hy;cases hy
  ·exact h0
 refine K1 N F K a (a^K%N) _ (a^K%N-1) 1 a g _ w r0 (bN (a^K%N) 1 256:Nat) _ hy rfl o1 oz (fun w' r=>Od a K N g w' (by omega) hK hN ho h2 r) (fun w' r=>Od (a^K%N) F N g w' (lm' _) hF hN ho h2 r)
  (fun w'=>SU _ hX▸XV _ 1 w' (by decide)) (fun w' r=>Kl N _ _ _ g w' (by omega) hN r) (fun w'=>?_)
 have:=Hs N (a^K%N-1) w' hN (T_ (Nat.sub_le _ _) (lm' _));rw[hg]at this;exact this
theorem C3 (N F:Nat)(z:Int)(w:World)(hN:N<2^256)(hF:F<2^256)(h:stN N F z=true):
  Calls prog 110 #[.agg (Zc N),.agg (Zc F),.int .i64 z] w (Rt (.bool true) w):=by
 unfold stN shN at h;simp only[s_,X_]at h;obtain⟨h1,h2,hm,hy,hg⟩:=h;obtain⟨f1,f2,f3,f4,f5⟩:=SV hm;obtain⟨a,rfl⟩:=aM0 (show 0<=z by omega);rw[q_]at hy hg
 exact K2 N F ((N-1)/F) a _ _ w (by omega) (by omega) (fun w'=>K0 N F w' hN hF hm)
  (fun g w' r=>GD N F ((N-1)/F) a g w' hN f1 (by omega) hF f3 (T_ (bP0 _ _) (by omega)) (by omega) r hy hg)
theorem K3 (N:Nat)(w:World)(hN:N<2^256)(h:smN N=true):
  Calls prog 109 #[.agg (lkC N 0)] w (Rt (.bool true) w):=by
 have h5:N<65536:=by
  unfold smN at h;simp only[s_,X_]at h;omega
 have hin:=fun w'=>Ha N w' hN
 rw[(QO N (by omega)).1,(QO N (by omega)).2]at hin;have hsm:=fun w'=>KR (N:Int) w'
 rw[CA,h]at hsm;exact MS N 0 N w hin hsm
theorem K4 (n c:Nat)(ab:Option Addr)(N:Nat->Nat)(A:Nat->Int)(gb ob:Nat)(bcs:Array Value)(tb:TypeId)(w:World)(h1:1<=n)(h8:n<=8)(hL:LinksAt w ab n N A gb ob bcs tb)
  (hst0: ∀k,k+1<n->stN (N (k+1)) (N k) (A (k+1))=true)(hbe: ∀w',Calls prog 109 #[.agg (lkC (N 0) (A 0))] w' (Rt (.bool true) w')):
  Calls prog 52 #[.slice ab n c] w fun e w'=>e= .returned (.int .i64 0)/\Below w.heap.size w w':=by
 have HL:Hid (LinksAt w ab n N A gb ob bcs tb):=hL;clear hL
 go_enter func52,ntmps52
 iterate 2 go_step
 apply Za [] [_] trivial a_
 ·intro p;refine Ze (.int .i64 0) (fun _=>rfl) ?_;simp only[pv];refine Zf ?_;intro w2 hkw hrw hnew hdis;have sb:=k_b hkw;clear hkw hrw hnew hdis;obtain h0|⟨rfl,rB,hat⟩:=(HL.out.below sb).at'
  ·omega
  iterate 4 go_step
  refine ZB ?_;refine q_m ?_;simp only[pv];refine q_v _ (n_l (some ⟨gb,ob,none⟩) n c WL) ?_;refine q_v _ (Xe n 1) ?_;refine q_m ?_;refine q_m ?_;simp only[pv];refine q_v _ (n_l (some ⟨gb,ob,none⟩) n c WL) ?_;refine q_v _ (UY n 8) ?_;refine q_p false (.bool false) ?_;refine q_m ?_;refine q_m ?_;simp only[pv];refine q_v _ (Zw 54 _ _ rfl gb ob n c rfl 0 rfl (by omega) _ dZ0 5 hH0) ?_;simp only[pv];refine X9 (by rfl) 106 _ rfl _ ((ob+0*5)) rfl rB (lkC (N 0) (A 0)) (hat 0 (by omega)) _ dF0 rfl CZ ?_;simp only[pv];refine q_c 109 func109 #[.agg (lkC (N 0) (A 0))] hbe ?_;simp only[pv];refine q_v _ (Zz _ _ rfl true rfl) ?_;refine q_p false (.bool false) ?_;simp only[pv];refine ZR ?_;intro w3 hqb;replace sb:=b_o sb hqb;clear hqb;clear rB hat hbe;iterate 8 go_step
  apply Za [] [_,_,_,_] trivial a_
  ·intro p;refine m_m ?_;simp only[pv];refine Ze _ (n_l (some ⟨gb,ob,none⟩) n c WL) ?_;simp only[pv];refine Ze _ (Z2 _ _ _ _ rfl n 1 rfl rfl (by omega) (by omega)) ?_;simp only[pv];refine Ze (.int .i64 0) (fun _=>rfl) ?_;simp only[pv];refine Zf ?_;intro w3b hkw hrw hnew hdis;replace sb:=kk sb hkw;clear hkw hrw hnew hdis
   go_wp2_with fail
   go_loopg [22] (n-1) (fun g s22 wr=> ∃k:Nat,k+g=n-1/\s22= .int .i64 k/\Below w.heap.size w wr)
   case atStart=>exact⟨0,by omega,rfl,sb⟩
   case round=>
    clear sb;obtain⟨k,hk,rfl,sb⟩:=hrel
    cases gk with
    |zero=>
     go_step
     apply Za [] [_] trivial a_
     ·intro p;refine Ze _ (Xe k (n-1:Nat)) ?_;simp only[pv];refine Zf ?_;intro w4 hkw hrw hnew hdis;replace sb:=kk sb hkw;clear hkw hrw hnew hdis;go_wp2;go_ret;exact⟨rfl,sb⟩
     ·rfl
    |succ g=>
     have hst:=fun w'=>C3 (N (k+1)) (N k) (A (k+1)) w' (HL.out.lt _ (by omega)) (HL.out.lt _ (by omega)) (hst0 k (by omega))
     go_step
     apply Za [] [_] trivial a_
     ·intro p;refine Ze _ (X4 k (n-1:Nat)) ?_;simp only[pv];refine Zf ?_;intro w4 hkw hrw hnew hdis;replace sb:=kk sb hkw;clear hkw hrw hnew hdis;iterate 10 go_step
      apply Za [] [_,_] trivial a_
      ·intro p;refine m_m ?_;refine m_a ?_;simp only[pv];refine Zf ?_;intro w5 hkw hrw hnew hdis;replace sb:=kk sb hkw;clear hkw hrw hnew hdis;obtain h0|⟨_,rB,hat⟩:=(HL.out.below sb).at'
       ·omega
       iterate 3 go_step
       refine ZD (by kernel_rfl) (by kernel_rfl) ?_;refine q_m ?_;refine q_m ?_;simp only[pv];refine q_v _ (x_a k 1) ?_;simp only[pv];refine q_v _ (Zw 54 _ _ rfl gb ob n c rfl (k+1) rfl (by omega) _ dZ0 5 hH0) ?_;simp only[pv];refine q_v _ (Zh 106 _ 0 rfl gb (ob+(k+1)*5) rfl _ dF0 _ rfl 3 bJ0) ?_;simp only[pv];refine X9 (by rfl) 57 _ rfl _ ((ob+(k+1)*5)) rfl rB (Zc (N (k+1))) (UI (hat (k+1) (by omega))) _ b_ rfl Zd ?_;refine q_m ?_;refine q_m ?_;simp only[pv];refine q_v _ (Zw 54 _ _ rfl gb ob n c rfl (k) rfl (by omega) _ dZ0 5 hH0) ?_;simp only[pv];refine q_v _ (Zh 106 _ 0 rfl gb (ob+(k)*5) rfl _ dF0 _ rfl 3 bJ0) ?_;simp only[pv];refine X9 (by rfl) 57 _ rfl _ ((ob+(k)*5)) rfl rB (Zc (N k)) (UI (hat k (by omega))) _ b_ rfl Zd ?_;refine q_m ?_;refine q_m ?_;simp only[pv];refine q_v _ (x_a k 1) ?_;simp only[pv];refine q_v _ (Zw 54 _ _ rfl gb ob n c rfl (k+1) rfl (by omega) _ dZ0 5 hH0) ?_;simp only[pv];refine q_v _ (Zh 106 _ 1 rfl gb (ob+(k+1)*5) rfl _ dF0 _ rfl 0 aJ0) ?_;simp only[pv];refine Ym (by rfl) 3 _ rfl _ (ob+(k+1)*5+4) rfl rB (.int .i64 (A (k+1))) (C0 (hat (k+1) (by omega))) bG0 ?_;simp only[pv];refine q_c 110 func110 #[.agg (Zc (N (k+1))),.agg (Zc (N k)),.int .i64 (A (k+1))] hst ?_;simp only[pv];refine q_v _ (Zz _ _ rfl true rfl) ?_;simp only[pv];refine ZR ?_;intro w6 hqb;replace sb:=b_o sb hqb;clear hqb;iterate 6 go_step
       apply Za [] [_,_] trivial a_
       ·intro p;refine Ze _ (x_a k 1) ?_;refine m_m ?_;simp only[pv];refine Zf ?_;intro w7 hkw hrw hnew hdis;replace sb:=kk sb hkw;clear hkw hrw hnew hdis;go_wp2
        go_roundg g
        case measure=>omega
        case rel=>exact⟨k+1,by omega,rfl,sb⟩
       ·rfl
      ·rfl
     ·rfl
  ·rfl
 ·rfl
theorem GE (n c:Nat)(ab:Option Addr)(N:Nat->Nat)(A:Nat->Int)(gb ob:Nat)(bcs:Array Value)(tb:TypeId)(w:World)(hL:LinksAt w ab n N A gb ob bcs tb)(h:chN n N A=true):
  Calls prog 52 #[.slice ab n c] w (Rt (.int .i64 0) w):=by
 unfold chN at h;simp only[s_,X_]at h;obtain⟨h1,h8,hs,h0,hl⟩:=h;rw[P4]at hl;have hbe:=fun w'=>K3 (N 0) w' (hL.lt 0 (by omega)) hs
 rw[<-h0]at hbe;exact K4 n c ab N A gb ob bcs tb w h1 h8 hL (fun k hk=>hl k (by omega)) hbe
theorem Ns:(prog.info? 106).map (fun i=>(i.zero,i.size))=some (some (.agg #[.int .u64 0,.int .u64 0,.int .u64 0,.int .u64 0,.int .i64 0]),5):=by kernel_rfl
theorem Nt: ∃i,prog.info? 106=some i/\i.zero=some (.agg #[.int .u64 0,.int .u64 0,.int .u64 0,.int .u64 0,.int .i64 0])/\i.size=5:=by
 cases hi:prog.info? 106 with
 |none=>have:=Ns;rw[hi]at this;cases this
 |some i=>
  have h:=Ns;rw[hi]at h;simp only[aS0,aL0,dE0]at h;exact⟨i,rfl,h.1,h.2⟩
theorem K5 (N:Nat)(z:Int):prog.built 106 [(0,.agg (Zc N)),(1,.int .i64 z)]=some (lkC N z):=by
 unfold Zc lkC;generalize lm N 0=a0;generalize lm N 1=a1;generalize lm N 2=a2;generalize lm N 3=a3
 kernel_rfl
theorem X5 {o:Oper}{ρ:Operand->Value}{x0 x1:Operand}(N:Nat)(z:Int)(ho:o.op= .build 106 #[(0,x0),(1,x1)])(h0:ρ x0= .agg (Zc N))(h1:ρ x1= .int .i64 z)(w:World):
  (execOp ρ o).run prog w= .ok (.value (.agg (lkC N z))) w:=by
 unfold execOp;simp only[ho,cF0,dC0,eP0,h0,h1,p_];rw[iE0 w 106 _ (lkC N z) (K5 N z)];rfl
theorem GH (N:Nat)(z:Int):(lkC N z).size=5:=rfl
def wO (A B:Int)(i:Nat):Int:=if i=0 then A else B
end Go.Proofs.YtnagnkhbamhfmaaGreatDoor
