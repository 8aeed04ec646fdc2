import Derived.Test.YtnagnkhbamhfmaaGreatDoorPM
import Derived.Test.YtnagnkhbamhfmaaGreatDoorMQ
import Derived.WalkMore
set_option maxRecDepth 100000
set_option maxHeartbeats 8000000
namespace Go.Proofs.YtnagnkhbamhfmaaGreatDoor
set_option linter.all false
open Go.Proofs.Tryz
open Go.RowKit
theorem YT {P:Program}{o:Oper}{ρ:Operand->Value}(t:TypeId)(x y:Operand)(u:TypeId)(ho:o.op= .binOp .mul t x y u)(n m r:Nat)(hx:ρ x= .int .i64 n)(hy:ρ y= .int .i64 m)(hr:n*m=r)(h:r<9223372036854775808)(w:World):
  (execOp ρ o).run P w= .ok (.value (.int .i64 (r:Int))) w:=by
 subst hr;unfold execOp;simp only[ho,hx,hy];simp[go_sem];rw[<-cO0,O_];omega
theorem ZR {P:Program}{o:Oper}{ρ:Operand->Value}(t:TypeId)(x y:Operand)(u:TypeId)(ho:o.op= .binOp .leq t x y u)(n m:Int)(hx:ρ x= .int .i64 n)(hy:ρ y= .int .i64 m)(b:Bool)(hb:decide (n<=m)=b)(w:World):
  (execOp ρ o).run P w= .ok (.value (.bool b)) w:=by
 subst hb;unfold execOp;simp only[ho,hx,hy];simp[go_sem]
theorem YJ {P:Program}{o:Oper}{ρ:Operand->Value}(t:TypeId)(x y:Operand)(u:TypeId)(ho:o.op= .binOp .lss t x y u)(n m:Int)(hx:ρ x= .int .i64 n)(hy:ρ y= .int .i64 m)(b:Bool)(hb:decide (n<m)=b)(w:World):
  (execOp ρ o).run P w= .ok (.value (.bool b)) w:=by
 subst hb;unfold execOp;simp only[ho,hx,hy];simp[go_sem]
theorem YN {P:Program}{o:Oper}{ρ:Operand->Value}{t:TypeId}{x y:Operand}{u:TypeId}(n m:Int)(h: ¬n<m:=by omega)(ho:o.op= .binOp .lss t x y u:=by exact rfl)(hx:ρ x= .int .i64 n:=by exact rfl)(hy:ρ y= .int .i64 m:=by exact rfl): ∀w,(execOp ρ o).run P w= .ok (.value (.bool false)) w:=YJ t x y u ho n m hx hy false (d_ h)
theorem YW {P:Program}{o:Oper}{ρ:Operand->Value}{t:TypeId}{x y:Operand}{u:TypeId}(n m:Int)(h:n<m:=by omega)(ho:o.op= .binOp .lss t x y u:=by exact rfl)(hx:ρ x= .int .i64 n:=by exact rfl)(hy:ρ y= .int .i64 m:=by exact rfl): ∀w,(execOp ρ o).run P w= .ok (.value (.bool true)) w:=YJ t x y u ho n m hx hy true (c_ h)
theorem wv (d:Nat)(h:d<=65537):d*d<9223372036854775808:=by
 have:=aL0 h h;omega
theorem Lq (z:Int)(w:World)(h:z<2):
  Calls Tryz.prog 150 #[.int .i64 z] w fun e w'=>e= .returned (.bool false)/\Below w.heap.size w w':=by
 go_enter func150,ntmps150
 iterate 2 go_step
 apply Za [] [_] trivial a_
 ·intro p;refine m_V (.bool false) (fun _=>rfl) ?_;refine Zd ?_;intro w2 hkw hrw hnew hdis;have sb:=k_b hkw;clear hkw hrw hnew hdis;iterate 2 go_step
  go_step3
  iterate 2 go_step
  refine ZE ?_;refine q_W ?_;refine q_V _ (YJ _ _ _ _ rfl z 2 rfl rfl true (c_ h)) ?_;refine q_P true (.bool true) ?_;intro w3 hqb;replace sb:=b_o sb hqb;clear hqb;go_wp2;rw[gF0];go_ret;exact⟨rfl,sb⟩
 ·rfl
theorem OD (z:Int)(w:World)(h:65536<=z):
  Calls Tryz.prog 150 #[.int .i64 z] w fun e w'=>e= .returned (.bool false)/\Below w.heap.size w w':=by
 go_enter func150,ntmps150
 iterate 2 go_step
 apply Za [] [_] trivial a_
 ·intro p;refine m_V (.bool false) (fun _=>rfl) ?_;refine Zd ?_;intro w2 hkw hrw hnew hdis;have sb:=k_b hkw;clear hkw hrw hnew hdis;iterate 2 go_step
  go_step3
  iterate 2 go_step
  refine ZE ?_;refine q_W ?_;refine q_V _ (YN z 2) ?_;refine q_V _ (ZL _ _ _ _ rfl z 65536 rfl rfl true (c_ h)) ?_;refine q_P false (.bool true) ?_;intro w3 hqb;replace sb:=b_o sb hqb;clear hqb;go_wp2;rw[gF0];go_ret;exact⟨rfl,sb⟩
 ·rfl
theorem Jt (n:Nat)(B:Bool)(w:World)(h2:2<=n)(h:n<65536)(hB:TJ n n 2=B):
  Calls Tryz.prog 150 #[.int .i64 n] w fun e w'=>e= .returned (.bool B)/\Below w.heap.size w w':=by
 have HB:Hid (TJ n n (0+2)=B):=hB;clear hB
 go_enter func150,ntmps150
 iterate 2 go_step
 apply Za [] [_] trivial a_
 ·intro p;refine m_V (.bool false) (fun _=>rfl) ?_;refine Zd ?_;intro w2 hkw hrw hnew hdis;have sb:=k_b hkw;clear hkw hrw hnew hdis;iterate 2 go_step
  go_step3
  iterate 2 go_step
  refine ZE ?_;refine q_W ?_;refine q_V _ (YN n 2) ?_;refine q_V _ (ZL _ _ _ _ rfl n 65536 rfl rfl false (d_ (by omega))) ?_;refine q_P false (.bool false) ?_;intro w3 hqb;replace sb:=b_o sb hqb;clear hqb
  go_wp2_with fail
  go_step3
  go_wp2_with fail
  go_loopg [3,13] n (fun g s3 s13 wr=> ∃k:Nat,k+g=n/\s3= .bool true/\s13= .int .i64 k/\TJ n g (k+2)=B/\Below w.heap.size w wr)
  case atStart=>exact⟨0,by omega,rfl,rfl,HB.out,sb⟩
  case round=>
   clear sb HB;obtain⟨k,hk,rfl,rfl,hs,sb⟩:=hrel
   cases gk with
   |zero=>
    obtain rfl:k=n:=by omega
    obtain rfl:true=B:=hs
    go_step
    apply Za [] [_] trivial a_
    ·intro p;refine m_V _ (YN k k) ?_;refine Zd ?_;intro w4 hkw hrw hnew hdis;replace sb:=kk sb hkw;clear hkw hrw hnew hdis;go_wp2
     (try rw[gF0])
     go_ret;exact⟨rfl,sb⟩
    ·rfl
   |succ g=>
    have hsq:=wv (2+k) (by omega);unfold TJ at hs;rw[bT0 k 2]at hs
    go_step
    apply Za [] [_] trivial a_
    ·intro p;refine m_V _ (YW k n) ?_;refine Zd ?_;intro w4 hkw hrw hnew hdis;replace sb:=kk sb hkw;clear hkw hrw hnew hdis;iterate 10 go_step
     apply Za [] [_,_] trivial a_
     ·intro p;refine m_W ?_;refine Zd ?_;intro w5 hkw hrw hnew hdis;replace sb:=kk sb hkw;clear hkw hrw hnew hdis;iterate 3 go_step
      apply Za [] [_,_,_] trivial a_
      ·intro p;refine m_W ?_;refine m_V _ (x_a 2 k) ?_;refine Zd ?_;intro w6 hkw hrw hnew hdis;replace sb:=kk sb hkw;clear hkw hrw hnew hdis;by_cases hbig:n<(2+k)*(2+k)
       ·rw[i_ hbig]at hs;subst hs;generalize hd:(2+k)*(2+k)=D at*;iterate 4 go_step
        apply Za [] [_,_,_,_,_,_] trivial a_
        ·intro p;refine m_W ?_;refine m_V _ (YT _ _ _ _ rfl (2+k) (2+k) D rfl rfl hd hsq) ?_;refine m_V _ (NL D n) ?_;refine Zd ?_;intro w7 hkw hrw hnew hdis;replace sb:=kk sb hkw;clear hkw hrw hnew hdis;go_wp2
         (try rw[gF0])
         go_ret;exact⟨rfl,sb⟩
        ·rfl
       rw[j_ hbig]at hs;have hd0:0<2+k:=by omega
       by_cases hz:n%(2+k)=0
       ·rw[i_ hz]at hs;subst hs;generalize hd:(2+k)*(2+k)=D at*;iterate 4 go_step
        apply Za [] [_,_,_,_,_,_] trivial a_
        ·intro p;refine m_W ?_;refine m_V _ (YT _ _ _ _ rfl (2+k) (2+k) D rfl rfl hd hsq) ?_;refine m_V _ (RK D n) ?_;refine Zd ?_;intro w7 hkw hrw hnew hdis;replace sb:=kk sb hkw;clear hkw hrw hnew hdis;iterate 4 go_step
         apply Za [] [_,_,_,_,_] trivial a_
         ·intro p;refine m_W ?_;refine m_V _ (YI _ _ _ _ rfl n (2+k) rfl rfl hd0) ?_;refine m_V _ (Zz .i64 _ _ _ _ rfl (n%(2+k):Nat) 0 rfl rfl true (c_ (by omega))) ?_;refine Zd ?_;intro w8 hkw hrw hnew hdis;replace sb:=kk sb hkw;clear hkw hrw hnew hdis;go_wp2
          (try rw[gF0])
          go_ret;exact⟨rfl,sb⟩
         ·rfl
        ·rfl
       ·rw[j_ hz]at hs;generalize hd:(2+k)*(2+k)=D at*;iterate 4 go_step
        apply Za [] [_,_,_,_,_,_] trivial a_
        ·intro p;refine m_W ?_;refine m_V _ (YT _ _ _ _ rfl (2+k) (2+k) D rfl rfl hd hsq) ?_;refine m_V _ (RK D n) ?_;refine Zd ?_;intro w7 hkw hrw hnew hdis;replace sb:=kk sb hkw;clear hkw hrw hnew hdis;iterate 4 go_step
         apply Za [] [_,_,_,_,_] trivial a_
         ·intro p;refine m_W ?_;refine m_V _ (YI _ _ _ _ rfl n (2+k) rfl rfl hd0) ?_;refine m_V _ (Zz .i64 _ _ _ _ rfl (n%(2+k):Nat) 0 rfl rfl false (d_ (by omega))) ?_;refine Zd ?_;intro w8 hkw hrw hnew hdis;replace sb:=kk sb hkw;clear hkw hrw hnew hdis;iterate 6 go_step
          apply Za [] [_,_] trivial a_
          ·intro p;refine m_V _ (x_a k 1) ?_;refine Zd ?_;intro w9 hkw hrw hnew hdis;replace sb:=kk sb hkw;clear hkw hrw hnew hdis;go_wp2
           go_roundg g
           ·exact⟨k+1,by omega,rfl,rfl,by rw[<-hs,show k+1+2=2+k+1 by omega],sb⟩
           omega
          ·rfl
         ·rfl
        ·rfl
      ·rfl
     ·rfl
    ·rfl
 ·rfl
theorem Ju (z:Int)(w:World):
  Calls Tryz.prog 150 #[.int .i64 z] w (Rt (.bool (smI z)) w):=by
 unfold smI;by_cases h1:z<2
 ·rw[d_ (show ¬2<=z by omega)];exact Lq z w h1
 by_cases h2:65536<=z
 ·rw[d_ (show ¬z<65536 by omega),N_,bS0];exact OD z w h2
 obtain⟨n,rfl⟩:=aU0 (show 0<=z by omega);rw[c_ (show(2:Int)<=n by omega),c_ (show(n:Int)<65536 by omega),q_,aF0,aF0];exact Jt n _ w (by omega) (by omega) rfl
def plI (z:Int):Bool:=decide (2<=z)&&(decide (z<=4294967296)&&TJ z.toNat 65534 2)
def clC (q:Option Addr)(F K:Nat):Array Value:=#[.pointer q,.int .u64 (lm F 0),.int .u64 (lm F 1),.int .u64 (lm F 2),.int .u64 (lm F 3),.int .u64 (lm K 0),.int .u64 (lm K 1),.int .u64 (lm K 2),.int .u64 (lm K 3)]
theorem vY (q:Option Addr)(F K:Nat): ∀j v,(Zb F).toList[j]?=some v->(clC q F K)[1+j]?=some v:=U1 rfl rfl rfl rfl
theorem vZ (q:Option Addr)(F K:Nat): ∀j v,(Zb K).toList[j]?=some v->(clC q F K)[5+j]?=some v:=U1 rfl rfl rfl rfl
theorem Dz (q:Option Addr)(F K:Nat):(clC q F K).all (·.oneCell')=true:=by simp[clC,Value.oneCell']
theorem Jv:(Tryz.prog.info? 181).map (fun i=>(i.zero,i.size))=some (some (.agg (clC none 0 0)),9):=by kernel_rfl
theorem Jw (w:World):(zeroValue 181).run Tryz.prog w= .ok (.agg (clC none 0 0)) w:=(V_ Jv).1 w
theorem RO:(Tryz.prog.info? 181).map (·.size)=some 9:=(V_ Jv).2
theorem ZQ (c:Array Value): ∀j v,c.toList[j]?=some v->c[0+j]?=some v:=fun j v h=>by rw[A_,<-k_];exact h
theorem Jx (q:Option Addr)(F K:Nat):Tryz.prog.built 181 [(0,.pointer q),(1,.agg (Zb F)),(2,.agg (Zb K))]=some (clC q F K):=by
 unfold Zb clC;generalize lm F 0=a0;generalize lm F 1=a1;generalize lm F 2=a2;generalize lm F 3=a3;generalize lm K 0=b0;generalize lm K 1=b1;generalize lm K 2=b2;generalize lm K 3=b3
 kernel_rfl
theorem Lr {o:Oper}{ρ:Operand->Value}{x0 x1 x2:Operand}(q:Option Addr)(F K:Nat)(ho:o.op= .build 181 #[(0,x0),(1,x1),(2,x2)])(h0:ρ x0= .pointer q)(h1:ρ x1= .agg (Zb F))(h2:ρ x2= .agg (Zb K))(w:World):
  (execOp ρ o).run Tryz.prog w= .ok (.value (.agg (clC q F K))) w:=by
 unfold execOp;simp only[ho,cX0,eY0,fV0,h0,h1,h2,r_];rw[iK0 w 181 _ (clC q F K) (Jx q F K)];rfl
theorem Jy {P:Program}{fn:Func}{R:Ending->World->Prop}{a:Act}{w:World}{p u:Tmp}{ty:TypeId}(hf:fn.results=#[.cell p ty,.tmp u])(g:Nat)(hp:a.tmps.getD p undef= .pointer (some ⟨g,0,none⟩))
  {t:TypeId}{cs:Array Value}(hr:Row w g cs t)(fs:Array Field)(hu:P.underlying ty=some (.struct fs))(hi:(P.info? ty).map (·.size)=some cs.size)(hd:a.defers=[])
  (v:Value)(hv:a.tmps.getD u undef=v)(h:R (.returned (.tuple #[.agg cs,v])) w):bodyPost P fn R .ret a w:=by
 refine eS0 (v:=.tuple #[.agg cs,v]) ?_ hd h;rw[results_cell_tmp hf,hp,hv];simp only[asAddr,aJ0,m_];rw[cC0 w g t ty cs (0,0) _ hr hu rfl hi];rfl
theorem SZ (X:Nat)(h:1<=X):Zb (WC X 1)=Zb (X-1):=by
 rw[W3];unfold WC;rw[show X+(2^256-1)=X-1+2^256 by omega,Nat.add_mod_right]
theorem Jz (A B:Nat):decide ((0:Int)<VB A B)=decide (B<A):=by
 unfold VB
 split
 ·rw[d_ (by omega),d_ (by omega)]
 ·split
  ·rw[c_ (by omega),c_ (by assumption)]
  ·rw[d_ (by omega),d_ (by omega)]
theorem Pb (X:Nat):(!decide (X%2^256=X%2^256))=false:=by rw[c_ rfl];rfl
theorem BD (X Y:Nat)(hX:X<2^256)(hY:Y<2^256)(h:X≠Y):(!decide (X%2^256=Y%2^256))=true:=by
 rw[g_ hX,g_ hY,d_ h];rfl
theorem JA (F N L H:Nat)(w:World)(hb:(!decide (H%2^256=0%2^256))=true)
  (hmu: ∀w',Calls Tryz.prog 157 #[.agg (Zb F),.agg (Zb F)] w' (Rt (.tuple #[.agg (Zb L),.agg (Zb H)]) w')):
  Calls Tryz.prog 188 #[.agg (Zb F),.agg (Zb N)] w fun e w'=>e= .returned (.bool true)/\Below w.heap.size w w':=by
 go_enter func188,ntmps188
 iterate 2 go_step
 apply Za [] [_,_,_] trivial a_
 ·intro p;refine Yc 57 _ rfl _ rfl (m_W ?_);refine Yc 57 _ rfl _ rfl (m_W ?_);refine m_V (.bool false) (fun _=>rfl) ?_;refine Zd ?_;intro w2 hkw hrw hnew hdis;have n2:=hnew 0 rfl;have n3:=hnew 1 rfl;have zr2:Row w2 (p 0) (Zb F) 57:=hrw 1 (57,Zb F) rfl;have zr3:Row w2 (p 1) (Zb N) 57:=hrw 3 (57,Zb N) rfl;have sb:=k_b hkw;clear hkw hrw hnew hdis n2 n3;generalize p 0=g2 at*;generalize p 1=g3 at*;have r2:=zr2;clear zr2;have r3:=zr3;clear zr3;iterate 3 go_step
  apply Za [] [_,_,_,_,_,_,_,_,_,_] trivial a_
  ·intro p;refine m_L r2 ?_;refine m_L r2 ?_;refine m_C 157 func157 #[.agg (Zb F),.agg (Zb F)] hmu ?_;refine m_n ?_;refine m_W ?_;refine m_n ?_;refine m_W ?_;refine m_p 13 L ?_;simp only[Act.put];refine m_p 15 H ?_;simp only[Act.put];refine Zd ?_;intro w3 hkw hrw hnew hdis;have zr5:Row w3 (p 6) (Zb L) 57:=hrw 13 (57,Zb L) rfl;have zr6:Row w3 (p 7) (Zb H) 57:=hrw 15 (57,Zb H) rfl;replace r3:=hkw.ro r3;replace sb:=kk sb hkw;clear hkw hrw hnew hdis;generalize p 6=g5 at*;generalize p 7=g6 at*;clear zr5;have r6:=zr6;clear zr6;iterate 3 go_step
   refine ZE ?_;refine Y8 (by rfl) 57 _ rfl _ rfl r6 4 _ b_ Zc (q_W ?_);refine q_V _ (ZG 57 rfl _ ZA) ?_;refine q_V (.bool true) (fun w'=>(Z8 _ _ _ rfl H 0 rfl rfl w').trans (by rw[hb])) ?_;refine q_P true (.bool true) ?_;intro w4 hqb;replace sb:=b_o sb hqb;clear hqb;go_wp2;go_ret;exact⟨rfl,sb⟩
  ·rfl
 ·rfl
theorem Fu (F N L H:Nat)(z:Int)(w:World)(hb:(!decide (H%2^256=0%2^256))=false)
  (hmu: ∀w',Calls Tryz.prog 157 #[.agg (Zb F),.agg (Zb F)] w' (Rt (.tuple #[.agg (Zb L),.agg (Zb H)]) w'))
  (hcm: ∀w',Calls Tryz.prog 112 #[.agg (Zb L),.agg (Zb N)] w' (Rt (.int .i64 z) w')):
  Calls Tryz.prog 188 #[.agg (Zb F),.agg (Zb N)] w fun e w'=>e= .returned (.bool (decide (0<z)))/\Below w.heap.size w w':=by
 go_enter func188,ntmps188
 iterate 2 go_step
 apply Za [] [_,_,_] trivial a_
 ·intro p;refine Yc 57 _ rfl _ rfl (m_W ?_);refine Yc 57 _ rfl _ rfl (m_W ?_);refine m_V (.bool false) (fun _=>rfl) ?_;refine Zd ?_;intro w2 hkw hrw hnew hdis;have n2:=hnew 0 rfl;have n3:=hnew 1 rfl;have zr2:Row w2 (p 0) (Zb F) 57:=hrw 1 (57,Zb F) rfl;have zr3:Row w2 (p 1) (Zb N) 57:=hrw 3 (57,Zb N) rfl;have sb:=k_b hkw;clear hkw hrw hnew hdis n2 n3;generalize p 0=g2 at*;generalize p 1=g3 at*;have r2:=zr2;clear zr2;have r3:=zr3;clear zr3;iterate 3 go_step
  apply Za [] [_,_,_,_,_,_,_,_,_,_] trivial a_
  ·intro p;refine m_L r2 ?_;refine m_L r2 ?_;refine m_C 157 func157 #[.agg (Zb F),.agg (Zb F)] hmu ?_;refine m_n ?_;refine m_W ?_;refine m_n ?_;refine m_W ?_;refine m_p 13 L ?_;simp only[Act.put];refine m_p 15 H ?_;simp only[Act.put];refine Zd ?_;intro w3 hkw hrw hnew hdis;have zr5:Row w3 (p 6) (Zb L) 57:=hrw 13 (57,Zb L) rfl;have zr6:Row w3 (p 7) (Zb H) 57:=hrw 15 (57,Zb H) rfl;replace r3:=hkw.ro r3;replace sb:=kk sb hkw;clear hkw hrw hnew hdis;generalize p 6=g5 at*;generalize p 7=g6 at*;have r5:=zr5;clear zr5;have r6:=zr6;clear zr6;iterate 3 go_step
   refine ZE ?_;refine Y8 (by rfl) 57 _ rfl _ rfl r6 4 _ b_ Zc (q_W ?_);refine q_V _ (ZG 57 rfl _ ZA) ?_;refine q_V (.bool false) (fun w'=>(Z8 _ _ _ rfl H 0 rfl rfl w').trans (by rw[hb])) ?_;refine Y8 (by rfl) 57 _ rfl _ rfl r5 4 _ b_ Zc (q_W ?_);refine Y8 (by rfl) 57 _ rfl _ rfl r3 4 _ b_ Zc (q_W ?_);refine q_c 112 iL0 #[.agg (Zb L),.agg (Zb N)] hcm ?_;refine q_W ?_;refine q_V _ (Yf _ _ _ _ rfl z 0 rfl rfl _ rfl) ?_;refine Rm false (v:=.bool (decide (0<z))) (by rfl) rfl rfl rfl (q_W ?_);intro w4 hqb;replace sb:=b_o sb hqb;clear hqb;go_wp2;go_ret;exact⟨rfl,sb⟩
  ·rfl
 ·rfl
theorem Fv (F N:Nat)(w:World)(hF:F<2^256)(hN:N<2^256):
  Calls Tryz.prog 188 #[.agg (Zb F),.agg (Zb N)] w (Rt (.bool (decide (N<F*F))) w):=by
 have hFF:F*F/2^256<2^256:=by
  rw[bG0 (v_ _)];exact Nat.mul_lt_mul'' hF hF
 by_cases h:F*F<2^256
 ·have h0:F*F/2^256=0:=K_ h;have:=Fu F N (F*F) 0 (VB (F*F) N) w (Pb 0) (fun w'=>h0▸U5 F F w' hF hF) (fun w'=>Wn (F*F) N w' h hN);rw[Jz]at this;exact this
 ·rw[c_ (show N<F*F by omega)];refine JA F N (F*F) (F*F/2^256) w (BD _ 0 hFF (v_ _) ?_) (fun w'=>U5 F F w' hF hF);intro h0;have:=(Nat.div_eq_zero_iff_lt (v_ 256)).1 h0;exact h this
theorem JB (N F L K R:Nat)(er lz:Int)(RG:Array Value)(w:World)(he:er=0)(hr:(!decide (R%2^256=0%2^256))=false)
  (hnew: ∀w',Calls Tryz.prog 55 #[.agg (Zb N)] w' fun e w2=> ∃g,e= .returned (.tuple #[.pointer (some ⟨g,0,none⟩),.int .i64 0])/\w'.heap.size<=g/\Row w2 g RG 160/\Below w'.heap.size w' w2)
  (hof: ∀w',Calls Tryz.prog 57 #[.int .i64 1] w' (Rt (.agg (Zb 1)) w'))
  (hsu: ∀w',Calls Tryz.prog 154 #[.agg (Zb N),.agg (Zb 1)] w' (Rt (.tuple #[.agg (Zb L),.int .i64 lz]) w'))
  (hdi: ∀w',Calls Tryz.prog 187 #[.agg (Zb L),.agg (Zb F)] w' (Rt (.tuple #[.agg (Zb K),.agg (Zb R),.int .i64 er]) w'))
  (hsq: ∀w',Calls Tryz.prog 188 #[.agg (Zb F),.agg (Zb N)] w' (Rt (.bool true) w')):
  Calls Tryz.prog 151 #[.agg (Zb N),.agg (Zb F)] w fun e w'=>(∃g,e= .returned (.tuple #[.agg (clC (some ⟨g,0,none⟩) F K),.bool true])/\w.heap.size<=g/\Row w' g RG 160)/\Below w.heap.size w w':=by
 go_enter func151,ntmps151
 iterate 2 go_step
 apply Za [] [_,_,_,_] trivial a_
 ·intro p;refine Yc 57 _ rfl _ rfl (m_W ?_);refine Yc 57 _ rfl _ rfl (m_W ?_);refine XV 181 rfl _ Jw (m_W ?_);refine m_V (.bool false) (fun _=>rfl) ?_;refine Zd ?_;intro w2 hkw hrw hnew hdis;have n2:=hnew 0 rfl;have n3:=hnew 1 rfl;have n4:=hnew 2 rfl;have zr2:Row w2 (p 0) (Zb N) 57:=hrw 1 (57,Zb N) rfl;have zr3:Row w2 (p 1) (Zb F) 57:=hrw 3 (57,Zb F) rfl;have zr4:Row w2 (p 2) (clC none 0 0) 181:=hrw 5 (181,clC none 0 0) rfl;have d3x4:=hdis 1 2 (by omega) rfl rfl;have sb:=k_b hkw;have b4:w.heap.size<=p 2:=n4;clear hkw hrw hnew hdis n2 n3 n4;generalize p 0=g2 at*;generalize p 1=g3 at*;generalize p 2=g4 at*;have r2:=zr2;clear zr2;have r3:=zr3;clear zr3;have r4:=zr4;clear zr4
  go_wp2_with (first
   |refine Zh rfl 57 _ rfl _ rfl r2 4 _ b_ (by exact Zc) ?_)
  refine(hnew _).mono ?_;rintro _ wb ⟨g6,rfl,hg6,r6,bb⟩;replace r2:=r2.belowAll bb;replace r3:=r3.belowAll bb;have d4x6:=l_l r4.lt hg6;replace r4:=r4.belowAll bb;have b6:w.heap.size<=g6:=f_ sb.size hg6;replace sb:=b_o sb bb;clear bb hg6 hnew
  dsimp only
  iterate 21 go_step
  apply Za [] [_,_] trivial a_
  ·intro p;refine m_W ?_;refine m_V _ (ZT .i64 _ _ _ _ rfl 0 0 rfl rfl false rfl) ?_;refine Zd ?_;intro w4 hkw hrw hnew hdis;replace r2:=hkw.ro r2;replace r3:=hkw.ro r3;replace r4:=hkw.ro r4;replace r6:=hkw.ro r6;replace sb:=kk sb hkw;clear hkw hrw hnew hdis;iterate 7 go_step
   apply Zg (by kernel_rfl) [] [_,_,_,_,_,_,_,_,_] trivial a_
   ·intro p;refine m_L r2 ?_;refine m_C 57 hP0 #[.int .i64 1] hof ?_;refine m_C 154 iS0 #[.agg (Zb N),.agg (Zb 1)] hsu ?_;refine m_n ?_;refine m_W ?_;refine m_p 13 L ?_;simp only[Act.put];refine m_W ?_;refine Zd ?_;intro w5 hkw hrw hnew hdis;have zr8:Row w5 (p 6) (Zb L) 57:=hrw 13 (57,Zb L) rfl;replace r2:=hkw.ro r2;replace r3:=hkw.ro r3;replace r4:=hkw.ro r4;replace r6:=hkw.ro r6;replace sb:=kk sb hkw;clear hkw hrw hnew hdis;generalize p 6=g8 at*;have r8:=zr8;clear zr8;iterate 3 go_step
    apply Za [] [_,_,_,_,_,_,_,_,_,_,_,_] trivial a_
    ·intro p;refine m_L r8 ?_;refine m_L r3 ?_;refine m_C 187 func187 #[.agg (Zb L),.agg (Zb F)] hdi ?_;refine m_n ?_;refine m_W ?_;refine m_n ?_;refine m_W ?_;refine m_p 15 K ?_;simp only[Act.put];refine m_p 17 R ?_;simp only[Act.put];refine m_W ?_;refine Zd ?_;intro w6 hkw hrw hnew hdis;have n10:=hnew 7 rfl;have n11:=hnew 8 rfl;have zr10:Row w6 (p 7) (Zb K) 57:=hrw 15 (57,Zb K) rfl;have zr11:Row w6 (p 8) (Zb R) 57:=hrw 17 (57,Zb R) rfl;have d4x10:=l_l r4.lt n10;replace r2:=hkw.ro r2;replace r3:=hkw.ro r3;replace r4:=hkw.ro r4;replace r6:=hkw.ro r6;replace sb:=kk sb hkw;clear hkw hrw hnew hdis n10 n11;generalize p 7=g10 at*;generalize p 8=g11 at*;have r10:=zr10;clear zr10;have r11:=zr11;clear zr11;iterate 4 go_step
     refine ZE ?_;refine q_W ?_;refine q_V _ (ZT .i64 _ _ _ _ rfl er 0 rfl rfl false (by rw[c_ he];rfl)) ?_;refine Y8 (by rfl) 57 _ rfl _ rfl r11 4 _ b_ Zc (q_W ?_);refine q_V _ (ZG 57 rfl _ ZA) ?_;refine q_V (.bool false) (fun w'=>(Z8 _ _ _ rfl R 0 rfl rfl w').trans (by rw[hr])) ?_;refine q_P false (.bool false) ?_;refine Y8 (by rfl) 57 _ rfl _ rfl r3 4 _ b_ Zc (q_W ?_);refine Y8 (by rfl) 57 _ rfl _ rfl r2 4 _ b_ Zc (q_W ?_);refine q_c 188 func188 #[.agg (Zb F),.agg (Zb N)] hsq ?_;refine q_W ?_;refine q_V _ (Zs _ _ rfl true rfl) ?_;refine q_P false (.bool false) ?_;intro w7 hqb;replace r3:=r3.belowAll hqb;replace r4:=r4.belowAll hqb;replace r6:=r6.belowAll hqb;replace r10:=r10.belowAll hqb;replace sb:=b_o sb hqb;clear hqb;iterate 7 go_step
     apply Za [(g4,181,clC none 0 0)] [_,_,_,_,_,_] ⟨r4,trivial⟩ (by simp<;>omega)
     ·intro p;refine m_W ?_;refine m_L r3 ?_;refine m_L r10 ?_;refine m_V _ (Lr (some ⟨g6,0,none⟩) F K rfl rfl rfl rfl) ?_;refine Xl 0 181 _ _ rfl rfl rfl (clC (some ⟨g6,0,none⟩) F K) rfl (by exact RO) (by rfl) (Dz _ _ _) ?_;simp only[Act.put];refine m_V (.bool true) (fun _=>rfl) ?_;refine Zd ?_;intro w8 hkw hrw hnew hdis;have zr4:Row w8 (g4) (clC (some ⟨g6,0,none⟩) F K) 181:=hrw 0 (181,clC (some ⟨g6,0,none⟩) F K) rfl;replace r6:=hkw.ro r6;replace sb:=kk sb hkw;clear hkw hrw hnew hdis r4;have r4:=zr4;clear zr4;go_wp2;exact Jy rfl _ rfl r4 _ fQ0 (by exact RO) rfl _ rfl ⟨⟨g6,rfl,b6,r6⟩,sb⟩
     ·rfl
    ·rfl
   ·kernel_rfl
  ·rfl
 ·rfl
theorem OE (N F:Nat)(hN:N<2^256)(hF:F<2^256)(h1:1<=N):
  (∀w',Calls Tryz.prog 57 #[.int .i64 1] w' (Rt (.agg (Zb 1)) w'))/\
  (∀w',Calls Tryz.prog 154 #[.agg (Zb N),.agg (Zb 1)] w' (Rt (.tuple #[.agg (Zb (N-1)),.int .i64 (bN N 1 256:Nat)]) w'))/\
  (∀w',Calls Tryz.prog 187 #[.agg (Zb (N-1)),.agg (Zb F)] w' (Rt (.tuple #[.agg (Zb (yi (N-1) F)),.agg (Zb (Sy (N-1) F)),.int .i64 (U8 F)]) w')):=
 ⟨fun w'=>Xv 1 w' (by decide),fun w'=>SZ N h1▸X4 N 1 w' (by decide),fun w'=>Fm (N-1) F w' (by omega) hF⟩
theorem S3 {N F:Nat}(h:Bo N F=true):N%2=1/\N≠1/\F≠0/\(N-1)%F=0/\N<F*F:=by
 unfold Bo at h
 simpa only[p_,Y_]using h
theorem JC (N F:Nat)(w:World)(hN:N<2^256)(hF:F<2^256)(h:Bo N F=true):
  Calls Tryz.prog 151 #[.agg (Zb N),.agg (Zb F)] w fun e w'=>(∃g,e= .returned (.tuple #[.agg (clC (some ⟨g,0,none⟩) F ((N-1)/F)),.bool true])/\w.heap.size<=g/\Row w' g (rgC N (miL N) (WT N) (sqL N)) 160)/\Below w.heap.size w w':=by
 obtain⟨h1,h2,h3,h4,h5⟩:=S3 h;obtain⟨c1,c2,c3⟩:=OE N F hN hF (by omega);rw[show yi (N-1) F=(N-1)/F from j_ h3,show Sy (N-1) F=(N-1)%F from j_ h3]at c3;refine JB N F (N-1) ((N-1)/F) _ _ _ _ w (j_ h3) (by rw[h4];exact Pb 0) (fun w'=>Ot N w' h1 (by omega) hN) c1 c2 c3 fun w'=>?_
 have hs:=Fv F N w' hF hN;rw[c_ h5]at hs;exact hs
theorem JD (N F K A X Y L G:Nat)(z:Int)(g:Nat)(RG:Array Value)(w:World)(r0:Row w g RG 160)(lz:Int)(B:Bool)(hy:Y=1)(hB:decide (G%2^256=1%2^256)=B)
  (ho1: ∀w',Calls Tryz.prog 57 #[.int .i64 1] w' (Rt (.agg (Zb 1)) w'))
  (hoz: ∀w',Calls Tryz.prog 57 #[.int .i64 z] w' (Rt (.agg (Zb A)) w'))
  (hx1: ∀w',Row w' g RG 160->Calls Tryz.prog 56 #[.pointer (some ⟨g,0,none⟩),.agg (Zb A),.agg (Zb K)] w' (Rt (.agg (Zb X)) w'))
  (hx2: ∀w',Row w' g RG 160->Calls Tryz.prog 56 #[.pointer (some ⟨g,0,none⟩),.agg (Zb X),.agg (Zb F)] w' (Rt (.agg (Zb Y)) w'))
  (hsu: ∀w',Calls Tryz.prog 154 #[.agg (Zb X),.agg (Zb 1)] w' (Rt (.tuple #[.agg (Zb L),.int .i64 lz]) w'))
  (hM: ∀w',Row w' g RG 160->Calls Tryz.prog 190 #[.pointer (some ⟨g,0,none⟩)] w' (Rt (.agg (Zb N)) w'))
  (hgc: ∀w',Calls Tryz.prog 189 #[.agg (Zb N),.agg (Zb L)] w' (Rt (.agg (Zb G)) w')):
  Calls Tryz.prog 152 #[.agg (clC (some ⟨g,0,none⟩) F K),.int .i64 z] w fun e w'=>e= .returned (.bool B)/\Below w.heap.size w w':=by
 go_enter func152,ntmps152
 iterate 2 go_step
 apply Za [] [_,_] trivial a_
 ·intro p;refine Yc 181 _ rfl _ rfl (m_W ?_);refine m_V (.bool false) (fun _=>rfl) ?_;refine Zd ?_;intro w2 hkw hrw hnew hdis;have n2:=hnew 0 rfl;have zr2:Row w2 (p 0) (clC (some ⟨g,0,none⟩) F K) 181:=hrw 1 (181,clC (some ⟨g,0,none⟩) F K) rfl;replace r0:=hkw.ro r0;have sb:=k_b hkw;clear hkw hrw hnew hdis n2;generalize p 0=g2 at*;have r2:=zr2;clear zr2;iterate 3 go_step
  apply Za [] [_,_,_] trivial a_
  ·intro p;refine m_C 57 hP0 #[.int .i64 1] ho1 ?_;refine m_n ?_;refine m_W ?_;refine m_p 3 1 ?_;simp only[Act.put];refine Zd ?_;intro w3 hkw hrw hnew hdis;have zr5:Row w3 (p 1) (Zb 1) 57:=hrw 3 (57,Zb 1) rfl;replace r0:=hkw.ro r0;replace r2:=hkw.ro r2;replace sb:=kk sb hkw;clear hkw hrw hnew hdis;generalize p 1=g5 at*;have r5:=zr5;clear zr5;iterate 3 go_step
   apply Zg (by kernel_rfl) [] [_,_,_,_,_,_,_,_,_] trivial a_
   ·intro p;refine m_V _ (Ze 181 _ 0 rfl g2 0 rfl _ fQ0 _ rfl 0 sizeOf68) ?_;refine m_D 0 r2 (.pointer (some ⟨g,0,none⟩)) rfl isAgg68 ?_;refine m_C 57 hP0 #[.int .i64 z] hoz ?_;refine m_V _ (Ze 181 _ 2 rfl g2 0 rfl _ fQ0 _ rfl 3 aV0) ?_;refine XD 57 _ rfl _ (5) rfl r2 (by simp<;>omega) (Zb K) (vZ _ F K) _ b_ rfl Zc (m_W ?_);refine m_K 56 func56 #[.pointer (some ⟨g,0,none⟩),.agg (Zb A),.agg (Zb K)] (fun w' hk=>hx1 w' (hk.row r0 (by simp))) ?_;refine m_n ?_;refine m_W ?_;refine m_p 15 X ?_;simp only[Act.put];refine Zd ?_;intro w4 hkw hrw hnew hdis;have zr6:Row w4 (p 7) (Zb X) 57:=hrw 15 (57,Zb X) rfl;replace r0:=hkw.ro r0;replace r2:=hkw.ro r2;replace r5:=hkw.ro r5;replace sb:=kk sb hkw;clear hkw hrw hnew hdis;generalize p 7=g6 at*;have r6:=zr6;clear zr6;iterate 4 go_step
    refine Zl (by kernel_rfl) (by kernel_rfl) ?_;refine q_V _ (Ze 181 _ 0 rfl g2 0 rfl _ fQ0 _ rfl 0 sizeOf68) ?_;refine ZF (by rfl) 68 _ rfl _ (0) rfl r2 (.pointer (some ⟨g,0,none⟩)) rfl isAgg68 (q_W ?_);refine Y8 (by rfl) 57 _ rfl _ rfl r6 4 _ b_ Zc (q_W ?_);refine q_V _ (Ze 181 _ 1 rfl g2 0 rfl _ fQ0 _ rfl 3 aV0) ?_;refine ZY (by rfl) 57 _ rfl _ (1) rfl r2 (Zb F) (vY _ F K) _ b_ rfl Zc (q_W ?_);refine q_k 56 func56 #[.pointer (some ⟨g,0,none⟩),.agg (Zb X),.agg (Zb F)] (fun w' hb=>hx2 w' (r0.belowAll hb)) ?_;refine q_W ?_;refine Y8 (by rfl) 57 _ rfl _ rfl r5 4 _ b_ Zc (q_W ?_);refine q_V (.bool false) (fun w'=>(Z8 _ _ _ rfl Y 1 rfl rfl w').trans (by rw[hy,Pb])) ?_;intro w5 hqb;replace r0:=r0.belowAll hqb;replace r2:=r2.belowAll hqb;replace r5:=r5.belowAll hqb;replace r6:=r6.belowAll hqb;replace sb:=b_o sb hqb;clear hqb;iterate 7 go_step
    apply Za [] [_,_,_,_,_,_,_,_,_] trivial a_
    ·intro p;refine m_L r6 ?_;refine m_L r5 ?_;refine m_C 154 iS0 #[.agg (Zb X),.agg (Zb 1)] hsu ?_;refine m_n ?_;refine m_W ?_;refine m_p 13 L ?_;simp only[Act.put];refine m_W ?_;refine Zd ?_;intro w6 hkw hrw hnew hdis;have zr7:Row w6 (p 6) (Zb L) 57:=hrw 13 (57,Zb L) rfl;replace r0:=hkw.ro r0;replace r2:=hkw.ro r2;replace r5:=hkw.ro r5;replace sb:=kk sb hkw;clear hkw hrw hnew hdis;generalize p 6=g7 at*;have r7:=zr7;clear zr7;iterate 3 go_step
     refine Zl (by kernel_rfl) (by kernel_rfl) ?_;refine q_V _ (Ze 181 _ 0 rfl g2 0 rfl _ fQ0 _ rfl 0 sizeOf68) ?_;refine ZF (by rfl) 68 _ rfl _ (0) rfl r2 (.pointer (some ⟨g,0,none⟩)) rfl isAgg68 (q_W ?_);refine q_k 190 func190 #[.pointer (some ⟨g,0,none⟩)] (fun w' hb=>hM w' (r0.belowAll hb)) ?_;refine q_W ?_;refine Y8 (by rfl) 57 _ rfl _ rfl r7 4 _ b_ Zc (q_W ?_);refine q_c 189 func189 #[.agg (Zb N),.agg (Zb L)] hgc ?_;refine q_W ?_;refine Y8 (by rfl) 57 _ rfl _ rfl r5 4 _ b_ Zc (q_W ?_);refine q_V (.bool B) (fun w'=>(ZJ _ _ _ rfl G 1 rfl rfl w').trans (by rw[hB])) ?_;intro w7 hqb;replace sb:=b_o sb hqb;clear hqb;go_wp2;go_ret;exact⟨rfl,sb⟩
    ·rfl
   ·kernel_rfl
  ·rfl
 ·rfl
theorem JE (N F K:Nat)(z:Int)(B:Bool)(RG:Array Value)(w:World)(h1:2<=z)(h2:z<=65535)
  (hcl: ∀w',Calls Tryz.prog 151 #[.agg (Zb N),.agg (Zb F)] w' fun e w2=>(∃g,e= .returned (.tuple #[.agg (clC (some ⟨g,0,none⟩) F K),.bool true])/\w'.heap.size<=g/\Row w2 g RG 160)/\Below w'.heap.size w' w2)
  (hsh: ∀g w',Row w' g RG 160->Calls Tryz.prog 152 #[.agg (clC (some ⟨g,0,none⟩) F K),.int .i64 z] w' (Rt (.bool B) w')):
  Calls Tryz.prog 110 #[.agg (Zb N),.agg (Zb F),.int .i64 z] w fun e w'=>e= .returned (.bool B)/\Below w.heap.size w w':=by
 go_enter func110,ntmps110
 iterate 2 go_step
 apply Za [] [_,_,_] trivial a_
 ·intro p;refine Yc 57 _ rfl _ rfl (m_W ?_);refine Yc 57 _ rfl _ rfl (m_W ?_);refine m_V (.bool false) (fun _=>rfl) ?_;refine Zd ?_;intro w2 hkw hrw hnew hdis;have n3:=hnew 0 rfl;have n4:=hnew 1 rfl;have zr3:Row w2 (p 0) (Zb N) 57:=hrw 1 (57,Zb N) rfl;have zr4:Row w2 (p 1) (Zb F) 57:=hrw 3 (57,Zb F) rfl;have sb:=k_b hkw;clear hkw hrw hnew hdis n3 n4;generalize p 0=g3 at*;generalize p 1=g4 at*;have r3:=zr3;clear zr3;have r4:=zr4;clear zr4;iterate 4 go_step
  refine ZE ?_;refine q_W ?_;refine q_V _ (YN z 2) ?_;refine q_V _ (RK z 65535) ?_;refine q_P false (.bool false) ?_;intro w3 hqb;replace r3:=r3.belowAll hqb;replace r4:=r4.belowAll hqb;replace sb:=b_o sb hqb;clear hqb
  go_wp2_with (first
   |refine Zh rfl 57 _ rfl _ rfl r3 4 _ b_ (by exact Zc) ?_
   |refine Zh rfl 57 _ rfl _ rfl r4 4 _ b_ (by exact Zc) ?_)
  refine(hcl _).mono ?_;rintro _ wb ⟨⟨g9,rfl,hg9,r9⟩,bb⟩;replace sb:=b_o sb bb;clear bb hg9 hcl r3 r4
  dsimp only
  (repeat((fail_if_success (with_reducible show Code.wp _ (Code.region _ _ _) _ _ _));first|(refine Zf rfl 181 rfl _ Jw ?_;simp only[Act.put,cH0,eB0,iA0])|(refine ZM rfl 181 _ _ rfl _ rfl rfl _ _ (by exact RO) (by rfl) (Dz _ _ _) ?_;simp only[Act.put])|go_step))
  have r7:Row (wb.alloc (.cells (clC (some ⟨g9,0,none⟩) F K) 181)) wb.heap.size (clC (some ⟨g9,0,none⟩) F K) 181:=Row.here rfl;replace r9:=r9.alloc (.cells (clC (some ⟨g9,0,none⟩) F K) 181);replace sb:=sb.alloc sb.size (.cells (clC (some ⟨g9,0,none⟩) F K) 181);generalize wb.alloc (.cells (clC (some ⟨g9,0,none⟩) F K) 181)=w4 at*;generalize wb.heap.size=g7 at*;refine ZE ?_;refine q_W ?_;refine ZY (by rfl) 181 _ rfl _ (0) rfl r7 (clC (some ⟨g9,0,none⟩) F K) (ZQ _) _ fQ0 rfl RO (q_W ?_);refine q_k 152 func152 #[.agg (clC (some ⟨g9,0,none⟩) F K),.int .i64 z] (fun w' hb=>hsh g9 w' (r9.belowAll hb)) ?_;refine q_W ?_;refine q_P true (.bool B) ?_;intro w5 hqb;replace sb:=b_o sb hqb;clear hqb;go_wp2;go_ret;exact⟨rfl,sb⟩
 ·rfl
def wtF (sh:Nat->Bool):Nat->Nat->Nat
 |0,_=>0
 |g+1,k=>if sh (2+k)=true then 2+k else wtF sh g (k+1)
def witN (N F:Nat):Nat:=if Bo N F=true then wtF (shN N F) 99 0 else 0
def errW (W:Nat):Int:=if W=0 then 3 else 0
def lkC (N:Nat)(z:Int):Array Value:=#[.int .u64 (lm N 0),.int .u64 (lm N 1),.int .u64 (lm N 2),.int .u64 (lm N 3),.int .i64 z]
theorem vL (N:Nat)(z:Int): ∀j v,(Zb N).toList[j]?=some v->(lkC N z)[0+j]?=some v:=U1 rfl rfl rfl rfl
theorem BE:(Tryz.prog.info? 106).map (fun i=>(i.zero,i.size))=some (some (.agg (lkC 0 0)),5):=by kernel_rfl
theorem BF:(Tryz.prog.info? 106).map (·.size)=some 5:=(V_ BE).2
theorem WM:Tryz.prog.underlying 54=some (.slice (Tryz.prog.elem 54)):=by kernel_rfl
structure LinksAt (w:World)(ab:Option Addr)(n:Nat)(N:Nat->Nat)(A:Nat->Int)(gb ob:Nat)(bcs:Array Value)(tb:TypeId):Prop where
 at':n=0∨(ab=some ⟨gb,ob,none⟩/\WG w gb bcs tb/\ ∀i,i<n-> ∀j v,(lkC (N i) (A i)).toList[j]?=some v->bcs[ob+i*5+j]?=some v)
 lt: ∀i,i<n->N i<2^256
theorem LinksAt.below {w w2:World}{ab:Option Addr}{n:Nat}{N:Nat->Nat}{A:Nat->Int}{gb ob:Nat}{bcs:Array Value}{tb:TypeId}(h:LinksAt w ab n N A gb ob bcs tb)(hb:Below w.heap.size w w2):LinksAt w2 ab n N A gb ob bcs tb:=
 ⟨h.at'.imp id fun⟨h1,h2,h3⟩=>⟨h1,h2.belowAll hb,h3⟩,h.lt⟩
theorem UL {bcs:Array Value}{off N:Nat}{z:Int}(h: ∀j v,(lkC N z).toList[j]?=some v->bcs[off+j]?=some v): ∀j v,(Zb N).toList[j]?=some v->bcs[off+j]?=some v:=fun j v hv=>by
 have:=vL N z j v hv;rw[A_,<-k_]at this;exact h j v this
theorem BG {bcs:Array Value}{off N:Nat}{z:Int}(h: ∀j v,(lkC N z).toList[j]?=some v->bcs[off+j]?=some v):bcs[off+4]?=some (.int .i64 z):=h 4 _ rfl
theorem Ls (N:Nat)(z I:Int)(w:World) 
  (hin: ∀w',Calls Tryz.prog 149 #[.agg (Zb N)] w' (Rt (.tuple #[.int .i64 I,.bool true]) w'))
  (hsm: ∀w',Calls Tryz.prog 150 #[.int .i64 I] w' (Rt (.bool true) w')):
  Calls Tryz.prog 109 #[.agg (lkC N z)] w fun e w'=>e= .returned (.bool (decide (z=0)))/\Below w.heap.size w w':=by
 go_enter func109,ntmps109
 iterate 2 go_step
 apply Za [] [_,_] trivial a_
 ·intro p;refine Yc 106 _ rfl _ rfl (m_W ?_);refine m_V (.bool false) (fun _=>rfl) ?_;refine Zd ?_;intro w2 hkw hrw hnew hdis;have n1:=hnew 0 rfl;have zr1:Row w2 (p 0) (lkC N z) 106:=hrw 1 (106,lkC N z) rfl;have sb:=k_b hkw;clear hkw hrw hnew hdis n1;generalize p 0=g1 at*;have r1:=zr1;clear zr1;iterate 3 go_step
  apply Za [] [_,_,_,_,_,_,_,_] trivial a_
  ·intro p;refine m_V _ (Ze 106 _ 0 rfl g1 0 rfl _ dJ0 _ rfl 3 aV0) ?_;refine XD 57 _ rfl _ (0) rfl r1 (by simp<;>omega) (Zb N) (vL N z) _ b_ rfl Zc (m_W ?_);refine m_C 149 func149 #[.agg (Zb N)] hin ?_;refine Zd ?_;intro w3 hkw hrw hnew hdis;replace r1:=hkw.ro r1;replace sb:=kk sb hkw;clear hkw hrw hnew hdis;iterate 3 go_step
   refine ZE ?_;refine q_W ?_;refine q_c 150 func150 #[.int .i64 I] hsm ?_;refine q_W ?_;refine q_P true (.bool true) ?_;refine q_V _ (Ze 106 _ 1 rfl g1 0 rfl _ dJ0 _ rfl 0 Q_) ?_;refine ZF (by rfl) 3 _ rfl _ (4) rfl r1 (.int .i64 z) rfl aD0 (q_W ?_);refine q_V _ (Zz .i64 _ _ _ _ rfl z 0 rfl rfl _ rfl) ?_;refine Rm true (v:=.bool (decide (z=0))) (by rfl) rfl rfl rfl (q_W ?_);intro w4 hqb;replace sb:=b_o sb hqb;clear hqb;go_wp2;go_ret;exact⟨rfl,sb⟩
  ·rfl
 ·rfl
def errC (b:Bool):Int:=if b=true then 0 else 4
theorem Fw (N F K a g:Nat)(w:World)(hN:N<2^256)(ho:N%2=1)(h2:2<=N)(hF:F<2^256)(hF0:F≠0)(hK:K<2^256)(ha:a<9223372036854775808)(r0:Row w g (rgC N (miL N) (WT N) (sqL N)) 160)(hy:(a^K%N)^F%N=1)(hg:Nat.gcd N (a^K%N-1)=1):
  Calls Tryz.prog 152 #[.agg (clC (some ⟨g,0,none⟩) F K),.int .i64 a] w (Rt (.bool true) w):=by
 have lm': ∀z,z%N<2^256:=fun z=>E_ (n_ _ (by omega)) hN
 have o1:=fun w'=>Xv 1 w' (by decide)
 have oz:=fun w'=>Xv (a:Int) w' (by omega)
 rw[q_]at oz
 have hX:1<=a^K%N:=by
  rcases aO0 (a^K%N)with h0|h0
  ·rw[h0,Nat.zero_pow (by omega),eE0]at hy;cases hy
  ·exact h0
 refine JD N F K a (a^K%N) _ (a^K%N-1) 1 a g _ w r0 (bN (a^K%N) 1 256:Nat) _ hy rfl o1 oz (fun w' r=>OC a K N g w' (by omega) hK hN ho h2 r) (fun w' r=>OC (a^K%N) F N g w' (lm' _) hF hN ho h2 r)
  (fun w'=>SZ _ hX▸X4 _ 1 w' (by decide)) (fun w' r=>KZ N _ _ _ g w' (by omega) hN r) (fun w'=>?_)
 have:=GQ N (a^K%N-1) w' hN (X_ (Nat.sub_le _ _) (lm' _));rw[hg]at this;exact this
theorem BH (N F:Nat)(z:Int)(w:World)(hN:N<2^256)(hF:F<2^256)(h:stN N F z=true):
  Calls Tryz.prog 110 #[.agg (Zb N),.agg (Zb F),.int .i64 z] w (Rt (.bool true) w):=by
 unfold stN shN at h;simp only[p_,Y_]at h;obtain⟨h1,h2,hm,hy,hg⟩:=h;obtain⟨f1,f2,f3,f4,f5⟩:=S3 hm;obtain⟨a,rfl⟩:=aU0 (show 0<=z by omega);rw[q_]at hy hg
 exact JE N F ((N-1)/F) a _ _ w (by omega) (by omega) (fun w'=>JC N F w' hN hF hm)
  (fun g w' r=>Fw N F ((N-1)/F) a g w' hN f1 (by omega) hF f3 (X_ (bP0 _ _) (by omega)) (by omega) r hy hg)
theorem JF (N:Nat)(w:World)(hN:N<2^256)(h:smN N=true):
  Calls Tryz.prog 109 #[.agg (lkC N 0)] w (Rt (.bool true) w):=by
 have h5:N<65536:=by
  unfold smN at h;simp only[p_,Y_]at h;omega
 have hin:=fun w'=>Gv N w' hN
 rw[(Pa N (by omega)).1,(Pa N (by omega)).2]at hin;have hsm:=fun w'=>Ju (N:Int) w'
 rw[Bm,h]at hsm;exact Ls N 0 N w hin hsm
theorem JG (n c:Nat)(ab:Option Addr)(N:Nat->Nat)(A:Nat->Int)(gb ob:Nat)(bcs:Array Value)(tb:TypeId)(w:World)(h1:1<=n)(h8:n<=8)(hL:LinksAt w ab n N A gb ob bcs tb)
  (hst0: ∀k,k+1<n->stN (N (k+1)) (N k) (A (k+1))=true)(hbe: ∀w',Calls Tryz.prog 109 #[.agg (lkC (N 0) (A 0))] w' (Rt (.bool true) w')):
  Calls Tryz.prog 52 #[.slice ab n c] w fun e w'=>e= .returned (.int .i64 0)/\Below w.heap.size w w':=by
 have HL:Hid (LinksAt w ab n N A gb ob bcs tb):=hL;clear hL
 go_enter func52,ntmps52
 iterate 2 go_step
 apply Za [] [_] trivial a_
 ·intro p;refine m_V (.int .i64 0) (fun _=>rfl) ?_;refine Zd ?_;intro w2 hkw hrw hnew hdis;have sb:=k_b hkw;clear hkw hrw hnew hdis;obtain h0|⟨rfl,rB,hat⟩:=(HL.out.below sb).at'
  ·omega
  iterate 4 go_step
  refine ZE ?_;refine q_W ?_;refine q_V _ (n_l (some ⟨gb,ob,none⟩) n c WM) ?_;refine q_V _ (YN n 1) ?_;refine q_V _ (n_l (some ⟨gb,ob,none⟩) n c WM) ?_;refine q_V _ (RK n 8) ?_;refine q_P false (.bool false) ?_;refine q_V _ (Zo 54 _ _ rfl gb ob n c rfl 0 rfl (by omega) _ eH0 5 hY0) ?_;refine YX (by rfl) 106 _ rfl _ ((ob+0*5)) rfl rB (lkC (N 0) (A 0)) (hat 0 (by omega)) _ dJ0 rfl BF (q_W ?_);refine q_c 109 func109 #[.agg (lkC (N 0) (A 0))] hbe ?_;refine q_W ?_;refine q_V _ (Zs _ _ rfl true rfl) ?_;refine q_P false (.bool false) ?_;intro w3 hqb;replace sb:=b_o sb hqb;clear hqb;clear rB hat hbe;iterate 8 go_step
  apply Za [] [_,_,_,_] trivial a_
  ·intro p;refine m_W ?_;refine m_V _ (n_l (some ⟨gb,ob,none⟩) n c WM) ?_;refine m_V _ (ZS _ _ _ _ rfl n 1 rfl rfl (by omega) (by omega)) ?_;refine m_V (.int .i64 0) (fun _=>rfl) ?_;refine Zd ?_;intro w3b hkw hrw hnew hdis;replace sb:=kk sb hkw;clear hkw hrw hnew hdis
   go_wp2_with fail
   go_loopg [22] (n-1) (fun g s22 wr=> ∃k:Nat,k+g=n-1/\s22= .int .i64 k/\Below w.heap.size w wr)
   case atStart=>exact⟨0,by omega,rfl,sb⟩
   case round=>
    clear sb;obtain⟨k,hk,rfl,sb⟩:=hrel
    cases gk with
    |zero=>
     go_step
     apply Za [] [_] trivial a_
     ·intro p;refine m_V _ (YN k (n-1:Nat)) ?_;refine Zd ?_;intro w4 hkw hrw hnew hdis;replace sb:=kk sb hkw;clear hkw hrw hnew hdis;go_wp2;go_ret;exact⟨rfl,sb⟩
     ·rfl
    |succ g=>
     have hst:=fun w'=>BH (N (k+1)) (N k) (A (k+1)) w' (HL.out.lt _ (by omega)) (HL.out.lt _ (by omega)) (hst0 k (by omega))
     go_step
     apply Za [] [_] trivial a_
     ·intro p;refine m_V _ (YW k (n-1:Nat)) ?_;refine Zd ?_;intro w4 hkw hrw hnew hdis;replace sb:=kk sb hkw;clear hkw hrw hnew hdis;iterate 10 go_step
      apply Za [] [_,_] trivial a_
      ·intro p;refine m_W ?_;refine Zd ?_;intro w5 hkw hrw hnew hdis;replace sb:=kk sb hkw;clear hkw hrw hnew hdis;obtain h0|⟨_,rB,hat⟩:=(HL.out.below sb).at'
       ·omega
       iterate 3 go_step
       refine Zl (by kernel_rfl) (by kernel_rfl) ?_;refine q_W ?_;refine q_V _ (x_a k 1) ?_;refine q_V _ (Zo 54 _ _ rfl gb ob n c rfl (k+1) rfl (by omega) _ eH0 5 hY0) ?_;refine q_V _ (Ze 106 _ 0 rfl gb (ob+(k+1)*5) rfl _ dJ0 _ rfl 3 aV0) ?_;refine YX (by rfl) 57 _ rfl _ ((ob+(k+1)*5)) rfl rB (Zb (N (k+1))) (UL (hat (k+1) (by omega))) _ b_ rfl Zc (q_W ?_);refine q_V _ (Zo 54 _ _ rfl gb ob n c rfl (k) rfl (by omega) _ eH0 5 hY0) ?_;refine q_V _ (Ze 106 _ 0 rfl gb (ob+(k)*5) rfl _ dJ0 _ rfl 3 aV0) ?_;refine YX (by rfl) 57 _ rfl _ ((ob+(k)*5)) rfl rB (Zb (N k)) (UL (hat k (by omega))) _ b_ rfl Zc (q_W ?_);refine q_V _ (x_a k 1) ?_;refine q_V _ (Zo 54 _ _ rfl gb ob n c rfl (k+1) rfl (by omega) _ eH0 5 hY0) ?_;refine q_V _ (Ze 106 _ 1 rfl gb (ob+(k+1)*5) rfl _ dJ0 _ rfl 0 Q_) ?_;refine Ye (by rfl) 3 _ rfl _ (ob+(k+1)*5+4) rfl rB (.int .i64 (A (k+1))) (BG (hat (k+1) (by omega))) aD0 (q_W ?_);refine q_c 110 func110 #[.agg (Zb (N (k+1))),.agg (Zb (N k)),.int .i64 (A (k+1))] hst ?_;refine q_W ?_;refine q_V _ (Zs _ _ rfl true rfl) ?_;intro w6 hqb;replace sb:=b_o sb hqb;clear hqb;iterate 6 go_step
       apply Za [] [_,_] trivial a_
       ·intro p;refine m_V _ (x_a k 1) ?_;refine Zd ?_;intro w7 hkw hrw hnew hdis;replace sb:=kk sb hkw;clear hkw hrw hnew hdis;go_wp2
        go_roundg g
        ·exact⟨k+1,by omega,rfl,sb⟩
        omega
       ·rfl
      ·rfl
     ·rfl
  ·rfl
 ·rfl
theorem Fx (n c:Nat)(ab:Option Addr)(N:Nat->Nat)(A:Nat->Int)(gb ob:Nat)(bcs:Array Value)(tb:TypeId)(w:World)(hL:LinksAt w ab n N A gb ob bcs tb)(h:chN n N A=true):
  Calls Tryz.prog 52 #[.slice ab n c] w (Rt (.int .i64 0) w):=by
 unfold chN at h;simp only[p_,Y_]at h;obtain⟨h1,h8,hs,h0,hl⟩:=h;rw[Ou]at hl;have hbe:=fun w'=>JF (N 0) w' (hL.lt 0 (by omega)) hs
 rw[<-h0]at hbe;exact JG n c ab N A gb ob bcs tb w h1 h8 hL (fun k hk=>hl k (by omega)) hbe
theorem NS:(Tryz.prog.info? 106).map (fun i=>(i.zero,i.size))=some (some (.agg #[.int .u64 0,.int .u64 0,.int .u64 0,.int .u64 0,.int .i64 0]),5):=by kernel_rfl
theorem NT: ∃i,Tryz.prog.info? 106=some i/\i.zero=some (.agg #[.int .u64 0,.int .u64 0,.int .u64 0,.int .u64 0,.int .i64 0])/\i.size=5:=by
 cases hi:Tryz.prog.info? 106 with
 |none=>have:=NS;rw[hi]at this;cases this
 |some i=>
  have h:=NS;rw[hi]at h;simp only[bA0,aT0,dI0]at h;exact⟨i,rfl,h.1,h.2⟩
theorem JH (N:Nat)(z:Int):Tryz.prog.built 106 [(0,.agg (Zb N)),(1,.int .i64 z)]=some (lkC N z):=by
 unfold Zb lkC;generalize lm N 0=a0;generalize lm N 1=a1;generalize lm N 2=a2;generalize lm N 3=a3
 kernel_rfl
theorem Wc {o:Oper}{ρ:Operand->Value}{x0 x1:Operand}(N:Nat)(z:Int)(ho:o.op= .build 106 #[(0,x0),(1,x1)])(h0:ρ x0= .agg (Zb N))(h1:ρ x1= .int .i64 z)(w:World):
  (execOp ρ o).run Tryz.prog w= .ok (.value (.agg (lkC N z))) w:=by
 unfold execOp;simp only[ho,cX0,eY0,fV0,h0,h1,r_];rw[iK0 w 106 _ (lkC N z) (JH N z)];rfl
theorem Fy (N:Nat)(z:Int):(lkC N z).size=5:=rfl
def v6 (A B:Int)(i:Nat):Int:=if i=0 then A else B