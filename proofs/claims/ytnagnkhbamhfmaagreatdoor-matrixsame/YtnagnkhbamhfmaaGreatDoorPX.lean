import Derived.Test.YtnagnkhbamhfmaaGreatDoorPM
import Derived.Test.YtnagnkhbamhfmaaGreatDoorMQ
import Derived.WalkMore
set_option maxRecDepth 100000
set_option maxHeartbeats 8000000
namespace Go.Proofs.YtnagnkhbamhfmaaGreatDoor
set_option linter.all false
open Go.Proofs.Tryz
open Go.RowKit
theorem Yi {P:Program}{o:Oper}{ρ:Operand->Value}(t:TypeId)(x y:Operand)(u:TypeId)(ho:o.op= .binOp .mul t x y u)(n m r:Nat)(hx:ρ x= .int .i64 n)(hy:ρ y= .int .i64 m)(hr:n*m=r)(h:r<9223372036854775808)(w:World):
  (execOp ρ o).run P w= .ok (.value (.int .i64 (r:Int))) w:=by
 subst hr;unfold execOp;simp only[ho,hx,hy];simp[go_sem];rw[<-Int.natCast_mul,IntKind.wrap_i64];omega
theorem YH {P:Program}{o:Oper}{ρ:Operand->Value}(t:TypeId)(x y:Operand)(u:TypeId)(ho:o.op= .binOp .leq t x y u)(n m:Int)(hx:ρ x= .int .i64 n)(hy:ρ y= .int .i64 m)(b:Bool)(hb:decide (n<=m)=b)(w:World):
  (execOp ρ o).run P w= .ok (.value (.bool b)) w:=by
 subst hb;unfold execOp;simp only[ho,hx,hy];simp[go_sem]
theorem Yb {P:Program}{o:Oper}{ρ:Operand->Value}(t:TypeId)(x y:Operand)(u:TypeId)(ho:o.op= .binOp .lss t x y u)(n m:Int)(hx:ρ x= .int .i64 n)(hy:ρ y= .int .i64 m)(b:Bool)(hb:decide (n<m)=b)(w:World):
  (execOp ρ o).run P w= .ok (.value (.bool b)) w:=by
 subst hb;unfold execOp;simp only[ho,hx,hy];simp[go_sem]
theorem XC {P:Program}{o:Oper}{ρ:Operand->Value}{t:TypeId}{x y:Operand}{u:TypeId}(n m:Int)(h: ¬n<m:=by omega)(ho:o.op= .binOp .lss t x y u:=by exact rfl)(hx:ρ x= .int .i64 n:=by exact rfl)(hy:ρ y= .int .i64 m:=by exact rfl): ∀w,(execOp ρ o).run P w= .ok (.value (.bool false)) w:=Yb t x y u ho n m hx hy false (decide_eq_false h)
theorem XV {P:Program}{o:Oper}{ρ:Operand->Value}{t:TypeId}{x y:Operand}{u:TypeId}(n m:Int)(h:n<m:=by omega)(ho:o.op= .binOp .lss t x y u:=by exact rfl)(hx:ρ x= .int .i64 n:=by exact rfl)(hy:ρ y= .int .i64 m:=by exact rfl): ∀w,(execOp ρ o).run P w= .ok (.value (.bool true)) w:=Yb t x y u ho n m hx hy true (decide_eq_true h)
theorem AY (d:Nat)(h:d<=65537):d*d<9223372036854775808:=by
 have:=Nat.mul_le_mul h h;omega
theorem NH (z:Int)(w:World)(h:z<2):
  Calls prog 150 #[.int .i64 z] w fun e w'=>e= .returned (.bool false)/\Below w.heap.size w w':=by
 go_enter func150,ntmps150
 iterate 2 go_step
 apply Za [] [_] trivial List.nodup_nil
 ·intro p;refine Ze (.bool false) (fun _=>rfl) ?_;simp only[pv];refine Zf ?_;intro w2 hkw hrw hnew hdis;have sb:=k_b hkw;clear hkw hrw hnew hdis;iterate 2 go_step
  go_step3
  iterate 2 go_step
  refine Zy ?_;refine q_m ?_;simp only[pv];refine q_v _ (Yb _ _ _ _ rfl z 2 rfl rfl true (decide_eq_true h)) ?_;refine q_m ?_;simp only[pv];refine ZH (by rfl) ?_;simp only[pv];refine ZH (by rfl) ?_;refine q_p true (.bool true) ?_;simp only[pv];refine ZN ?_;intro w3 hqb;replace sb:=b_o sb hqb;clear hqb;go_wp2;rw[Exit.noGoto_ret];go_ret;exact⟨rfl,sb⟩
 ·rfl
theorem Q8 (z:Int)(w:World)(h:65536<=z):
  Calls prog 150 #[.int .i64 z] w fun e w'=>e= .returned (.bool false)/\Below w.heap.size w w':=by
 go_enter func150,ntmps150
 iterate 2 go_step
 apply Za [] [_] trivial List.nodup_nil
 ·intro p;refine Ze (.bool false) (fun _=>rfl) ?_;simp only[pv];refine Zf ?_;intro w2 hkw hrw hnew hdis;have sb:=k_b hkw;clear hkw hrw hnew hdis;iterate 2 go_step
  go_step3
  iterate 2 go_step
  refine Zy ?_;refine q_m ?_;refine q_v _ (XC z 2) ?_;refine q_m ?_;refine q_m ?_;simp only[pv];refine q_v _ (Z4 _ _ _ _ rfl z 65536 rfl rfl true (decide_eq_true h)) ?_;refine q_p false (.bool true) ?_;simp only[pv];refine ZN ?_;intro w3 hqb;replace sb:=b_o sb hqb;clear hqb;go_wp2;rw[Exit.noGoto_ret];go_ret;exact⟨rfl,sb⟩
 ·rfl
theorem LG (n:Nat)(B:Bool)(w:World)(h2:2<=n)(h:n<65536)(hB:UY n n 2=B):
  Calls prog 150 #[.int .i64 n] w fun e w'=>e= .returned (.bool B)/\Below w.heap.size w w':=by
 have HB:Hid (UY n n (0+2)=B):=hB;clear hB
 go_enter func150,ntmps150
 iterate 2 go_step
 apply Za [] [_] trivial List.nodup_nil
 ·intro p;refine Ze (.bool false) (fun _=>rfl) ?_;simp only[pv];refine Zf ?_;intro w2 hkw hrw hnew hdis;have sb:=k_b hkw;clear hkw hrw hnew hdis;iterate 2 go_step
  go_step3
  iterate 2 go_step
  refine Zy ?_;refine q_m ?_;refine q_v _ (XC n 2) ?_;refine q_m ?_;refine q_m ?_;simp only[pv];refine q_v _ (Z4 _ _ _ _ rfl n 65536 rfl rfl false (decide_eq_false (by omega))) ?_;refine q_p false (.bool false) ?_;simp only[pv];refine ZN ?_;intro w3 hqb;replace sb:=b_o sb hqb;clear hqb
  go_wp2_with fail
  go_step3
  go_wp2_with fail
  go_loopg [3,13] n (fun g s3 s13 wr=> ∃k:Nat,k+g=n/\s3= .bool true/\s13= .int .i64 k/\UY n g (k+2)=B/\Below w.heap.size w wr)
  case atStart=>exact⟨0,by omega,rfl,rfl,HB.out,sb⟩
  case round=>
   clear sb HB;obtain⟨k,hk,rfl,rfl,hs,sb⟩:=hrel
   cases gk with
   |zero=>
    obtain rfl:k=n:=by omega
    obtain rfl:true=B:=hs
    go_step
    apply Za [] [_] trivial List.nodup_nil
    ·intro p;refine Ze _ (XC k k) ?_;simp only[pv];refine Zf ?_;intro w4 hkw hrw hnew hdis;replace sb:=kk sb hkw;clear hkw hrw hnew hdis;go_wp2
     (try rw[Exit.noGoto_ret])
     go_ret;exact⟨rfl,sb⟩
    ·rfl
   |succ g=>
    have hsq:=AY (2+k) (by omega);unfold UY at hs;rw[Nat.add_comm k 2]at hs
    go_step
    apply Za [] [_] trivial List.nodup_nil
    ·intro p;refine Ze _ (XV k n) ?_;simp only[pv];refine Zf ?_;intro w4 hkw hrw hnew hdis;replace sb:=kk sb hkw;clear hkw hrw hnew hdis;iterate 10 go_step
     apply Za [] [_,_] trivial List.nodup_nil
     ·intro p;refine m_m ?_;refine m_a ?_;simp only[pv];refine Zf ?_;intro w5 hkw hrw hnew hdis;replace sb:=kk sb hkw;clear hkw hrw hnew hdis;iterate 3 go_step
      apply Za [] [_,_,_] trivial List.nodup_nil
      ·intro p;refine m_m ?_;simp only[pv];refine Ze _ (x_a 2 k) ?_;refine m_a ?_;simp only[pv];refine Zf ?_;intro w6 hkw hrw hnew hdis;replace sb:=kk sb hkw;clear hkw hrw hnew hdis;by_cases hbig:n<(2+k)*(2+k)
       ·rw[if_pos hbig]at hs;subst hs;generalize hd:(2+k)*(2+k)=D at*;iterate 4 go_step
        apply Za [] [_,_,_,_,_,_] trivial List.nodup_nil
        ·intro p;refine m_m ?_;refine m_m ?_;simp only[pv];refine Ze _ (Yi _ _ _ _ rfl (2+k) (2+k) D rfl rfl hd hsq) ?_;refine m_m ?_;simp only[pv];refine Ze _ (G7 D n) ?_;refine m_a ?_;simp only[pv];refine Zf ?_;intro w7 hkw hrw hnew hdis;replace sb:=kk sb hkw;clear hkw hrw hnew hdis;go_wp2
         (try rw[Exit.noGoto_ret])
         go_ret;exact⟨rfl,sb⟩
        ·rfl
       rw[if_neg hbig]at hs;have hd0:0<2+k:=by omega
       by_cases hz:n%(2+k)=0
       ·rw[if_pos hz]at hs;subst hs;generalize hd:(2+k)*(2+k)=D at*;iterate 4 go_step
        apply Za [] [_,_,_,_,_,_] trivial List.nodup_nil
        ·intro p;refine m_m ?_;refine m_m ?_;simp only[pv];refine Ze _ (Yi _ _ _ _ rfl (2+k) (2+k) D rfl rfl hd hsq) ?_;refine m_m ?_;simp only[pv];refine Ze _ (QD D n) ?_;refine m_a ?_;simp only[pv];refine Zf ?_;intro w7 hkw hrw hnew hdis;replace sb:=kk sb hkw;clear hkw hrw hnew hdis;iterate 4 go_step
         apply Za [] [_,_,_,_,_] trivial List.nodup_nil
         ·intro p;refine m_m ?_;refine m_m ?_;simp only[pv];refine Ze _ (XM _ _ _ _ rfl n (2+k) rfl rfl hd0) ?_;simp only[pv];refine Ze _ (ZF .i64 _ _ _ _ rfl (n%(2+k):Nat) 0 rfl rfl true (decide_eq_true (by omega))) ?_;refine m_a ?_;simp only[pv];refine Zf ?_;intro w8 hkw hrw hnew hdis;replace sb:=kk sb hkw;clear hkw hrw hnew hdis;go_wp2
          (try rw[Exit.noGoto_ret])
          go_ret;exact⟨rfl,sb⟩
         ·rfl
        ·rfl
       ·rw[if_neg hz]at hs;generalize hd:(2+k)*(2+k)=D at*;iterate 4 go_step
        apply Za [] [_,_,_,_,_,_] trivial List.nodup_nil
        ·intro p;refine m_m ?_;refine m_m ?_;simp only[pv];refine Ze _ (Yi _ _ _ _ rfl (2+k) (2+k) D rfl rfl hd hsq) ?_;refine m_m ?_;simp only[pv];refine Ze _ (QD D n) ?_;refine m_a ?_;simp only[pv];refine Zf ?_;intro w7 hkw hrw hnew hdis;replace sb:=kk sb hkw;clear hkw hrw hnew hdis;iterate 4 go_step
         apply Za [] [_,_,_,_,_] trivial List.nodup_nil
         ·intro p;refine m_m ?_;refine m_m ?_;simp only[pv];refine Ze _ (XM _ _ _ _ rfl n (2+k) rfl rfl hd0) ?_;simp only[pv];refine Ze _ (ZF .i64 _ _ _ _ rfl (n%(2+k):Nat) 0 rfl rfl false (decide_eq_false (by omega))) ?_;refine m_a ?_;simp only[pv];refine Zf ?_;intro w8 hkw hrw hnew hdis;replace sb:=kk sb hkw;clear hkw hrw hnew hdis;iterate 6 go_step
          apply Za [] [_,_] trivial List.nodup_nil
          ·intro p;refine Ze _ (x_a k 1) ?_;refine m_m ?_;simp only[pv];refine Zf ?_;intro w9 hkw hrw hnew hdis;replace sb:=kk sb hkw;clear hkw hrw hnew hdis;go_wp2
           go_roundg g
           case measure=>omega
           case rel=>exact⟨k+1,by omega,rfl,rfl,by rw[<-hs,show k+1+2=2+k+1 by omega],sb⟩
          ·rfl
         ·rfl
        ·rfl
      ·rfl
     ·rfl
    ·rfl
 ·rfl
theorem LH (z:Int)(w:World):
  Calls prog 150 #[.int .i64 z] w (Rt (.bool (smI z)) w):=by
 unfold smI;by_cases h1:z<2
 ·rw[decide_eq_false (show ¬2<=z by omega)];exact NH z w h1
 by_cases h2:65536<=z
 ·rw[decide_eq_false (show ¬z<65536 by omega),Bool.false_and,Bool.and_false];exact Q8 z w h2
 obtain⟨n,rfl⟩:=Int.eq_ofNat_of_zero_le (show 0<=z by omega);rw[decide_eq_true (show(2:Int)<=n by omega),decide_eq_true (show(n:Int)<65536 by omega),Int.toNat_natCast,Bool.true_and,Bool.true_and];exact LG n _ w (by omega) (by omega) rfl
def plI (z:Int):Bool:=decide (2<=z)&&(decide (z<=4294967296)&&UY z.toNat 65534 2)
def clC (q:Option Addr)(F K:Nat):Array Value:=#[.pointer q,.int .u64 (lm F 0),.int .u64 (lm F 1),.int .u64 (lm F 2),.int .u64 (lm F 3),.int .u64 (lm K 0),.int .u64 (lm K 1),.int .u64 (lm K 2),.int .u64 (lm K 3)]
theorem ym (q:Option Addr)(F K:Nat): ∀j v,(Zd F).toList[j]?=some v->(clC q F K)[1+j]?=some v:=Ul rfl rfl rfl rfl
theorem yn (q:Option Addr)(F K:Nat): ∀j v,(Zd K).toList[j]?=some v->(clC q F K)[5+j]?=some v:=Ul rfl rfl rfl rfl
theorem G8 (q:Option Addr)(F K:Nat):(clC q F K).all (·.oneCell')=true:=by simp[clC,Value.oneCell']
theorem LI:(prog.info? 181).map (fun i=>(i.zero,i.size))=some (some (.agg (clC none 0 0)),9):=by kernel_rfl
theorem LJ (w:World):(zeroValue 181).run prog w= .ok (.agg (clC none 0 0)) w:=(zero_of_info LI).1 w
theorem SI:(prog.info? 181).map (·.size)=some 9:=(zero_of_info LI).2
theorem Yr (c:Array Value): ∀j v,c.toList[j]?=some v->c[0+j]?=some v:=fun j v h=>by rw[Nat.zero_add,<-Array.getElem?_toList];exact h
theorem LL (q:Option Addr)(F K:Nat):prog.built 181 [(0,.pointer q),(1,.agg (Zd F)),(2,.agg (Zd K))]=some (clC q F K):=by
 unfold Zd clC;generalize lm F 0=a0;generalize lm F 1=a1;generalize lm F 2=a2;generalize lm F 3=a3;generalize lm K 0=b0;generalize lm K 1=b1;generalize lm K 2=b2;generalize lm K 3=b3
 kernel_rfl
theorem NI {o:Oper}{ρ:Operand->Value}{x0 x1 x2:Operand}(q:Option Addr)(F K:Nat)(ho:o.op= .build 181 #[(0,x0),(1,x1),(2,x2)])(h0:ρ x0= .pointer q)(h1:ρ x1= .agg (Zd F))(h2:ρ x2= .agg (Zd K))(w:World):
  (execOp ρ o).run prog w= .ok (.value (.agg (clC q F K))) w:=by
 unfold execOp;simp only[ho,List.map_toArray,List.map_cons,List.map_nil,h0,h1,h2,Sem.run_bind];rw[run_build w 181 _ (clC q F K) (LL q F K)];rfl
theorem LM {P:Program}{fn:Func}{R:Ending->World->Prop}{a:Act}{w:World}{p u:Tmp}{ty:TypeId}(hf:fn.results=#[.cell p ty,.tmp u])(g:Nat)(hp:a.tmps.getD p undef= .pointer (some ⟨g,0,none⟩))
  {t:TypeId}{cs:Array Value}(hr:Row w g cs t)(fs:Array Field)(hu:P.underlying ty=some (.struct fs))(hi:(P.info? ty).map (·.size)=some cs.size)(hd:a.defers=[])
  (v:Value)(hv:a.tmps.getD u undef=v)(h:R (.returned (.tuple #[.agg cs,v])) w):bodyPost P fn R .ret a w:=by
 refine bodyPost_ret (v:=.tuple #[.agg cs,v]) ?_ hd h;rw[results_cell_tmp hf,hp,hv];simp only[asAddr,Sem.run_pure,Result.andThen_ok];rw[run_loadVar_row w g t ty cs (0,0) _ hr hu rfl hi];rfl
theorem TZ (X:Nat)(h:1<=X):Zd (Wb X 1)=Zd (X-1):=by
 rw[WA];unfold Wb;rw[show X+(2^256-1)=X-1+2^256 by omega,Nat.add_mod_right]
theorem LN (A B:Nat):decide ((0:Int)<WV A B)=decide (B<A):=by
 unfold WV
 split
 ·rw[decide_eq_false (by omega),decide_eq_false (by omega)]
 ·split
  ·rw[decide_eq_true (by omega),decide_eq_true (by assumption)]
  ·rw[decide_eq_false (by omega),decide_eq_false (by omega)]
theorem RY (X:Nat):(!decide (X%2^256=X%2^256))=false:=by rw[decide_eq_true rfl];rfl
theorem EZ (X Y:Nat)(hX:X<2^256)(hY:Y<2^256)(h:X≠Y):(!decide (X%2^256=Y%2^256))=true:=by
 rw[Nat.mod_eq_of_lt hX,Nat.mod_eq_of_lt hY,decide_eq_false h];rfl
theorem LO (F N L H:Nat)(w:World)(hb:(!decide (H%2^256=0%2^256))=true)
  (hmu: ∀w',Calls prog 157 #[.agg (Zd F),.agg (Zd F)] w' (Rt (.tuple #[.agg (Zd L),.agg (Zd H)]) w')):
  Calls prog 188 #[.agg (Zd F),.agg (Zd N)] w fun e w'=>e= .returned (.bool true)/\Below w.heap.size w w':=by
 go_enter func188,ntmps188
 iterate 2 go_step
 apply Za [] [_,_,_] trivial List.nodup_nil
 ·intro p;refine Yd 57 _ rfl _ rfl ?_;simp only[pv];refine Yd 57 _ rfl _ rfl ?_;simp only[pv];refine Ze (.bool false) (fun _=>rfl) ?_;simp only[pv];refine Zf ?_;intro w2 hkw hrw hnew hdis;have n2:=hnew 0 rfl;have n3:=hnew 1 rfl;have zr2:Row w2 (p 0) (Zd F) 57:=hrw 1 (57,Zd F) rfl;have zr3:Row w2 (p 1) (Zd N) 57:=hrw 3 (57,Zd N) rfl;have sb:=k_b hkw;clear hkw hrw hnew hdis n2 n3;generalize p 0=g2 at*;generalize p 1=g3 at*;have r2:=zr2;clear zr2;have r3:=zr3;clear zr3;iterate 3 go_step
  apply Za [] [_,_,_,_,_,_,_,_,_,_] trivial List.nodup_nil
  ·intro p;refine m_l r2 ?_;simp only[pv];refine m_l r2 ?_;simp only[pv];refine m_c 157 func157 #[.agg (Zd F),.agg (Zd F)] hmu ?_;refine m_m ?_;refine m_e ?_;refine m_e ?_;simp only[pv];refine m_n ?_;simp only[pv];refine m_n ?_;simp only[pv];refine m_p 13 L ?_;simp only[Act.put];refine m_p 15 H ?_;simp only[Act.put];refine Zf ?_;intro w3 hkw hrw hnew hdis;have zr5:Row w3 (p 6) (Zd L) 57:=hrw 13 (57,Zd L) rfl;have zr6:Row w3 (p 7) (Zd H) 57:=hrw 15 (57,Zd H) rfl;replace r3:=hkw.ro r3;replace sb:=kk sb hkw;clear hkw hrw hnew hdis;generalize p 6=g5 at*;generalize p 7=g6 at*;clear zr5;have r6:=zr6;clear zr6;iterate 3 go_step
   refine Zy ?_;refine YT (by rfl) 57 _ rfl _ rfl r6 4 _ underlying57 Zc ?_;simp only[pv];refine q_v _ (ZI 57 rfl _ ZA) ?_;simp only[pv];refine q_v (.bool true) (fun w'=>(ZT _ _ _ rfl H 0 rfl rfl w').trans (by rw[hb])) ?_;refine q_m ?_;simp only[pv];refine ZH (by rfl) ?_;simp only[pv];refine ZH (by rfl) ?_;simp only[pv];refine ZH (by rfl) ?_;simp only[pv];refine ZH (by rfl) ?_;refine q_p true (.bool true) ?_;refine q_a ?_;simp only[pv];refine ZN ?_;intro w4 hqb;replace sb:=b_o sb hqb;clear hqb;go_wp2;go_ret;exact⟨rfl,sb⟩
  ·rfl
 ·rfl
theorem IF (F N L H:Nat)(z:Int)(w:World)(hb:(!decide (H%2^256=0%2^256))=false)
  (hmu: ∀w',Calls prog 157 #[.agg (Zd F),.agg (Zd F)] w' (Rt (.tuple #[.agg (Zd L),.agg (Zd H)]) w'))
  (hcm: ∀w',Calls prog 112 #[.agg (Zd L),.agg (Zd N)] w' (Rt (.int .i64 z) w')):
  Calls prog 188 #[.agg (Zd F),.agg (Zd N)] w fun e w'=>e= .returned (.bool (decide (0<z)))/\Below w.heap.size w w':=by
 go_enter func188,ntmps188
 iterate 2 go_step
 apply Za [] [_,_,_] trivial List.nodup_nil
 ·intro p;refine Yd 57 _ rfl _ rfl ?_;simp only[pv];refine Yd 57 _ rfl _ rfl ?_;simp only[pv];refine Ze (.bool false) (fun _=>rfl) ?_;simp only[pv];refine Zf ?_;intro w2 hkw hrw hnew hdis;have n2:=hnew 0 rfl;have n3:=hnew 1 rfl;have zr2:Row w2 (p 0) (Zd F) 57:=hrw 1 (57,Zd F) rfl;have zr3:Row w2 (p 1) (Zd N) 57:=hrw 3 (57,Zd N) rfl;have sb:=k_b hkw;clear hkw hrw hnew hdis n2 n3;generalize p 0=g2 at*;generalize p 1=g3 at*;have r2:=zr2;clear zr2;have r3:=zr3;clear zr3;iterate 3 go_step
  apply Za [] [_,_,_,_,_,_,_,_,_,_] trivial List.nodup_nil
  ·intro p;refine m_l r2 ?_;simp only[pv];refine m_l r2 ?_;simp only[pv];refine m_c 157 func157 #[.agg (Zd F),.agg (Zd F)] hmu ?_;refine m_m ?_;refine m_e ?_;refine m_e ?_;simp only[pv];refine m_n ?_;simp only[pv];refine m_n ?_;simp only[pv];refine m_p 13 L ?_;simp only[Act.put];refine m_p 15 H ?_;simp only[Act.put];refine Zf ?_;intro w3 hkw hrw hnew hdis;have zr5:Row w3 (p 6) (Zd L) 57:=hrw 13 (57,Zd L) rfl;have zr6:Row w3 (p 7) (Zd H) 57:=hrw 15 (57,Zd H) rfl;replace r3:=hkw.ro r3;replace sb:=kk sb hkw;clear hkw hrw hnew hdis;generalize p 6=g5 at*;generalize p 7=g6 at*;have r5:=zr5;clear zr5;have r6:=zr6;clear zr6;iterate 3 go_step
   refine Zy ?_;refine YT (by rfl) 57 _ rfl _ rfl r6 4 _ underlying57 Zc ?_;simp only[pv];refine q_v _ (ZI 57 rfl _ ZA) ?_;simp only[pv];refine q_v (.bool false) (fun w'=>(ZT _ _ _ rfl H 0 rfl rfl w').trans (by rw[hb])) ?_;refine q_m ?_;simp only[pv];refine YT (by rfl) 57 _ rfl _ rfl r5 4 _ underlying57 Zc ?_;simp only[pv];refine YT (by rfl) 57 _ rfl _ rfl r3 4 _ underlying57 Zc ?_;simp only[pv];refine q_c 112 func112 #[.agg (Zd L),.agg (Zd N)] hcm ?_;simp only[pv];refine q_v _ (Ya _ _ _ _ rfl z 0 rfl rfl _ rfl) ?_;simp only[pv];refine Sj false (v:=.bool (decide (0<z))) (by rfl) rfl rfl rfl ?_;refine q_a ?_;simp only[pv];refine ZN ?_;intro w4 hqb;replace sb:=b_o sb hqb;clear hqb;go_wp2;go_ret;exact⟨rfl,sb⟩
  ·rfl
 ·rfl
theorem IG (F N:Nat)(w:World)(hF:F<2^256)(hN:N<2^256):
  Calls prog 188 #[.agg (Zd F),.agg (Zd N)] w (Rt (.bool (decide (N<F*F))) w):=by
 have hFF:F*F/2^256<2^256:=by
  rw[Nat.div_lt_iff_lt_mul (Nat.two_pow_pos _)];exact Nat.mul_lt_mul'' hF hF
 by_cases h:F*F<2^256
 ·have h0:F*F/2^256=0:=Nat.div_eq_of_lt h;have:=IF F N (F*F) 0 (WV (F*F) N) w (RY 0) (fun w'=>h0▸Up F F w' hF hF) (fun w'=>X0 (F*F) N w' h hN);rw[LN]at this;exact this
 ·rw[decide_eq_true (show N<F*F by omega)];refine LO F N (F*F) (F*F/2^256) w (EZ _ 0 hFF (Nat.two_pow_pos _) ?_) (fun w'=>Up F F w' hF hF);intro h0;have:=(Nat.div_eq_zero_iff_lt (Nat.two_pow_pos 256)).1 h0;exact h this
theorem LP (N F L K R:Nat)(er lz:Int)(RG:Array Value)(w:World)(he:er=0)(hr:(!decide (R%2^256=0%2^256))=false)
  (hnew: ∀w',Calls prog 55 #[.agg (Zd N)] w' fun e w2=> ∃g,e= .returned (.tuple #[.pointer (some ⟨g,0,none⟩),.int .i64 0])/\w'.heap.size<=g/\Row w2 g RG 160/\Below w'.heap.size w' w2)
  (hof: ∀w',Calls prog 57 #[.int .i64 1] w' (Rt (.agg (Zd 1)) w'))
  (hsu: ∀w',Calls prog 154 #[.agg (Zd N),.agg (Zd 1)] w' (Rt (.tuple #[.agg (Zd L),.int .i64 lz]) w'))
  (hdi: ∀w',Calls prog 187 #[.agg (Zd L),.agg (Zd F)] w' (Rt (.tuple #[.agg (Zd K),.agg (Zd R),.int .i64 er]) w'))
  (hsq: ∀w',Calls prog 188 #[.agg (Zd F),.agg (Zd N)] w' (Rt (.bool true) w')):
  Calls prog 151 #[.agg (Zd N),.agg (Zd F)] w fun e w'=>(∃g,e= .returned (.tuple #[.agg (clC (some ⟨g,0,none⟩) F K),.bool true])/\w.heap.size<=g/\Row w' g RG 160)/\Below w.heap.size w w':=by
 go_enter func151,ntmps151
 iterate 2 go_step
 apply Za [] [_,_,_,_] trivial List.nodup_nil
 ·intro p;refine Yd 57 _ rfl _ rfl ?_;simp only[pv];refine Yd 57 _ rfl _ rfl ?_;simp only[pv];refine Wz 181 rfl _ LJ ?_;simp only[pv];refine Ze (.bool false) (fun _=>rfl) ?_;simp only[pv];refine Zf ?_;intro w2 hkw hrw hnew hdis;have n2:=hnew 0 rfl;have n3:=hnew 1 rfl;have n4:=hnew 2 rfl;have zr2:Row w2 (p 0) (Zd N) 57:=hrw 1 (57,Zd N) rfl;have zr3:Row w2 (p 1) (Zd F) 57:=hrw 3 (57,Zd F) rfl;have zr4:Row w2 (p 2) (clC none 0 0) 181:=hrw 5 (181,clC none 0 0) rfl;have d3x4:=hdis 1 2 (by omega) rfl rfl;have sb:=k_b hkw;have b4:w.heap.size<=p 2:=n4;clear hkw hrw hnew hdis n2 n3 n4;generalize p 0=g2 at*;generalize p 1=g3 at*;generalize p 2=g4 at*;have r2:=zr2;clear zr2;have r3:=zr3;clear zr3;have r4:=zr4;clear zr4
  go_wp2_with (first
   |refine Zj rfl 57 _ rfl _ rfl r2 4 _ underlying57 (by exact Zc) ?_)
  refine(hnew _).mono ?_;rintro _ wb ⟨g6,rfl,hg6,r6,bb⟩;replace r2:=r2.belowAll bb;replace r3:=r3.belowAll bb;have d4x6:=l_l r4.lt hg6;replace r4:=r4.belowAll bb;have b6:w.heap.size<=g6:=Nat.le_trans sb.size hg6;replace sb:=b_o sb bb;clear bb hg6 hnew
  dsimp only
  iterate 21 go_step
  apply Za [] [_,_] trivial List.nodup_nil
  ·intro p;refine m_m ?_;simp only[pv];refine Ze _ (ZO .i64 _ _ _ _ rfl 0 0 rfl rfl false rfl) ?_;simp only[pv];refine Zf ?_;intro w4 hkw hrw hnew hdis;replace r2:=hkw.ro r2;replace r3:=hkw.ro r3;replace r4:=hkw.ro r4;replace r6:=hkw.ro r6;replace sb:=kk sb hkw;clear hkw hrw hnew hdis;iterate 7 go_step
   apply Zi (by kernel_rfl) [] [_,_,_,_,_,_,_,_,_] trivial List.nodup_nil
   ·intro p;refine m_l r2 ?_;simp only[pv];refine m_c 57 func57 #[.int .i64 1] hof ?_;simp only[pv];refine m_c 154 func154 #[.agg (Zd N),.agg (Zd 1)] hsu ?_;refine m_m ?_;refine m_e ?_;refine m_e ?_;simp only[pv];refine m_n ?_;simp only[pv];refine m_p 13 L ?_;simp only[Act.put];refine m_a ?_;simp only[pv];refine Zf ?_;intro w5 hkw hrw hnew hdis;have zr8:Row w5 (p 6) (Zd L) 57:=hrw 13 (57,Zd L) rfl;replace r2:=hkw.ro r2;replace r3:=hkw.ro r3;replace r4:=hkw.ro r4;replace r6:=hkw.ro r6;replace sb:=kk sb hkw;clear hkw hrw hnew hdis;generalize p 6=g8 at*;have r8:=zr8;clear zr8;iterate 3 go_step
    apply Za [] [_,_,_,_,_,_,_,_,_,_,_,_] trivial List.nodup_nil
    ·intro p;refine m_l r8 ?_;simp only[pv];refine m_l r3 ?_;simp only[pv];refine m_c 187 func187 #[.agg (Zd L),.agg (Zd F)] hdi ?_;refine m_m ?_;refine m_e ?_;refine m_e ?_;refine m_e ?_;simp only[pv];refine m_n ?_;simp only[pv];refine m_n ?_;simp only[pv];refine m_p 15 K ?_;simp only[Act.put];refine m_p 17 R ?_;simp only[Act.put];refine m_a ?_;simp only[pv];refine Zf ?_;intro w6 hkw hrw hnew hdis;have n10:=hnew 7 rfl;have n11:=hnew 8 rfl;have zr10:Row w6 (p 7) (Zd K) 57:=hrw 15 (57,Zd K) rfl;have zr11:Row w6 (p 8) (Zd R) 57:=hrw 17 (57,Zd R) rfl;have d4x10:=l_l r4.lt n10;replace r2:=hkw.ro r2;replace r3:=hkw.ro r3;replace r4:=hkw.ro r4;replace r6:=hkw.ro r6;replace sb:=kk sb hkw;clear hkw hrw hnew hdis n10 n11;generalize p 7=g10 at*;generalize p 8=g11 at*;have r10:=zr10;clear zr10;have r11:=zr11;clear zr11;iterate 4 go_step
     refine Zy ?_;refine q_m ?_;simp only[pv];refine q_v _ (ZO .i64 _ _ _ _ rfl er 0 rfl rfl false (by rw[decide_eq_true he];rfl)) ?_;refine q_m ?_;simp only[pv];refine YT (by rfl) 57 _ rfl _ rfl r11 4 _ underlying57 Zc ?_;simp only[pv];refine q_v _ (ZI 57 rfl _ ZA) ?_;simp only[pv];refine q_v (.bool false) (fun w'=>(ZT _ _ _ rfl R 0 rfl rfl w').trans (by rw[hr])) ?_;refine q_p false (.bool false) ?_;refine q_m ?_;simp only[pv];refine YT (by rfl) 57 _ rfl _ rfl r3 4 _ underlying57 Zc ?_;simp only[pv];refine YT (by rfl) 57 _ rfl _ rfl r2 4 _ underlying57 Zc ?_;simp only[pv];refine q_c 188 func188 #[.agg (Zd F),.agg (Zd N)] hsq ?_;simp only[pv];refine q_v _ (ZB _ _ rfl true rfl) ?_;refine q_p false (.bool false) ?_;simp only[pv];refine ZN ?_;intro w7 hqb;replace r3:=r3.belowAll hqb;replace r4:=r4.belowAll hqb;replace r6:=r6.belowAll hqb;replace r10:=r10.belowAll hqb;replace sb:=b_o sb hqb;clear hqb;iterate 7 go_step
     apply Za [(g4,181,clC none 0 0)] [_,_,_,_,_,_] ⟨r4,trivial⟩ (by simp<;>omega)
     ·intro p;refine m_m ?_;simp only[pv];refine m_l r3 ?_;simp only[pv];refine m_l r10 ?_;simp only[pv];refine Ze _ (NI (some ⟨g6,0,none⟩) F K rfl rfl rfl rfl) ?_;simp only[pv];refine XZ 0 181 _ _ rfl rfl rfl (clC (some ⟨g6,0,none⟩) F K) rfl (by exact SI) (by rfl) (G8 _ _ _) ?_;simp only[Act.put];refine Ze (.bool true) (fun _=>rfl) ?_;simp only[pv];refine Zf ?_;intro w8 hkw hrw hnew hdis;have zr4:Row w8 (g4) (clC (some ⟨g6,0,none⟩) F K) 181:=hrw 0 (181,clC (some ⟨g6,0,none⟩) F K) rfl;replace r6:=hkw.ro r6;replace sb:=kk sb hkw;clear hkw hrw hnew hdis r4;have r4:=zr4;clear zr4;go_wp2;exact LM rfl _ rfl r4 _ underlying181 (by exact SI) rfl _ rfl ⟨⟨g6,rfl,b6,r6⟩,sb⟩
     ·rfl
    ·rfl
   ·kernel_rfl
  ·rfl
 ·rfl
theorem Q9 (N F:Nat)(hN:N<2^256)(hF:F<2^256)(h1:1<=N):
  (∀w',Calls prog 57 #[.int .i64 1] w' (Rt (.agg (Zd 1)) w'))/\
  (∀w',Calls prog 154 #[.agg (Zd N),.agg (Zd 1)] w' (Rt (.tuple #[.agg (Zd (N-1)),.int .i64 (bN N 1 256:Nat)]) w'))/\
  (∀w',Calls prog 187 #[.agg (Zd (N-1)),.agg (Zd F)] w' (Rt (.tuple #[.agg (Zd (Ba (N-1) F)),.agg (Zd (Ri (N-1) F)),.int .i64 (TR F)]) w')):=
 ⟨fun w'=>Xe 1 w' (by decide),fun w'=>TZ N h1▸XH N 1 w' (by decide),fun w'=>ID (N-1) F w' (by omega) hF⟩
theorem T0 {N F:Nat}(h:ET N F=true):N%2=1/\N≠1/\F≠0/\(N-1)%F=0/\N<F*F:=by
 unfold ET at h
 simpa only[Bool.and_eq_true,decide_eq_true_iff]using h
theorem LQ (N F:Nat)(w:World)(hN:N<2^256)(hF:F<2^256)(h:ET N F=true):
  Calls prog 151 #[.agg (Zd N),.agg (Zd F)] w fun e w'=>(∃g,e= .returned (.tuple #[.agg (clC (some ⟨g,0,none⟩) F ((N-1)/F)),.bool true])/\w.heap.size<=g/\Row w' g (rgC N (miL N) (Wr N) (sqL N)) 160)/\Below w.heap.size w w':=by
 obtain⟨h1,h2,h3,h4,h5⟩:=T0 h;obtain⟨c1,c2,c3⟩:=Q9 N F hN hF (by omega);rw[show Ba (N-1) F=(N-1)/F from if_neg h3,show Ri (N-1) F=(N-1)%F from if_neg h3]at c3;refine LP N F (N-1) ((N-1)/F) _ _ _ _ w (if_neg h3) (by rw[h4];exact RY 0) (fun w'=>Q0 N w' h1 (by omega) hN) c1 c2 c3 fun w'=>?_
 have hs:=IG F N w' hF hN;rw[decide_eq_true h5]at hs;exact hs
theorem LR (N F K A X Y L G:Nat)(z:Int)(g:Nat)(RG:Array Value)(w:World)(r0:Row w g RG 160)(lz:Int)(B:Bool)(hy:Y=1)(hB:decide (G%2^256=1%2^256)=B)
  (ho1: ∀w',Calls prog 57 #[.int .i64 1] w' (Rt (.agg (Zd 1)) w'))
  (hoz: ∀w',Calls prog 57 #[.int .i64 z] w' (Rt (.agg (Zd A)) w'))
  (hx1: ∀w',Row w' g RG 160->Calls prog 56 #[.pointer (some ⟨g,0,none⟩),.agg (Zd A),.agg (Zd K)] w' (Rt (.agg (Zd X)) w'))
  (hx2: ∀w',Row w' g RG 160->Calls prog 56 #[.pointer (some ⟨g,0,none⟩),.agg (Zd X),.agg (Zd F)] w' (Rt (.agg (Zd Y)) w'))
  (hsu: ∀w',Calls prog 154 #[.agg (Zd X),.agg (Zd 1)] w' (Rt (.tuple #[.agg (Zd L),.int .i64 lz]) w'))
  (hM: ∀w',Row w' g RG 160->Calls prog 190 #[.pointer (some ⟨g,0,none⟩)] w' (Rt (.agg (Zd N)) w'))
  (hgc: ∀w',Calls prog 189 #[.agg (Zd N),.agg (Zd L)] w' (Rt (.agg (Zd G)) w')):
  Calls prog 152 #[.agg (clC (some ⟨g,0,none⟩) F K),.int .i64 z] w fun e w'=>e= .returned (.bool B)/\Below w.heap.size w w':=by
 go_enter func152,ntmps152
 iterate 2 go_step
 apply Za [] [_,_] trivial List.nodup_nil
 ·intro p;refine Yd 181 _ rfl _ rfl ?_;simp only[pv];refine Ze (.bool false) (fun _=>rfl) ?_;simp only[pv];refine Zf ?_;intro w2 hkw hrw hnew hdis;have n2:=hnew 0 rfl;have zr2:Row w2 (p 0) (clC (some ⟨g,0,none⟩) F K) 181:=hrw 1 (181,clC (some ⟨g,0,none⟩) F K) rfl;replace r0:=hkw.ro r0;have sb:=k_b hkw;clear hkw hrw hnew hdis n2;generalize p 0=g2 at*;have r2:=zr2;clear zr2;iterate 3 go_step
  apply Za [] [_,_,_] trivial List.nodup_nil
  ·intro p;refine m_c 57 func57 #[.int .i64 1] ho1 ?_;simp only[pv];refine m_n ?_;simp only[pv];refine m_p 3 1 ?_;simp only[Act.put];refine Zf ?_;intro w3 hkw hrw hnew hdis;have zr5:Row w3 (p 1) (Zd 1) 57:=hrw 3 (57,Zd 1) rfl;replace r0:=hkw.ro r0;replace r2:=hkw.ro r2;replace sb:=kk sb hkw;clear hkw hrw hnew hdis;generalize p 1=g5 at*;have r5:=zr5;clear zr5;iterate 3 go_step
   apply Zi (by kernel_rfl) [] [_,_,_,_,_,_,_,_,_] trivial List.nodup_nil
   ·intro p;refine Ze _ (Zh 181 _ 0 rfl g2 0 rfl _ underlying181 _ rfl 0 sizeOf68) ?_;simp only[pv];refine Zq 68 _ rfl _ (0) rfl r2 (by simp<;>omega) (.pointer (some ⟨g,0,none⟩)) rfl isAgg68 ?_;refine m_m ?_;simp only[pv];refine m_c 57 func57 #[.int .i64 z] hoz ?_;simp only[pv];refine Ze _ (Zh 181 _ 2 rfl g2 0 rfl _ underlying181 _ rfl 3 sizeOf57) ?_;simp only[pv];refine Xo 57 _ rfl _ (5) rfl r2 (by simp<;>omega) (Zd K) (yn _ F K) _ underlying57 rfl Zc ?_;simp only[pv];refine m_k 56 func56 #[.pointer (some ⟨g,0,none⟩),.agg (Zd A),.agg (Zd K)] (fun w' hk=>hx1 w' (hk.row r0 (by simp))) ?_;simp only[pv];refine m_n ?_;simp only[pv];refine m_p 15 X ?_;simp only[Act.put];refine Zf ?_;intro w4 hkw hrw hnew hdis;have zr6:Row w4 (p 7) (Zd X) 57:=hrw 15 (57,Zd X) rfl;replace r0:=hkw.ro r0;replace r2:=hkw.ro r2;replace r5:=hkw.ro r5;replace sb:=kk sb hkw;clear hkw hrw hnew hdis;generalize p 7=g6 at*;have r6:=zr6;clear zr6;iterate 4 go_step
    refine ZC (by kernel_rfl) (by kernel_rfl) ?_;refine q_v _ (Zh 181 _ 0 rfl g2 0 rfl _ underlying181 _ rfl 0 sizeOf68) ?_;simp only[pv];refine ZK (by rfl) 68 _ rfl _ (0) rfl r2 (.pointer (some ⟨g,0,none⟩)) rfl isAgg68 ?_;simp only[pv];refine YT (by rfl) 57 _ rfl _ rfl r6 4 _ underlying57 Zc ?_;simp only[pv];refine q_v _ (Zh 181 _ 1 rfl g2 0 rfl _ underlying181 _ rfl 3 sizeOf57) ?_;simp only[pv];refine Yv (by rfl) 57 _ rfl _ (1) rfl r2 (Zd F) (ym _ F K) _ underlying57 rfl Zc ?_;simp only[pv];refine q_k 56 func56 #[.pointer (some ⟨g,0,none⟩),.agg (Zd X),.agg (Zd F)] (fun w' hb=>hx2 w' (r0.belowAll hb)) ?_;simp only[pv];refine YT (by rfl) 57 _ rfl _ rfl r5 4 _ underlying57 Zc ?_;simp only[pv];refine q_v (.bool false) (fun w'=>(ZT _ _ _ rfl Y 1 rfl rfl w').trans (by rw[hy,RY])) ?_;simp only[pv];refine ZN ?_;intro w5 hqb;replace r0:=r0.belowAll hqb;replace r2:=r2.belowAll hqb;replace r5:=r5.belowAll hqb;replace r6:=r6.belowAll hqb;replace sb:=b_o sb hqb;clear hqb;iterate 7 go_step
    apply Za [] [_,_,_,_,_,_,_,_,_] trivial List.nodup_nil
    ·intro p;refine m_l r6 ?_;simp only[pv];refine m_l r5 ?_;simp only[pv];refine m_c 154 func154 #[.agg (Zd X),.agg (Zd 1)] hsu ?_;refine m_m ?_;refine m_e ?_;refine m_e ?_;simp only[pv];refine m_n ?_;simp only[pv];refine m_p 13 L ?_;simp only[Act.put];refine m_a ?_;simp only[pv];refine Zf ?_;intro w6 hkw hrw hnew hdis;have zr7:Row w6 (p 6) (Zd L) 57:=hrw 13 (57,Zd L) rfl;replace r0:=hkw.ro r0;replace r2:=hkw.ro r2;replace r5:=hkw.ro r5;replace sb:=kk sb hkw;clear hkw hrw hnew hdis;generalize p 6=g7 at*;have r7:=zr7;clear zr7;iterate 3 go_step
     refine ZC (by kernel_rfl) (by kernel_rfl) ?_;refine q_v _ (Zh 181 _ 0 rfl g2 0 rfl _ underlying181 _ rfl 0 sizeOf68) ?_;simp only[pv];refine ZK (by rfl) 68 _ rfl _ (0) rfl r2 (.pointer (some ⟨g,0,none⟩)) rfl isAgg68 ?_;simp only[pv];refine q_k 190 func190 #[.pointer (some ⟨g,0,none⟩)] (fun w' hb=>hM w' (r0.belowAll hb)) ?_;simp only[pv];refine YT (by rfl) 57 _ rfl _ rfl r7 4 _ underlying57 Zc ?_;simp only[pv];refine q_c 189 func189 #[.agg (Zd N),.agg (Zd L)] hgc ?_;simp only[pv];refine YT (by rfl) 57 _ rfl _ rfl r5 4 _ underlying57 Zc ?_;simp only[pv];refine q_v (.bool B) (fun w'=>(ZD _ _ _ rfl G 1 rfl rfl w').trans (by rw[hB])) ?_;refine q_a ?_;simp only[pv];refine ZN ?_;intro w7 hqb;replace sb:=b_o sb hqb;clear hqb;go_wp2;go_ret;exact⟨rfl,sb⟩
    ·rfl
   ·kernel_rfl
  ·rfl
 ·rfl
theorem LS (N F K:Nat)(z:Int)(B:Bool)(RG:Array Value)(w:World)(h1:2<=z)(h2:z<=65535)
  (hcl: ∀w',Calls prog 151 #[.agg (Zd N),.agg (Zd F)] w' fun e w2=>(∃g,e= .returned (.tuple #[.agg (clC (some ⟨g,0,none⟩) F K),.bool true])/\w'.heap.size<=g/\Row w2 g RG 160)/\Below w'.heap.size w' w2)
  (hsh: ∀g w',Row w' g RG 160->Calls prog 152 #[.agg (clC (some ⟨g,0,none⟩) F K),.int .i64 z] w' (Rt (.bool B) w')):
  Calls prog 110 #[.agg (Zd N),.agg (Zd F),.int .i64 z] w fun e w'=>e= .returned (.bool B)/\Below w.heap.size w w':=by
 go_enter func110,ntmps110
 iterate 2 go_step
 apply Za [] [_,_,_] trivial List.nodup_nil
 ·intro p;refine Yd 57 _ rfl _ rfl ?_;simp only[pv];refine Yd 57 _ rfl _ rfl ?_;simp only[pv];refine Ze (.bool false) (fun _=>rfl) ?_;simp only[pv];refine Zf ?_;intro w2 hkw hrw hnew hdis;have n3:=hnew 0 rfl;have n4:=hnew 1 rfl;have zr3:Row w2 (p 0) (Zd N) 57:=hrw 1 (57,Zd N) rfl;have zr4:Row w2 (p 1) (Zd F) 57:=hrw 3 (57,Zd F) rfl;have sb:=k_b hkw;clear hkw hrw hnew hdis n3 n4;generalize p 0=g3 at*;generalize p 1=g4 at*;have r3:=zr3;clear zr3;have r4:=zr4;clear zr4;iterate 4 go_step
  refine Zy ?_;refine q_m ?_;refine q_v _ (XC z 2) ?_;refine q_m ?_;refine q_m ?_;refine q_v _ (QD z 65535) ?_;simp only[pv];refine q_p false (.bool false) ?_;simp only[pv];refine ZN ?_;intro w3 hqb;replace r3:=r3.belowAll hqb;replace r4:=r4.belowAll hqb;replace sb:=b_o sb hqb;clear hqb
  go_wp2_with (first
   |refine Zj rfl 57 _ rfl _ rfl r3 4 _ underlying57 (by exact Zc) ?_
   |refine Zj rfl 57 _ rfl _ rfl r4 4 _ underlying57 (by exact Zc) ?_)
  refine(hcl _).mono ?_;rintro _ wb ⟨⟨g9,rfl,hg9,r9⟩,bb⟩;replace sb:=b_o sb bb;clear bb hg9 hcl r3 r4
  dsimp only
  (repeat((fail_if_success (with_reducible show Code.wp _ (Code.region _ _ _) _ _ _));first|(refine Zg rfl 181 rfl _ LJ ?_;simp only[Act.put,List.setIfInBounds_toArray,List.set_cons_zero,List.set_cons_succ])|(refine ZR rfl 181 _ _ rfl _ rfl rfl _ _ (by exact SI) (by rfl) (G8 _ _ _) ?_;simp only[Act.put])|go_step))
  have r7:Row (wb.alloc (.cells (clC (some ⟨g9,0,none⟩) F K) 181)) wb.heap.size (clC (some ⟨g9,0,none⟩) F K) 181:=Row.here rfl;replace r9:=r9.alloc (.cells (clC (some ⟨g9,0,none⟩) F K) 181);replace sb:=sb.alloc sb.size (.cells (clC (some ⟨g9,0,none⟩) F K) 181);generalize wb.alloc (.cells (clC (some ⟨g9,0,none⟩) F K) 181)=w4 at*;generalize wb.heap.size=g7 at*;refine Zy ?_;refine q_m ?_;refine q_m ?_;simp only[pv];refine Yv (by rfl) 181 _ rfl _ (0) rfl r7 (clC (some ⟨g9,0,none⟩) F K) (Yr _) _ underlying181 rfl SI ?_;refine q_m ?_;simp only[pv];refine q_k 152 func152 #[.agg (clC (some ⟨g9,0,none⟩) F K),.int .i64 z] (fun w' hb=>hsh g9 w' (r9.belowAll hb)) ?_;refine q_p true (.bool B) ?_;refine q_a ?_;simp only[pv];refine ZN ?_;intro w5 hqb;replace sb:=b_o sb hqb;clear hqb;go_wp2;go_ret;exact⟨rfl,sb⟩
 ·rfl
def wtF (sh:Nat->Bool):Nat->Nat->Nat
 |0,_=>0
 |g+1,k=>if sh (2+k)=true then 2+k else wtF sh g (k+1)
def witN (N F:Nat):Nat:=if ET N F=true then wtF (shN N F) 99 0 else 0
def errW (W:Nat):Int:=if W=0 then 3 else 0
def lkC (N:Nat)(z:Int):Array Value:=#[.int .u64 (lm N 0),.int .u64 (lm N 1),.int .u64 (lm N 2),.int .u64 (lm N 3),.int .i64 z]
theorem zW (N:Nat)(z:Int): ∀j v,(Zd N).toList[j]?=some v->(lkC N z)[0+j]?=some v:=Ul rfl rfl rfl rfl
theorem E0:(prog.info? 106).map (fun i=>(i.zero,i.size))=some (some (.agg (lkC 0 0)),5):=by kernel_rfl
theorem E2:(prog.info? 106).map (·.size)=some 5:=(zero_of_info E0).2
theorem Wj:prog.underlying 54=some (.slice (prog.elem 54)):=by kernel_rfl
structure LinksAt (w:World)(ab:Option Addr)(n:Nat)(N:Nat->Nat)(A:Nat->Int)(gb ob:Nat)(bcs:Array Value)(tb:TypeId):Prop where
 at':n=0∨(ab=some ⟨gb,ob,none⟩/\Wq w gb bcs tb/\ ∀i,i<n-> ∀j v,(lkC (N i) (A i)).toList[j]?=some v->bcs[ob+i*5+j]?=some v)
 lt: ∀i,i<n->N i<2^256
theorem LinksAt.below {w w2:World}{ab:Option Addr}{n:Nat}{N:Nat->Nat}{A:Nat->Int}{gb ob:Nat}{bcs:Array Value}{tb:TypeId}(h:LinksAt w ab n N A gb ob bcs tb)(hb:Below w.heap.size w w2):LinksAt w2 ab n N A gb ob bcs tb:=
 ⟨h.at'.imp id fun⟨h1,h2,h3⟩=>⟨h1,h2.belowAll hb,h3⟩,h.lt⟩
theorem V3 {bcs:Array Value}{off N:Nat}{z:Int}(h: ∀j v,(lkC N z).toList[j]?=some v->bcs[off+j]?=some v): ∀j v,(Zd N).toList[j]?=some v->bcs[off+j]?=some v:=fun j v hv=>by
 have:=zW N z j v hv;rw[Nat.zero_add,<-Array.getElem?_toList]at this;exact h j v this
theorem E3 {bcs:Array Value}{off N:Nat}{z:Int}(h: ∀j v,(lkC N z).toList[j]?=some v->bcs[off+j]?=some v):bcs[off+4]?=some (.int .i64 z):=h 4 _ rfl
theorem NJ (N:Nat)(z I:Int)(w:World) 
  (hin: ∀w',Calls prog 149 #[.agg (Zd N)] w' (Rt (.tuple #[.int .i64 I,.bool true]) w'))
  (hsm: ∀w',Calls prog 150 #[.int .i64 I] w' (Rt (.bool true) w')):
  Calls prog 109 #[.agg (lkC N z)] w fun e w'=>e= .returned (.bool (decide (z=0)))/\Below w.heap.size w w':=by
 go_enter func109,ntmps109
 iterate 2 go_step
 apply Za [] [_,_] trivial List.nodup_nil
 ·intro p;refine Yd 106 _ rfl _ rfl ?_;simp only[pv];refine Ze (.bool false) (fun _=>rfl) ?_;simp only[pv];refine Zf ?_;intro w2 hkw hrw hnew hdis;have n1:=hnew 0 rfl;have zr1:Row w2 (p 0) (lkC N z) 106:=hrw 1 (106,lkC N z) rfl;have sb:=k_b hkw;clear hkw hrw hnew hdis n1;generalize p 0=g1 at*;have r1:=zr1;clear zr1;iterate 3 go_step
  apply Za [] [_,_,_,_,_,_,_,_] trivial List.nodup_nil
  ·intro p;refine Ze _ (Zh 106 _ 0 rfl g1 0 rfl _ underlying106 _ rfl 3 sizeOf57) ?_;simp only[pv];refine Xo 57 _ rfl _ (0) rfl r1 (by simp<;>omega) (Zd N) (zW N z) _ underlying57 rfl Zc ?_;simp only[pv];refine m_c 149 func149 #[.agg (Zd N)] hin ?_;refine m_m ?_;refine m_e ?_;refine m_e ?_;refine m_a ?_;simp only[pv];refine m_a ?_;simp only[pv];refine Zf ?_;intro w3 hkw hrw hnew hdis;replace r1:=hkw.ro r1;replace sb:=kk sb hkw;clear hkw hrw hnew hdis;iterate 3 go_step
   refine Zy ?_;refine q_m ?_;refine q_m ?_;refine q_m ?_;simp only[pv];refine q_c 150 func150 #[.int .i64 I] hsm ?_;refine q_p true (.bool true) ?_;refine q_m ?_;simp only[pv];refine q_v _ (Zh 106 _ 1 rfl g1 0 rfl _ underlying106 _ rfl 0 sizeOf3) ?_;simp only[pv];refine ZK (by rfl) 3 _ rfl _ (4) rfl r1 (.int .i64 z) rfl isAgg3 ?_;simp only[pv];refine q_v _ (ZF .i64 _ _ _ _ rfl z 0 rfl rfl _ rfl) ?_;simp only[pv];refine Sj true (v:=.bool (decide (z=0))) (by rfl) rfl rfl rfl ?_;refine q_a ?_;simp only[pv];refine ZN ?_;intro w4 hqb;replace sb:=b_o sb hqb;clear hqb;go_wp2;go_ret;exact⟨rfl,sb⟩
  ·rfl
 ·rfl
def errC (b:Bool):Int:=if b=true then 0 else 4
theorem IH (N F K a g:Nat)(w:World)(hN:N<2^256)(ho:N%2=1)(h2:2<=N)(hF:F<2^256)(hF0:F≠0)(hK:K<2^256)(ha:a<9223372036854775808)(r0:Row w g (rgC N (miL N) (Wr N) (sqL N)) 160)(hy:(a^K%N)^F%N=1)(hg:Nat.gcd N (a^K%N-1)=1):
  Calls prog 152 #[.agg (clC (some ⟨g,0,none⟩) F K),.int .i64 a] w (Rt (.bool true) w):=by
 have lm': ∀z,z%N<2^256:=fun z=>Nat.lt_trans (Nat.mod_lt _ (by omega)) hN
 have o1:=fun w'=>Xe 1 w' (by decide)
 have oz:=fun w'=>Xe (a:Int) w' (by omega)
 rw[Int.toNat_natCast]at oz
 have hX:1<=a^K%N:=by
  rcases Nat.eq_zero_or_pos (a^K%N)with h0|h0
  ·rw[h0,Nat.zero_pow (by omega),Nat.zero_mod]at hy;cases hy
  ·exact h0
 refine LR N F K a (a^K%N) _ (a^K%N-1) 1 a g _ w r0 (bN (a^K%N) 1 256:Nat) _ hy rfl o1 oz (fun w' r=>Q7 a K N g w' (by omega) hK hN ho h2 r) (fun w' r=>Q7 (a^K%N) F N g w' (lm' _) hF hN ho h2 r)
  (fun w'=>TZ _ hX▸XH _ 1 w' (by decide)) (fun w' r=>Lh N _ _ _ g w' (by omega) hN r) (fun w'=>?_)
 have:=Ii N (a^K%N-1) w' hN (Nat.lt_of_le_of_lt (Nat.sub_le _ _) (lm' _));rw[hg]at this;exact this
theorem E4 (N F:Nat)(z:Int)(w:World)(hN:N<2^256)(hF:F<2^256)(h:stN N F z=true):
  Calls prog 110 #[.agg (Zd N),.agg (Zd F),.int .i64 z] w (Rt (.bool true) w):=by
 unfold stN shN at h;simp only[Bool.and_eq_true,decide_eq_true_iff]at h;obtain⟨h1,h2,hm,hy,hg⟩:=h;obtain⟨f1,f2,f3,f4,f5⟩:=T0 hm;obtain⟨a,rfl⟩:=Int.eq_ofNat_of_zero_le (show 0<=z by omega);rw[Int.toNat_natCast]at hy hg
 exact LS N F ((N-1)/F) a _ _ w (by omega) (by omega) (fun w'=>LQ N F w' hN hF hm)
  (fun g w' r=>IH N F ((N-1)/F) a g w' hN f1 (by omega) hF f3 (Nat.lt_of_le_of_lt (Nat.div_le_self _ _) (by omega)) (by omega) r hy hg)
theorem LT (N:Nat)(w:World)(hN:N<2^256)(h:smN N=true):
  Calls prog 109 #[.agg (lkC N 0)] w (Rt (.bool true) w):=by
 have h5:N<65536:=by
  unfold smN at h;simp only[Bool.and_eq_true,decide_eq_true_iff]at h;omega
 have hin:=fun w'=>JX N w' hN
 rw[(RX N (by omega)).1,(RX N (by omega)).2]at hin;have hsm:=fun w'=>LH (N:Int) w'
 rw[ER,h]at hsm;exact NJ N 0 N w hin hsm
theorem LU (n c:Nat)(ab:Option Addr)(N:Nat->Nat)(A:Nat->Int)(gb ob:Nat)(bcs:Array Value)(tb:TypeId)(w:World)(h1:1<=n)(h8:n<=8)(hL:LinksAt w ab n N A gb ob bcs tb)
  (hst0: ∀k,k+1<n->stN (N (k+1)) (N k) (A (k+1))=true)(hbe: ∀w',Calls prog 109 #[.agg (lkC (N 0) (A 0))] w' (Rt (.bool true) w')):
  Calls prog 52 #[.slice ab n c] w fun e w'=>e= .returned (.int .i64 0)/\Below w.heap.size w w':=by
 have HL:Hid (LinksAt w ab n N A gb ob bcs tb):=hL;clear hL
 go_enter func52,ntmps52
 iterate 2 go_step
 apply Za [] [_] trivial List.nodup_nil
 ·intro p;refine Ze (.int .i64 0) (fun _=>rfl) ?_;simp only[pv];refine Zf ?_;intro w2 hkw hrw hnew hdis;have sb:=k_b hkw;clear hkw hrw hnew hdis;obtain h0|⟨rfl,rB,hat⟩:=(HL.out.below sb).at'
  ·omega
  iterate 4 go_step
  refine Zy ?_;refine q_m ?_;simp only[pv];refine q_v _ (n_l (some ⟨gb,ob,none⟩) n c Wj) ?_;refine q_v _ (XC n 1) ?_;refine q_m ?_;refine q_m ?_;simp only[pv];refine q_v _ (n_l (some ⟨gb,ob,none⟩) n c Wj) ?_;refine q_v _ (QD n 8) ?_;refine q_p false (.bool false) ?_;refine q_m ?_;refine q_m ?_;simp only[pv];refine q_v _ (Zu 54 _ _ rfl gb ob n c rfl 0 rfl (by omega) _ underlying54 5 sizeOf106) ?_;simp only[pv];refine X5 (by rfl) 106 _ rfl _ ((ob+0*5)) rfl rB (lkC (N 0) (A 0)) (hat 0 (by omega)) _ underlying106 rfl E2 ?_;simp only[pv];refine q_c 109 func109 #[.agg (lkC (N 0) (A 0))] hbe ?_;simp only[pv];refine q_v _ (ZB _ _ rfl true rfl) ?_;refine q_p false (.bool false) ?_;simp only[pv];refine ZN ?_;intro w3 hqb;replace sb:=b_o sb hqb;clear hqb;clear rB hat hbe;iterate 8 go_step
  apply Za [] [_,_,_,_] trivial List.nodup_nil
  ·intro p;refine m_m ?_;simp only[pv];refine Ze _ (n_l (some ⟨gb,ob,none⟩) n c Wj) ?_;simp only[pv];refine Ze _ (ZV _ _ _ _ rfl n 1 rfl rfl (by omega) (by omega)) ?_;simp only[pv];refine Ze (.int .i64 0) (fun _=>rfl) ?_;simp only[pv];refine Zf ?_;intro w3b hkw hrw hnew hdis;replace sb:=kk sb hkw;clear hkw hrw hnew hdis
   go_wp2_with fail
   go_loopg [22] (n-1) (fun g s22 wr=> ∃k:Nat,k+g=n-1/\s22= .int .i64 k/\Below w.heap.size w wr)
   case atStart=>exact⟨0,by omega,rfl,sb⟩
   case round=>
    clear sb;obtain⟨k,hk,rfl,sb⟩:=hrel
    cases gk with
    |zero=>
     go_step
     apply Za [] [_] trivial List.nodup_nil
     ·intro p;refine Ze _ (XC k (n-1:Nat)) ?_;simp only[pv];refine Zf ?_;intro w4 hkw hrw hnew hdis;replace sb:=kk sb hkw;clear hkw hrw hnew hdis;go_wp2;go_ret;exact⟨rfl,sb⟩
     ·rfl
    |succ g=>
     have hst:=fun w'=>E4 (N (k+1)) (N k) (A (k+1)) w' (HL.out.lt _ (by omega)) (HL.out.lt _ (by omega)) (hst0 k (by omega))
     go_step
     apply Za [] [_] trivial List.nodup_nil
     ·intro p;refine Ze _ (XV k (n-1:Nat)) ?_;simp only[pv];refine Zf ?_;intro w4 hkw hrw hnew hdis;replace sb:=kk sb hkw;clear hkw hrw hnew hdis;iterate 10 go_step
      apply Za [] [_,_] trivial List.nodup_nil
      ·intro p;refine m_m ?_;refine m_a ?_;simp only[pv];refine Zf ?_;intro w5 hkw hrw hnew hdis;replace sb:=kk sb hkw;clear hkw hrw hnew hdis;obtain h0|⟨_,rB,hat⟩:=(HL.out.below sb).at'
       ·omega
       iterate 3 go_step
       refine ZC (by kernel_rfl) (by kernel_rfl) ?_;refine q_m ?_;refine q_m ?_;simp only[pv];refine q_v _ (x_a k 1) ?_;simp only[pv];refine q_v _ (Zu 54 _ _ rfl gb ob n c rfl (k+1) rfl (by omega) _ underlying54 5 sizeOf106) ?_;simp only[pv];refine q_v _ (Zh 106 _ 0 rfl gb (ob+(k+1)*5) rfl _ underlying106 _ rfl 3 sizeOf57) ?_;simp only[pv];refine X5 (by rfl) 57 _ rfl _ ((ob+(k+1)*5)) rfl rB (Zd (N (k+1))) (V3 (hat (k+1) (by omega))) _ underlying57 rfl Zc ?_;refine q_m ?_;refine q_m ?_;simp only[pv];refine q_v _ (Zu 54 _ _ rfl gb ob n c rfl (k) rfl (by omega) _ underlying54 5 sizeOf106) ?_;simp only[pv];refine q_v _ (Zh 106 _ 0 rfl gb (ob+(k)*5) rfl _ underlying106 _ rfl 3 sizeOf57) ?_;simp only[pv];refine X5 (by rfl) 57 _ rfl _ ((ob+(k)*5)) rfl rB (Zd (N k)) (V3 (hat k (by omega))) _ underlying57 rfl Zc ?_;refine q_m ?_;refine q_m ?_;simp only[pv];refine q_v _ (x_a k 1) ?_;simp only[pv];refine q_v _ (Zu 54 _ _ rfl gb ob n c rfl (k+1) rfl (by omega) _ underlying54 5 sizeOf106) ?_;simp only[pv];refine q_v _ (Zh 106 _ 1 rfl gb (ob+(k+1)*5) rfl _ underlying106 _ rfl 0 sizeOf3) ?_;simp only[pv];refine YF (by rfl) 3 _ rfl _ (ob+(k+1)*5+4) rfl rB (.int .i64 (A (k+1))) (E3 (hat (k+1) (by omega))) isAgg3 ?_;simp only[pv];refine q_c 110 func110 #[.agg (Zd (N (k+1))),.agg (Zd (N k)),.int .i64 (A (k+1))] hst ?_;simp only[pv];refine q_v _ (ZB _ _ rfl true rfl) ?_;simp only[pv];refine ZN ?_;intro w6 hqb;replace sb:=b_o sb hqb;clear hqb;iterate 6 go_step
       apply Za [] [_,_] trivial List.nodup_nil
       ·intro p;refine Ze _ (x_a k 1) ?_;refine m_m ?_;simp only[pv];refine Zf ?_;intro w7 hkw hrw hnew hdis;replace sb:=kk sb hkw;clear hkw hrw hnew hdis;go_wp2
        go_roundg g
        case measure=>omega
        case rel=>exact⟨k+1,by omega,rfl,sb⟩
       ·rfl
      ·rfl
     ·rfl
  ·rfl
 ·rfl
theorem II (n c:Nat)(ab:Option Addr)(N:Nat->Nat)(A:Nat->Int)(gb ob:Nat)(bcs:Array Value)(tb:TypeId)(w:World)(hL:LinksAt w ab n N A gb ob bcs tb)(h:chN n N A=true):
  Calls prog 52 #[.slice ab n c] w (Rt (.int .i64 0) w):=by
 unfold chN at h;simp only[Bool.and_eq_true,decide_eq_true_iff]at h;obtain⟨h1,h8,hs,h0,hl⟩:=h;rw[Q4]at hl;have hbe:=fun w'=>LT (N 0) w' (hL.lt 0 (by omega)) hs
 rw[<-h0]at hbe;exact LU n c ab N A gb ob bcs tb w h1 h8 hL (fun k hk=>hl k (by omega)) hbe
theorem Ot:(prog.info? 106).map (fun i=>(i.zero,i.size))=some (some (.agg #[.int .u64 0,.int .u64 0,.int .u64 0,.int .u64 0,.int .i64 0]),5):=by kernel_rfl
theorem SJ: ∃i,prog.info? 106=some i/\i.zero=some (.agg #[.int .u64 0,.int .u64 0,.int .u64 0,.int .u64 0,.int .i64 0])/\i.size=5:=by
 cases hi:prog.info? 106 with
 |none=>have:=Ot;rw[hi]at this;cases this
 |some i=>
  have h:=Ot;rw[hi]at h;simp only[Option.map_some,Option.some.injEq,Prod.mk.injEq]at h;exact⟨i,rfl,h.1,h.2⟩
theorem LV (N:Nat)(z:Int):prog.built 106 [(0,.agg (Zd N)),(1,.int .i64 z)]=some (lkC N z):=by
 unfold Zd lkC;generalize lm N 0=a0;generalize lm N 1=a1;generalize lm N 2=a2;generalize lm N 3=a3
 kernel_rfl
theorem Yx {o:Oper}{ρ:Operand->Value}{x0 x1:Operand}(N:Nat)(z:Int)(ho:o.op= .build 106 #[(0,x0),(1,x1)])(h0:ρ x0= .agg (Zd N))(h1:ρ x1= .int .i64 z)(w:World):
  (execOp ρ o).run prog w= .ok (.value (.agg (lkC N z))) w:=by
 unfold execOp;simp only[ho,List.map_toArray,List.map_cons,List.map_nil,h0,h1,Sem.run_bind];rw[run_build w 106 _ (lkC N z) (LV N z)];rfl
theorem IJ (N:Nat)(z:Int):(lkC N z).size=5:=rfl
def yo (A B:Int)(i:Nat):Int:=if i=0 then A else B
end Go.Proofs.YtnagnkhbamhfmaaGreatDoor
