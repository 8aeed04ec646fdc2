import Derived.Test.YtcdahmommonnfaaGreatDoorJ3
import Derived.WalkMore
set_option maxRecDepth 100000
set_option maxHeartbeats 8000000
namespace Go.Proofs.YtcdahmommonnfaaGreatDoor
set_option linter.all false
open Go.Proofs.Tryz
open Go.RowKit
theorem Z6 {P:Program}{o:Oper}{ρ:Operand->Value}(t:TypeId)(x y:Operand)(u:TypeId)(ho:o.op= .binOp .mul t x y u)(n m r:Nat)(hx:ρ x= .int .i64 n)(hy:ρ y= .int .i64 m)(hr:n*m=r)(h:r<9223372036854775808)(w:World):
  (execOp ρ o).run P w= .ok (.value (.int .i64 (r:Int))) w:=by
 subst hr;unfold execOp;simp only[ho,hx,hy];simp[go_sem];rw[<-Int.natCast_mul,IntKind.wrap_i64];omega
theorem Yb {P:Program}{o:Oper}{ρ:Operand->Value}(t:TypeId)(x y:Operand)(u:TypeId)(ho:o.op= .binOp .leq t x y u)(n m:Int)(hx:ρ x= .int .i64 n)(hy:ρ y= .int .i64 m)(b:Bool)(hb:decide (n<=m)=b)(w:World):
  (execOp ρ o).run P w= .ok (.value (.bool b)) w:=by
 subst hb;unfold execOp;simp only[ho,hx,hy];simp[go_sem]
theorem YV {P:Program}{o:Oper}{ρ:Operand->Value}(t:TypeId)(x y:Operand)(u:TypeId)(ho:o.op= .binOp .lss t x y u)(n m:Int)(hx:ρ x= .int .i64 n)(hy:ρ y= .int .i64 m)(b:Bool)(hb:decide (n<m)=b)(w:World):
  (execOp ρ o).run P w= .ok (.value (.bool b)) w:=by
 subst hb;unfold execOp;simp only[ho,hx,hy];simp[go_sem]
theorem Xy {P:Program}{o:Oper}{ρ:Operand->Value}{t:TypeId}{x y:Operand}{u:TypeId}(n m:Int)(h: ¬n<m:=by omega)(ho:o.op= .binOp .lss t x y u:=by exact rfl)(hx:ρ x= .int .i64 n:=by exact rfl)(hy:ρ y= .int .i64 m:=by exact rfl): ∀w,(execOp ρ o).run P w= .ok (.value (.bool false)) w:=YV t x y u ho n m hx hy false (decide_eq_false h)
theorem XK {P:Program}{o:Oper}{ρ:Operand->Value}{t:TypeId}{x y:Operand}{u:TypeId}(n m:Int)(h:n<m:=by omega)(ho:o.op= .binOp .lss t x y u:=by exact rfl)(hx:ρ x= .int .i64 n:=by exact rfl)(hy:ρ y= .int .i64 m:=by exact rfl): ∀w,(execOp ρ o).run P w= .ok (.value (.bool true)) w:=YV t x y u ho n m hx hy true (decide_eq_true h)
theorem Bl (d:Nat)(h:d<=65537):d*d<9223372036854775808:=by
 have:=Nat.mul_le_mul h h;omega
theorem OE (z:Int)(w:World)(h:z<2):
  Calls prog 123 #[.int .i64 z] w fun e w'=>e= .returned (.bool false)/\Below w.heap.size w w':=by
 go_enter func123,ntmps123
 iterate 2 go_step
 apply Zd [] [_] trivial List.nodup_nil
 ·intro p;refine Zg (.bool false) (fun _=>rfl) ?_;simp only[pv];refine Zi ?_;intro w2 hkw hrw hnew hdis;have sb:=k_b hkw;clear hkw hrw hnew hdis;iterate 2 go_step
  go_step3
  iterate 2 go_step
  refine ZQ ?_;refine q_m ?_;simp only[pv];refine q_v _ (YV _ _ _ _ rfl z 2 rfl rfl true (decide_eq_true h)) ?_;refine q_m ?_;simp only[pv];refine ZI (by rfl) ?_;simp only[pv];refine ZI (by rfl) ?_;refine q_p true (.bool true) ?_;simp only[pv];refine Z2 ?_;intro w3 hqb;replace sb:=b_o sb hqb;clear hqb;go_wp2;rw[Exit.noGoto_ret];go_ret;exact⟨rfl,sb⟩
 ·rfl
theorem Qg (z:Int)(w:World)(h:65536<=z):
  Calls prog 123 #[.int .i64 z] w fun e w'=>e= .returned (.bool false)/\Below w.heap.size w w':=by
 go_enter func123,ntmps123
 iterate 2 go_step
 apply Zd [] [_] trivial List.nodup_nil
 ·intro p;refine Zg (.bool false) (fun _=>rfl) ?_;simp only[pv];refine Zi ?_;intro w2 hkw hrw hnew hdis;have sb:=k_b hkw;clear hkw hrw hnew hdis;iterate 2 go_step
  go_step3
  iterate 2 go_step
  refine ZQ ?_;refine q_m ?_;refine q_v _ (Xy z 2) ?_;refine q_m ?_;refine q_m ?_;simp only[pv];refine q_v _ (ZG _ _ _ _ rfl z 65536 rfl rfl true (decide_eq_true h)) ?_;refine q_p false (.bool true) ?_;simp only[pv];refine Z2 ?_;intro w3 hqb;replace sb:=b_o sb hqb;clear hqb;go_wp2;rw[Exit.noGoto_ret];go_ret;exact⟨rfl,sb⟩
 ·rfl
theorem Mk (n:Nat)(B:Bool)(w:World)(h2:2<=n)(h:n<65536)(hB:Ur n n 2=B):
  Calls prog 123 #[.int .i64 n] w fun e w'=>e= .returned (.bool B)/\Below w.heap.size w w':=by
 have HB:Hid (Ur n n (0+2)=B):=hB;clear hB
 go_enter func123,ntmps123
 iterate 2 go_step
 apply Zd [] [_] trivial List.nodup_nil
 ·intro p;refine Zg (.bool false) (fun _=>rfl) ?_;simp only[pv];refine Zi ?_;intro w2 hkw hrw hnew hdis;have sb:=k_b hkw;clear hkw hrw hnew hdis;iterate 2 go_step
  go_step3
  iterate 2 go_step
  refine ZQ ?_;refine q_m ?_;refine q_v _ (Xy n 2) ?_;refine q_m ?_;refine q_m ?_;simp only[pv];refine q_v _ (ZG _ _ _ _ rfl n 65536 rfl rfl false (decide_eq_false (by omega))) ?_;refine q_p false (.bool false) ?_;simp only[pv];refine Z2 ?_;intro w3 hqb;replace sb:=b_o sb hqb;clear hqb
  go_wp2_with fail
  go_step3
  go_wp2_with fail
  go_loopg [3,13] n (fun g s3 s13 wr=> ∃k:Nat,k+g=n/\s3= .bool true/\s13= .int .i64 k/\Ur n g (k+2)=B/\Below w.heap.size w wr)
  case atStart=>exact⟨0,by omega,rfl,rfl,HB.out,sb⟩
  case round=>
   clear sb HB;obtain⟨k,hk,rfl,rfl,hs,sb⟩:=hrel
   cases gk with
   |zero=>
    obtain rfl:k=n:=by omega
    obtain rfl:true=B:=hs
    go_step
    apply Zd [] [_] trivial List.nodup_nil
    ·intro p;refine Zg _ (Xy k k) ?_;simp only[pv];refine Zi ?_;intro w4 hkw hrw hnew hdis;replace sb:=kk sb hkw;clear hkw hrw hnew hdis;go_wp2
     (try rw[Exit.noGoto_ret])
     go_ret;exact⟨rfl,sb⟩
    ·rfl
   |succ g=>
    have hsq:=Bl (2+k) (by omega);unfold Ur at hs;rw[Nat.add_comm k 2]at hs
    go_step
    apply Zd [] [_] trivial List.nodup_nil
    ·intro p;refine Zg _ (XK k n) ?_;simp only[pv];refine Zi ?_;intro w4 hkw hrw hnew hdis;replace sb:=kk sb hkw;clear hkw hrw hnew hdis;iterate 10 go_step
     apply Zd [] [_,_] trivial List.nodup_nil
     ·intro p;refine m_m ?_;refine m_a ?_;simp only[pv];refine Zi ?_;intro w5 hkw hrw hnew hdis;replace sb:=kk sb hkw;clear hkw hrw hnew hdis;iterate 3 go_step
      apply Zd [] [_,_,_] trivial List.nodup_nil
      ·intro p;refine m_m ?_;simp only[pv];refine Zg _ (x_a 2 k) ?_;refine m_a ?_;simp only[pv];refine Zi ?_;intro w6 hkw hrw hnew hdis;replace sb:=kk sb hkw;clear hkw hrw hnew hdis;by_cases hbig:n<(2+k)*(2+k)
       ·rw[if_pos hbig]at hs;subst hs;generalize hd:(2+k)*(2+k)=D at*;iterate 4 go_step
        apply Zd [] [_,_,_,_,_,_] trivial List.nodup_nil
        ·intro p;refine m_m ?_;refine m_m ?_;simp only[pv];refine Zg _ (Z6 _ _ _ _ rfl (2+k) (2+k) D rfl rfl hd hsq) ?_;refine m_m ?_;simp only[pv];refine Zg _ (Jp D n) ?_;refine m_a ?_;simp only[pv];refine Zi ?_;intro w7 hkw hrw hnew hdis;replace sb:=kk sb hkw;clear hkw hrw hnew hdis;go_wp2
         (try rw[Exit.noGoto_ret])
         go_ret;exact⟨rfl,sb⟩
        ·rfl
       rw[if_neg hbig]at hs;have hd0:0<2+k:=by omega
       by_cases hz:n%(2+k)=0
       ·rw[if_pos hz]at hs;subst hs;generalize hd:(2+k)*(2+k)=D at*;iterate 4 go_step
        apply Zd [] [_,_,_,_,_,_] trivial List.nodup_nil
        ·intro p;refine m_m ?_;refine m_m ?_;simp only[pv];refine Zg _ (Z6 _ _ _ _ rfl (2+k) (2+k) D rfl rfl hd hsq) ?_;refine m_m ?_;simp only[pv];refine Zg _ (Qe D n) ?_;refine m_a ?_;simp only[pv];refine Zi ?_;intro w7 hkw hrw hnew hdis;replace sb:=kk sb hkw;clear hkw hrw hnew hdis;iterate 4 go_step
         apply Zd [] [_,_,_,_,_] trivial List.nodup_nil
         ·intro p;refine m_m ?_;refine m_m ?_;simp only[pv];refine Zg _ (VI _ _ _ _ rfl n (2+k) rfl rfl hd0) ?_;simp only[pv];refine Zg _ (Zq .i64 _ _ _ _ rfl (n%(2+k):Nat) 0 rfl rfl true (decide_eq_true (by omega))) ?_;refine m_a ?_;simp only[pv];refine Zi ?_;intro w8 hkw hrw hnew hdis;replace sb:=kk sb hkw;clear hkw hrw hnew hdis;go_wp2
          (try rw[Exit.noGoto_ret])
          go_ret;exact⟨rfl,sb⟩
         ·rfl
        ·rfl
       ·rw[if_neg hz]at hs;generalize hd:(2+k)*(2+k)=D at*;iterate 4 go_step
        apply Zd [] [_,_,_,_,_,_] trivial List.nodup_nil
        ·intro p;refine m_m ?_;refine m_m ?_;simp only[pv];refine Zg _ (Z6 _ _ _ _ rfl (2+k) (2+k) D rfl rfl hd hsq) ?_;refine m_m ?_;simp only[pv];refine Zg _ (Qe D n) ?_;refine m_a ?_;simp only[pv];refine Zi ?_;intro w7 hkw hrw hnew hdis;replace sb:=kk sb hkw;clear hkw hrw hnew hdis;iterate 4 go_step
         apply Zd [] [_,_,_,_,_] trivial List.nodup_nil
         ·intro p;refine m_m ?_;refine m_m ?_;simp only[pv];refine Zg _ (VI _ _ _ _ rfl n (2+k) rfl rfl hd0) ?_;simp only[pv];refine Zg _ (Zq .i64 _ _ _ _ rfl (n%(2+k):Nat) 0 rfl rfl false (decide_eq_false (by omega))) ?_;refine m_a ?_;simp only[pv];refine Zi ?_;intro w8 hkw hrw hnew hdis;replace sb:=kk sb hkw;clear hkw hrw hnew hdis;iterate 6 go_step
          apply Zd [] [_,_] trivial List.nodup_nil
          ·intro p;refine Zg _ (x_a k 1) ?_;refine m_m ?_;simp only[pv];refine Zi ?_;intro w9 hkw hrw hnew hdis;replace sb:=kk sb hkw;clear hkw hrw hnew hdis;go_wp2
           go_roundg g
           case measure=>omega
           case rel=>exact⟨k+1,by omega,rfl,rfl,by rw[<-hs,show k+1+2=2+k+1 by omega],sb⟩
          ·rfl
         ·rfl
        ·rfl
      ·rfl
     ·rfl
    ·rfl
 ·rfl
theorem Ml (z:Int)(w:World):
  Calls prog 123 #[.int .i64 z] w (Rt (.bool (smI z)) w):=by
 unfold smI;by_cases h1:z<2
 ·rw[decide_eq_false (show ¬2<=z by omega)];exact OE z w h1
 by_cases h2:65536<=z
 ·rw[decide_eq_false (show ¬z<65536 by omega),Bool.false_and,Bool.and_false];exact Qg z w h2
 obtain⟨n,rfl⟩:=Int.eq_ofNat_of_zero_le (show 0<=z by omega);rw[decide_eq_true (show(2:Int)<=n by omega),decide_eq_true (show(n:Int)<65536 by omega),Int.toNat_natCast,Bool.true_and,Bool.true_and];exact Mk n _ w (by omega) (by omega) rfl
def plI (z:Int):Bool:=decide (2<=z)&&(decide (z<=4294967296)&&Ur z.toNat 65534 2)
def clC (q:Option Addr)(F K:Nat):Array Value:=#[.pointer q,.int .u64 (lm F 0),.int .u64 (lm F 1),.int .u64 (lm F 2),.int .u64 (lm F 3),.int .u64 (lm K 0),.int .u64 (lm K 1),.int .u64 (lm K 2),.int .u64 (lm K 3)]
theorem AD (q:Option Addr)(F K:Nat): ∀j v,(Zc F).toList[j]?=some v->(clC q F K)[1+j]?=some v:=Uj rfl rfl rfl rfl
theorem AE (q:Option Addr)(F K:Nat): ∀j v,(Zc K).toList[j]?=some v->(clC q F K)[5+j]?=some v:=Uj rfl rfl rfl rfl
theorem Hg (q:Option Addr)(F K:Nat):(clC q F K).all (·.oneCell')=true:=by simp[clC,Value.oneCell']
theorem Mm:(prog.info? 190).map (fun i=>(i.zero,i.size))=some (some (.agg (clC none 0 0)),9):=by kernel_rfl
theorem Mn (w:World):(zeroValue 190).run prog w= .ok (.agg (clC none 0 0)) w:=(zero_of_info Mm).1 w
theorem TR:(prog.info? 190).map (·.size)=some 9:=(zero_of_info Mm).2
theorem Zu (c:Array Value): ∀j v,c.toList[j]?=some v->c[0+j]?=some v:=fun j v h=>by rw[Nat.zero_add,<-Array.getElem?_toList];exact h
theorem Mo (q:Option Addr)(F K:Nat):prog.built 190 [(0,.pointer q),(1,.agg (Zc F)),(2,.agg (Zc K))]=some (clC q F K):=by
 unfold Zc clC;generalize lm F 0=a0;generalize lm F 1=a1;generalize lm F 2=a2;generalize lm F 3=a3;generalize lm K 0=b0;generalize lm K 1=b1;generalize lm K 2=b2;generalize lm K 3=b3
 kernel_rfl
theorem OF {o:Oper}{ρ:Operand->Value}{x0 x1 x2:Operand}(q:Option Addr)(F K:Nat)(ho:o.op= .build 190 #[(0,x0),(1,x1),(2,x2)])(h0:ρ x0= .pointer q)(h1:ρ x1= .agg (Zc F))(h2:ρ x2= .agg (Zc K))(w:World):
  (execOp ρ o).run prog w= .ok (.value (.agg (clC q F K))) w:=by
 unfold execOp;simp only[ho,List.map_toArray,List.map_cons,List.map_nil,h0,h1,h2,Sem.run_bind];rw[run_build w 190 _ (clC q F K) (Mo q F K)];rfl
theorem Mp {P:Program}{fn:Func}{R:Ending->World->Prop}{a:Act}{w:World}{p u:Tmp}{ty:TypeId}(hf:fn.results=#[.cell p ty,.tmp u])(g:Nat)(hp:a.tmps.getD p undef= .pointer (some ⟨g,0,none⟩))
  {t:TypeId}{cs:Array Value}(hr:Row w g cs t)(fs:Array Field)(hu:P.underlying ty=some (.struct fs))(hi:(P.info? ty).map (·.size)=some cs.size)(hd:a.defers=[])
  (v:Value)(hv:a.tmps.getD u undef=v)(h:R (.returned (.tuple #[.agg cs,v])) w):bodyPost P fn R .ret a w:=by
 refine bodyPost_ret (v:=.tuple #[.agg cs,v]) ?_ hd h;rw[results_cell_tmp hf,hp,hv];simp only[asAddr,Sem.run_pure,Result.andThen_ok];rw[run_loadVar_row w g t ty cs (0,0) _ hr hu rfl hi];rfl
theorem Tb (X:Nat)(h:1<=X):Zc (WU X 1)=Zc (X-1):=by
 rw[VF];unfold WU;rw[show X+(2^256-1)=X-1+2^256 by omega,Nat.add_mod_right]
theorem Mq (A B:Nat):decide ((0:Int)<WB A B)=decide (B<A):=by
 unfold WB
 split
 ·rw[decide_eq_false (by omega),decide_eq_false (by omega)]
 ·split
  ·rw[decide_eq_true (by omega),decide_eq_true (by assumption)]
  ·rw[decide_eq_false (by omega),decide_eq_false (by omega)]
theorem Po (X:Nat):(!decide (X%2^256=X%2^256))=false:=by rw[decide_eq_true rfl];rfl
theorem Fe (X Y:Nat)(hX:X<2^256)(hY:Y<2^256)(h:X≠Y):(!decide (X%2^256=Y%2^256))=true:=by
 rw[Nat.mod_eq_of_lt hX,Nat.mod_eq_of_lt hY,decide_eq_false h];rfl
theorem Mr (F N L H:Nat)(w:World)(hb:(!decide (H%2^256=0%2^256))=true)
  (hmu: ∀w',Calls prog 130 #[.agg (Zc F),.agg (Zc F)] w' (Rt (.tuple #[.agg (Zc L),.agg (Zc H)]) w')):
  Calls prog 171 #[.agg (Zc F),.agg (Zc N)] w fun e w'=>e= .returned (.bool true)/\Below w.heap.size w w':=by
 go_enter func171,ntmps171
 iterate 2 go_step
 apply Zd [] [_,_,_] trivial List.nodup_nil
 ·intro p;refine YD 39 _ rfl _ rfl ?_;simp only[pv];refine YD 39 _ rfl _ rfl ?_;simp only[pv];refine Zg (.bool false) (fun _=>rfl) ?_;simp only[pv];refine Zi ?_;intro w2 hkw hrw hnew hdis;have n2:=hnew 0 rfl;have n3:=hnew 1 rfl;have zr2:Row w2 (p 0) (Zc F) 39:=hrw 1 (39,Zc F) rfl;have zr3:Row w2 (p 1) (Zc N) 39:=hrw 3 (39,Zc N) rfl;have sb:=k_b hkw;clear hkw hrw hnew hdis n2 n3;generalize p 0=g2 at*;generalize p 1=g3 at*;have r2:=zr2;clear zr2;have r3:=zr3;clear zr3;iterate 3 go_step
  apply Zd [] [_,_,_,_,_,_,_,_,_,_] trivial List.nodup_nil
  ·intro p;refine m_l r2 ?_;simp only[pv];refine m_l r2 ?_;simp only[pv];refine m_c 130 func130 #[.agg (Zc F),.agg (Zc F)] hmu ?_;refine m_m ?_;refine m_e ?_;refine m_e ?_;simp only[pv];refine m_n ?_;simp only[pv];refine m_n ?_;simp only[pv];refine m_p 13 L ?_;simp only[Act.put];refine m_p 15 H ?_;simp only[Act.put];refine Zi ?_;intro w3 hkw hrw hnew hdis;have zr5:Row w3 (p 6) (Zc L) 39:=hrw 13 (39,Zc L) rfl;have zr6:Row w3 (p 7) (Zc H) 39:=hrw 15 (39,Zc H) rfl;replace r3:=hkw.ro r3;replace sb:=kk sb hkw;clear hkw hrw hnew hdis;generalize p 6=g5 at*;generalize p 7=g6 at*;clear zr5;have r6:=zr6;clear zr6;iterate 3 go_step
   refine ZQ ?_;refine Xc (by rfl) 39 _ rfl _ rfl r6 4 _ underlying39 Ze ?_;simp only[pv];refine q_v _ (ZS 39 rfl _ ZO) ?_;simp only[pv];refine q_v (.bool true) (fun w'=>(Yf _ _ _ rfl H 0 rfl rfl w').trans (by rw[hb])) ?_;refine q_m ?_;simp only[pv];refine ZI (by rfl) ?_;simp only[pv];refine ZI (by rfl) ?_;simp only[pv];refine ZI (by rfl) ?_;simp only[pv];refine ZI (by rfl) ?_;refine q_p true (.bool true) ?_;refine q_a ?_;simp only[pv];refine Z2 ?_;intro w4 hqb;replace sb:=b_o sb hqb;clear hqb;go_wp2;go_ret;exact⟨rfl,sb⟩
  ·rfl
 ·rfl
theorem Jt (F N L H:Nat)(z:Int)(w:World)(hb:(!decide (H%2^256=0%2^256))=false)
  (hmu: ∀w',Calls prog 130 #[.agg (Zc F),.agg (Zc F)] w' (Rt (.tuple #[.agg (Zc L),.agg (Zc H)]) w'))
  (hcm: ∀w',Calls prog 83 #[.agg (Zc L),.agg (Zc N)] w' (Rt (.int .i64 z) w')):
  Calls prog 171 #[.agg (Zc F),.agg (Zc N)] w fun e w'=>e= .returned (.bool (decide (0<z)))/\Below w.heap.size w w':=by
 go_enter func171,ntmps171
 iterate 2 go_step
 apply Zd [] [_,_,_] trivial List.nodup_nil
 ·intro p;refine YD 39 _ rfl _ rfl ?_;simp only[pv];refine YD 39 _ rfl _ rfl ?_;simp only[pv];refine Zg (.bool false) (fun _=>rfl) ?_;simp only[pv];refine Zi ?_;intro w2 hkw hrw hnew hdis;have n2:=hnew 0 rfl;have n3:=hnew 1 rfl;have zr2:Row w2 (p 0) (Zc F) 39:=hrw 1 (39,Zc F) rfl;have zr3:Row w2 (p 1) (Zc N) 39:=hrw 3 (39,Zc N) rfl;have sb:=k_b hkw;clear hkw hrw hnew hdis n2 n3;generalize p 0=g2 at*;generalize p 1=g3 at*;have r2:=zr2;clear zr2;have r3:=zr3;clear zr3;iterate 3 go_step
  apply Zd [] [_,_,_,_,_,_,_,_,_,_] trivial List.nodup_nil
  ·intro p;refine m_l r2 ?_;simp only[pv];refine m_l r2 ?_;simp only[pv];refine m_c 130 func130 #[.agg (Zc F),.agg (Zc F)] hmu ?_;refine m_m ?_;refine m_e ?_;refine m_e ?_;simp only[pv];refine m_n ?_;simp only[pv];refine m_n ?_;simp only[pv];refine m_p 13 L ?_;simp only[Act.put];refine m_p 15 H ?_;simp only[Act.put];refine Zi ?_;intro w3 hkw hrw hnew hdis;have zr5:Row w3 (p 6) (Zc L) 39:=hrw 13 (39,Zc L) rfl;have zr6:Row w3 (p 7) (Zc H) 39:=hrw 15 (39,Zc H) rfl;replace r3:=hkw.ro r3;replace sb:=kk sb hkw;clear hkw hrw hnew hdis;generalize p 6=g5 at*;generalize p 7=g6 at*;have r5:=zr5;clear zr5;have r6:=zr6;clear zr6;iterate 3 go_step
   refine ZQ ?_;refine Xc (by rfl) 39 _ rfl _ rfl r6 4 _ underlying39 Ze ?_;simp only[pv];refine q_v _ (ZS 39 rfl _ ZO) ?_;simp only[pv];refine q_v (.bool false) (fun w'=>(Yf _ _ _ rfl H 0 rfl rfl w').trans (by rw[hb])) ?_;refine q_m ?_;simp only[pv];refine Xc (by rfl) 39 _ rfl _ rfl r5 4 _ underlying39 Ze ?_;simp only[pv];refine Xc (by rfl) 39 _ rfl _ rfl r3 4 _ underlying39 Ze ?_;simp only[pv];refine q_c 83 func83 #[.agg (Zc L),.agg (Zc N)] hcm ?_;simp only[pv];refine q_v _ (Z4 _ _ _ _ rfl z 0 rfl rfl _ rfl) ?_;simp only[pv];refine Tv false (v:=.bool (decide (0<z))) (by rfl) rfl rfl rfl ?_;refine q_a ?_;simp only[pv];refine Z2 ?_;intro w4 hqb;replace sb:=b_o sb hqb;clear hqb;go_wp2;go_ret;exact⟨rfl,sb⟩
  ·rfl
 ·rfl
theorem Ju (F N:Nat)(w:World)(hF:F<2^256)(hN:N<2^256):
  Calls prog 171 #[.agg (Zc F),.agg (Zc N)] w (Rt (.bool (decide (N<F*F))) w):=by
 have hFF:F*F/2^256<2^256:=by
  rw[Nat.div_lt_iff_lt_mul (Nat.two_pow_pos _)];exact Nat.mul_lt_mul'' hF hF
 by_cases h:F*F<2^256
 ·have h0:F*F/2^256=0:=Nat.div_eq_of_lt h;have:=Jt F N (F*F) 0 (WB (F*F) N) w (Po 0) (fun w'=>h0▸TD F F w' hF hF) (fun w'=>XF (F*F) N w' h hN);rw[Mq]at this;exact this
 ·rw[decide_eq_true (show N<F*F by omega)];refine Mr F N (F*F) (F*F/2^256) w (Fe _ 0 hFF (Nat.two_pow_pos _) ?_) (fun w'=>TD F F w' hF hF);intro h0;have:=(Nat.div_eq_zero_iff_lt (Nat.two_pow_pos 256)).1 h0;exact h this
theorem Ms (N F L K R:Nat)(er lz:Int)(RG:Array Value)(w:World)(he:er=0)(hr:(!decide (R%2^256=0%2^256))=false)
  (hnew: ∀w',Calls prog 40 #[.agg (Zc N)] w' fun e w2=> ∃g,e= .returned (.tuple #[.pointer (some ⟨g,0,none⟩),.int .i64 0])/\w'.heap.size<=g/\Row w2 g RG 157/\Below w'.heap.size w' w2)
  (hof: ∀w',Calls prog 42 #[.int .i64 1] w' (Rt (.agg (Zc 1)) w'))
  (hsu: ∀w',Calls prog 127 #[.agg (Zc N),.agg (Zc 1)] w' (Rt (.tuple #[.agg (Zc L),.int .i64 lz]) w'))
  (hdi: ∀w',Calls prog 170 #[.agg (Zc L),.agg (Zc F)] w' (Rt (.tuple #[.agg (Zc K),.agg (Zc R),.int .i64 er]) w'))
  (hsq: ∀w',Calls prog 171 #[.agg (Zc F),.agg (Zc N)] w' (Rt (.bool true) w')):
  Calls prog 124 #[.agg (Zc N),.agg (Zc F)] w fun e w'=>(∃g,e= .returned (.tuple #[.agg (clC (some ⟨g,0,none⟩) F K),.bool true])/\w.heap.size<=g/\Row w' g RG 157)/\Below w.heap.size w w':=by
 go_enter func124,ntmps124
 iterate 2 go_step
 apply Zd [] [_,_,_,_] trivial List.nodup_nil
 ·intro p;refine YD 39 _ rfl _ rfl ?_;simp only[pv];refine YD 39 _ rfl _ rfl ?_;simp only[pv];refine U3 190 rfl _ Mn ?_;simp only[pv];refine Zg (.bool false) (fun _=>rfl) ?_;simp only[pv];refine Zi ?_;intro w2 hkw hrw hnew hdis;have n2:=hnew 0 rfl;have n3:=hnew 1 rfl;have n4:=hnew 2 rfl;have zr2:Row w2 (p 0) (Zc N) 39:=hrw 1 (39,Zc N) rfl;have zr3:Row w2 (p 1) (Zc F) 39:=hrw 3 (39,Zc F) rfl;have zr4:Row w2 (p 2) (clC none 0 0) 190:=hrw 5 (190,clC none 0 0) rfl;have d3x4:=hdis 1 2 (by omega) rfl rfl;have sb:=k_b hkw;have b4:w.heap.size<=p 2:=n4;clear hkw hrw hnew hdis n2 n3 n4;generalize p 0=g2 at*;generalize p 1=g3 at*;generalize p 2=g4 at*;have r2:=zr2;clear zr2;have r3:=zr3;clear zr3;have r4:=zr4;clear zr4
  go_wp2_with (first
   |refine Zh rfl 39 _ rfl _ rfl r2 4 _ underlying39 (by exact Ze) ?_)
  refine(hnew _).mono ?_;rintro _ wb ⟨g6,rfl,hg6,r6,bb⟩;replace r2:=r2.belowAll bb;replace r3:=r3.belowAll bb;have d4x6:=l_l r4.lt hg6;replace r4:=r4.belowAll bb;have b6:w.heap.size<=g6:=Nat.le_trans sb.size hg6;replace sb:=b_o sb bb;clear bb hg6 hnew
  dsimp only
  iterate 21 go_step
  apply Zd [] [_,_] trivial List.nodup_nil
  ·intro p;refine m_m ?_;simp only[pv];refine Zg _ (ZC .i64 _ _ _ _ rfl 0 0 rfl rfl false rfl) ?_;simp only[pv];refine Zi ?_;intro w4 hkw hrw hnew hdis;replace r2:=hkw.ro r2;replace r3:=hkw.ro r3;replace r4:=hkw.ro r4;replace r6:=hkw.ro r6;replace sb:=kk sb hkw;clear hkw hrw hnew hdis;iterate 7 go_step
   apply Zo (by kernel_rfl) [] [_,_,_,_,_,_,_,_,_] trivial List.nodup_nil
   ·intro p;refine m_l r2 ?_;simp only[pv];refine m_c 42 func42 #[.int .i64 1] hof ?_;simp only[pv];refine m_c 127 func127 #[.agg (Zc N),.agg (Zc 1)] hsu ?_;refine m_m ?_;refine m_e ?_;refine m_e ?_;simp only[pv];refine m_n ?_;simp only[pv];refine m_p 13 L ?_;simp only[Act.put];refine m_a ?_;simp only[pv];refine Zi ?_;intro w5 hkw hrw hnew hdis;have zr8:Row w5 (p 6) (Zc L) 39:=hrw 13 (39,Zc L) rfl;replace r2:=hkw.ro r2;replace r3:=hkw.ro r3;replace r4:=hkw.ro r4;replace r6:=hkw.ro r6;replace sb:=kk sb hkw;clear hkw hrw hnew hdis;generalize p 6=g8 at*;have r8:=zr8;clear zr8;iterate 3 go_step
    apply Zd [] [_,_,_,_,_,_,_,_,_,_,_,_] trivial List.nodup_nil
    ·intro p;refine m_l r8 ?_;simp only[pv];refine m_l r3 ?_;simp only[pv];refine m_c 170 func170 #[.agg (Zc L),.agg (Zc F)] hdi ?_;refine m_m ?_;refine m_e ?_;refine m_e ?_;refine m_e ?_;simp only[pv];refine m_n ?_;simp only[pv];refine m_n ?_;simp only[pv];refine m_p 15 K ?_;simp only[Act.put];refine m_p 17 R ?_;simp only[Act.put];refine m_a ?_;simp only[pv];refine Zi ?_;intro w6 hkw hrw hnew hdis;have n10:=hnew 7 rfl;have n11:=hnew 8 rfl;have zr10:Row w6 (p 7) (Zc K) 39:=hrw 15 (39,Zc K) rfl;have zr11:Row w6 (p 8) (Zc R) 39:=hrw 17 (39,Zc R) rfl;have d4x10:=l_l r4.lt n10;replace r2:=hkw.ro r2;replace r3:=hkw.ro r3;replace r4:=hkw.ro r4;replace r6:=hkw.ro r6;replace sb:=kk sb hkw;clear hkw hrw hnew hdis n10 n11;generalize p 7=g10 at*;generalize p 8=g11 at*;have r10:=zr10;clear zr10;have r11:=zr11;clear zr11;iterate 4 go_step
     refine ZQ ?_;refine q_m ?_;simp only[pv];refine q_v _ (ZC .i64 _ _ _ _ rfl er 0 rfl rfl false (by rw[decide_eq_true he];rfl)) ?_;refine q_m ?_;simp only[pv];refine Xc (by rfl) 39 _ rfl _ rfl r11 4 _ underlying39 Ze ?_;simp only[pv];refine q_v _ (ZS 39 rfl _ ZO) ?_;simp only[pv];refine q_v (.bool false) (fun w'=>(Yf _ _ _ rfl R 0 rfl rfl w').trans (by rw[hr])) ?_;refine q_p false (.bool false) ?_;refine q_m ?_;simp only[pv];refine Xc (by rfl) 39 _ rfl _ rfl r3 4 _ underlying39 Ze ?_;simp only[pv];refine Xc (by rfl) 39 _ rfl _ rfl r2 4 _ underlying39 Ze ?_;simp only[pv];refine q_c 171 func171 #[.agg (Zc F),.agg (Zc N)] hsq ?_;simp only[pv];refine q_v _ (Zp _ _ rfl true rfl) ?_;refine q_p false (.bool false) ?_;simp only[pv];refine Z2 ?_;intro w7 hqb;replace r3:=r3.belowAll hqb;replace r4:=r4.belowAll hqb;replace r6:=r6.belowAll hqb;replace r10:=r10.belowAll hqb;replace sb:=b_o sb hqb;clear hqb;iterate 7 go_step
     apply Zd [(g4,190,clC none 0 0)] [_,_,_,_,_,_] ⟨r4,trivial⟩ (by simp<;>omega)
     ·intro p;refine m_m ?_;simp only[pv];refine m_l r3 ?_;simp only[pv];refine m_l r10 ?_;simp only[pv];refine Zg _ (OF (some ⟨g6,0,none⟩) F K rfl rfl rfl rfl) ?_;simp only[pv];refine WY 0 190 _ _ rfl rfl rfl (clC (some ⟨g6,0,none⟩) F K) rfl (by exact TR) (by rfl) (Hg _ _ _) ?_;simp only[Act.put];refine Zg (.bool true) (fun _=>rfl) ?_;simp only[pv];refine Zi ?_;intro w8 hkw hrw hnew hdis;have zr4:Row w8 (g4) (clC (some ⟨g6,0,none⟩) F K) 190:=hrw 0 (190,clC (some ⟨g6,0,none⟩) F K) rfl;replace r6:=hkw.ro r6;replace sb:=kk sb hkw;clear hkw hrw hnew hdis r4;have r4:=zr4;clear zr4;go_wp2;exact Mp rfl _ rfl r4 _ underlying190 (by exact TR) rfl _ rfl ⟨⟨g6,rfl,b6,r6⟩,sb⟩
     ·rfl
    ·rfl
   ·kernel_rfl
  ·rfl
 ·rfl
theorem Qh (N F:Nat)(hN:N<2^256)(hF:F<2^256)(h1:1<=N):
  (∀w',Calls prog 42 #[.int .i64 1] w' (Rt (.agg (Zc 1)) w'))/\
  (∀w',Calls prog 127 #[.agg (Zc N),.agg (Zc 1)] w' (Rt (.tuple #[.agg (Zc (N-1)),.int .i64 (bN N 1 256:Nat)]) w'))/\
  (∀w',Calls prog 170 #[.agg (Zc (N-1)),.agg (Zc F)] w' (Rt (.tuple #[.agg (Zc (Dc (N-1) F)),.agg (Zc (So (N-1) F)),.int .i64 (RJ F)]) w')):=
 ⟨fun w'=>X1 1 w' (by decide),fun w'=>Tb N h1▸Wk N 1 w' (by decide),fun w'=>Jr (N-1) F w' (by omega) hF⟩
theorem Tc {N F:Nat}(h:Fc N F=true):N%2=1/\N≠1/\F≠0/\(N-1)%F=0/\N<F*F:=by
 unfold Fc at h
 simpa only[Bool.and_eq_true,decide_eq_true_iff]using h
theorem Mt (N F:Nat)(w:World)(hN:N<2^256)(hF:F<2^256)(h:Fc N F=true):
  Calls prog 124 #[.agg (Zc N),.agg (Zc F)] w fun e w'=>(∃g,e= .returned (.tuple #[.agg (clC (some ⟨g,0,none⟩) F ((N-1)/F)),.bool true])/\w.heap.size<=g/\Row w' g (rgC N (miL N) (Ww N) (sqL N)) 157)/\Below w.heap.size w w':=by
 obtain⟨h1,h2,h3,h4,h5⟩:=Tc h;obtain⟨c1,c2,c3⟩:=Qh N F hN hF (by omega);rw[show Dc (N-1) F=(N-1)/F from if_neg h3,show So (N-1) F=(N-1)%F from if_neg h3]at c3;refine Ms N F (N-1) ((N-1)/F) _ _ _ _ w (if_neg h3) (by rw[h4];exact Po 0) (fun w'=>R7 N w' h1 (by omega) hN) c1 c2 c3 fun w'=>?_
 have hs:=Ju F N w' hF hN;rw[decide_eq_true h5]at hs;exact hs
theorem Mu (N F K A X Y L G:Nat)(z:Int)(g:Nat)(RG:Array Value)(w:World)(r0:Row w g RG 157)(lz:Int)(B:Bool)(hy:Y=1)(hB:decide (G%2^256=1%2^256)=B)
  (ho1: ∀w',Calls prog 42 #[.int .i64 1] w' (Rt (.agg (Zc 1)) w'))
  (hoz: ∀w',Calls prog 42 #[.int .i64 z] w' (Rt (.agg (Zc A)) w'))
  (hx1: ∀w',Row w' g RG 157->Calls prog 41 #[.pointer (some ⟨g,0,none⟩),.agg (Zc A),.agg (Zc K)] w' (Rt (.agg (Zc X)) w'))
  (hx2: ∀w',Row w' g RG 157->Calls prog 41 #[.pointer (some ⟨g,0,none⟩),.agg (Zc X),.agg (Zc F)] w' (Rt (.agg (Zc Y)) w'))
  (hsu: ∀w',Calls prog 127 #[.agg (Zc X),.agg (Zc 1)] w' (Rt (.tuple #[.agg (Zc L),.int .i64 lz]) w'))
  (hM: ∀w',Row w' g RG 157->Calls prog 173 #[.pointer (some ⟨g,0,none⟩)] w' (Rt (.agg (Zc N)) w'))
  (hgc: ∀w',Calls prog 172 #[.agg (Zc N),.agg (Zc L)] w' (Rt (.agg (Zc G)) w')):
  Calls prog 125 #[.agg (clC (some ⟨g,0,none⟩) F K),.int .i64 z] w fun e w'=>e= .returned (.bool B)/\Below w.heap.size w w':=by
 go_enter func125,ntmps125
 iterate 2 go_step
 apply Zd [] [_,_] trivial List.nodup_nil
 ·intro p;refine YD 190 _ rfl _ rfl ?_;simp only[pv];refine Zg (.bool false) (fun _=>rfl) ?_;simp only[pv];refine Zi ?_;intro w2 hkw hrw hnew hdis;have n2:=hnew 0 rfl;have zr2:Row w2 (p 0) (clC (some ⟨g,0,none⟩) F K) 190:=hrw 1 (190,clC (some ⟨g,0,none⟩) F K) rfl;replace r0:=hkw.ro r0;have sb:=k_b hkw;clear hkw hrw hnew hdis n2;generalize p 0=g2 at*;have r2:=zr2;clear zr2;iterate 3 go_step
  apply Zd [] [_,_,_] trivial List.nodup_nil
  ·intro p;refine m_c 42 func42 #[.int .i64 1] ho1 ?_;simp only[pv];refine m_n ?_;simp only[pv];refine m_p 3 1 ?_;simp only[Act.put];refine Zi ?_;intro w3 hkw hrw hnew hdis;have zr5:Row w3 (p 1) (Zc 1) 39:=hrw 3 (39,Zc 1) rfl;replace r0:=hkw.ro r0;replace r2:=hkw.ro r2;replace sb:=kk sb hkw;clear hkw hrw hnew hdis;generalize p 1=g5 at*;have r5:=zr5;clear zr5;iterate 3 go_step
   apply Zo (by kernel_rfl) [] [_,_,_,_,_,_,_,_,_] trivial List.nodup_nil
   ·intro p;refine Zg _ (Zb 190 _ 0 rfl g2 0 rfl _ underlying190 _ rfl 0 sizeOf109) ?_;simp only[pv];refine ZB 109 _ rfl _ (0) rfl r2 (by simp<;>omega) (.pointer (some ⟨g,0,none⟩)) rfl isAgg109 ?_;refine m_m ?_;simp only[pv];refine m_c 42 func42 #[.int .i64 z] hoz ?_;simp only[pv];refine Zg _ (Zb 190 _ 2 rfl g2 0 rfl _ underlying190 _ rfl 3 sizeOf39) ?_;simp only[pv];refine Xe 39 _ rfl _ (5) rfl r2 (by simp<;>omega) (Zc K) (AE _ F K) _ underlying39 rfl Ze ?_;simp only[pv];refine m_k 41 func41 #[.pointer (some ⟨g,0,none⟩),.agg (Zc A),.agg (Zc K)] (fun w' hk=>hx1 w' (hk.row r0 (by simp))) ?_;simp only[pv];refine m_n ?_;simp only[pv];refine m_p 15 X ?_;simp only[Act.put];refine Zi ?_;intro w4 hkw hrw hnew hdis;have zr6:Row w4 (p 7) (Zc X) 39:=hrw 15 (39,Zc X) rfl;replace r0:=hkw.ro r0;replace r2:=hkw.ro r2;replace r5:=hkw.ro r5;replace sb:=kk sb hkw;clear hkw hrw hnew hdis;generalize p 7=g6 at*;have r6:=zr6;clear zr6;iterate 4 go_step
    refine ZF (by kernel_rfl) (by kernel_rfl) ?_;refine q_v _ (Zb 190 _ 0 rfl g2 0 rfl _ underlying190 _ rfl 0 sizeOf109) ?_;simp only[pv];refine ZH (by rfl) 109 _ rfl _ (0) rfl r2 (.pointer (some ⟨g,0,none⟩)) rfl isAgg109 ?_;simp only[pv];refine Xc (by rfl) 39 _ rfl _ rfl r6 4 _ underlying39 Ze ?_;simp only[pv];refine q_v _ (Zb 190 _ 1 rfl g2 0 rfl _ underlying190 _ rfl 3 sizeOf39) ?_;simp only[pv];refine Yq (by rfl) 39 _ rfl _ (1) rfl r2 (Zc F) (AD _ F K) _ underlying39 rfl Ze ?_;simp only[pv];refine q_k 41 func41 #[.pointer (some ⟨g,0,none⟩),.agg (Zc X),.agg (Zc F)] (fun w' hb=>hx2 w' (r0.belowAll hb)) ?_;simp only[pv];refine Xc (by rfl) 39 _ rfl _ rfl r5 4 _ underlying39 Ze ?_;simp only[pv];refine q_v (.bool false) (fun w'=>(Yf _ _ _ rfl Y 1 rfl rfl w').trans (by rw[hy,Po])) ?_;simp only[pv];refine Z2 ?_;intro w5 hqb;replace r0:=r0.belowAll hqb;replace r2:=r2.belowAll hqb;replace r5:=r5.belowAll hqb;replace r6:=r6.belowAll hqb;replace sb:=b_o sb hqb;clear hqb;iterate 7 go_step
    apply Zd [] [_,_,_,_,_,_,_,_,_] trivial List.nodup_nil
    ·intro p;refine m_l r6 ?_;simp only[pv];refine m_l r5 ?_;simp only[pv];refine m_c 127 func127 #[.agg (Zc X),.agg (Zc 1)] hsu ?_;refine m_m ?_;refine m_e ?_;refine m_e ?_;simp only[pv];refine m_n ?_;simp only[pv];refine m_p 13 L ?_;simp only[Act.put];refine m_a ?_;simp only[pv];refine Zi ?_;intro w6 hkw hrw hnew hdis;have zr7:Row w6 (p 6) (Zc L) 39:=hrw 13 (39,Zc L) rfl;replace r0:=hkw.ro r0;replace r2:=hkw.ro r2;replace r5:=hkw.ro r5;replace sb:=kk sb hkw;clear hkw hrw hnew hdis;generalize p 6=g7 at*;have r7:=zr7;clear zr7;iterate 3 go_step
     refine ZF (by kernel_rfl) (by kernel_rfl) ?_;refine q_v _ (Zb 190 _ 0 rfl g2 0 rfl _ underlying190 _ rfl 0 sizeOf109) ?_;simp only[pv];refine ZH (by rfl) 109 _ rfl _ (0) rfl r2 (.pointer (some ⟨g,0,none⟩)) rfl isAgg109 ?_;simp only[pv];refine q_k 173 func173 #[.pointer (some ⟨g,0,none⟩)] (fun w' hb=>hM w' (r0.belowAll hb)) ?_;simp only[pv];refine Xc (by rfl) 39 _ rfl _ rfl r7 4 _ underlying39 Ze ?_;simp only[pv];refine q_c 172 func172 #[.agg (Zc N),.agg (Zc L)] hgc ?_;simp only[pv];refine Xc (by rfl) 39 _ rfl _ rfl r5 4 _ underlying39 Ze ?_;simp only[pv];refine q_v (.bool B) (fun w'=>(ZZ _ _ _ rfl G 1 rfl rfl w').trans (by rw[hB])) ?_;refine q_a ?_;simp only[pv];refine Z2 ?_;intro w7 hqb;replace sb:=b_o sb hqb;clear hqb;go_wp2;go_ret;exact⟨rfl,sb⟩
    ·rfl
   ·kernel_rfl
  ·rfl
 ·rfl
theorem Mv (N F K:Nat)(z:Int)(B:Bool)(RG:Array Value)(w:World)(h1:2<=z)(h2:z<=65535)
  (hcl: ∀w',Calls prog 124 #[.agg (Zc N),.agg (Zc F)] w' fun e w2=>(∃g,e= .returned (.tuple #[.agg (clC (some ⟨g,0,none⟩) F K),.bool true])/\w'.heap.size<=g/\Row w2 g RG 157)/\Below w'.heap.size w' w2)
  (hsh: ∀g w',Row w' g RG 157->Calls prog 125 #[.agg (clC (some ⟨g,0,none⟩) F K),.int .i64 z] w' (Rt (.bool B) w')):
  Calls prog 81 #[.agg (Zc N),.agg (Zc F),.int .i64 z] w fun e w'=>e= .returned (.bool B)/\Below w.heap.size w w':=by
 go_enter func81,ntmps81
 iterate 2 go_step
 apply Zd [] [_,_,_] trivial List.nodup_nil
 ·intro p;refine YD 39 _ rfl _ rfl ?_;simp only[pv];refine YD 39 _ rfl _ rfl ?_;simp only[pv];refine Zg (.bool false) (fun _=>rfl) ?_;simp only[pv];refine Zi ?_;intro w2 hkw hrw hnew hdis;have n3:=hnew 0 rfl;have n4:=hnew 1 rfl;have zr3:Row w2 (p 0) (Zc N) 39:=hrw 1 (39,Zc N) rfl;have zr4:Row w2 (p 1) (Zc F) 39:=hrw 3 (39,Zc F) rfl;have sb:=k_b hkw;clear hkw hrw hnew hdis n3 n4;generalize p 0=g3 at*;generalize p 1=g4 at*;have r3:=zr3;clear zr3;have r4:=zr4;clear zr4;iterate 4 go_step
  refine ZQ ?_;refine q_m ?_;refine q_v _ (Xy z 2) ?_;refine q_m ?_;refine q_m ?_;refine q_v _ (Qe z 65535) ?_;simp only[pv];refine q_p false (.bool false) ?_;simp only[pv];refine Z2 ?_;intro w3 hqb;replace r3:=r3.belowAll hqb;replace r4:=r4.belowAll hqb;replace sb:=b_o sb hqb;clear hqb
  go_wp2_with (first
   |refine Zh rfl 39 _ rfl _ rfl r3 4 _ underlying39 (by exact Ze) ?_
   |refine Zh rfl 39 _ rfl _ rfl r4 4 _ underlying39 (by exact Ze) ?_)
  refine(hcl _).mono ?_;rintro _ wb ⟨⟨g9,rfl,hg9,r9⟩,bb⟩;replace sb:=b_o sb bb;clear bb hg9 hcl r3 r4
  dsimp only
  (repeat((fail_if_success (with_reducible show Code.wp _ (Code.region _ _ _) _ _ _));first|(refine Zj rfl 190 rfl _ Mn ?_;simp only[Act.put,List.setIfInBounds_toArray,List.set_cons_zero,List.set_cons_succ])|(refine Ym rfl 190 _ _ rfl _ rfl rfl _ _ (by exact TR) (by rfl) (Hg _ _ _) ?_;simp only[Act.put])|go_step))
  have r7:Row (wb.alloc (.cells (clC (some ⟨g9,0,none⟩) F K) 190)) wb.heap.size (clC (some ⟨g9,0,none⟩) F K) 190:=Row.here rfl;replace r9:=r9.alloc (.cells (clC (some ⟨g9,0,none⟩) F K) 190);replace sb:=sb.alloc sb.size (.cells (clC (some ⟨g9,0,none⟩) F K) 190);generalize wb.alloc (.cells (clC (some ⟨g9,0,none⟩) F K) 190)=w4 at*;generalize wb.heap.size=g7 at*;refine ZQ ?_;refine q_m ?_;refine q_m ?_;simp only[pv];refine Yq (by rfl) 190 _ rfl _ (0) rfl r7 (clC (some ⟨g9,0,none⟩) F K) (Zu _) _ underlying190 rfl TR ?_;refine q_m ?_;simp only[pv];refine q_k 125 func125 #[.agg (clC (some ⟨g9,0,none⟩) F K),.int .i64 z] (fun w' hb=>hsh g9 w' (r9.belowAll hb)) ?_;refine q_p true (.bool B) ?_;refine q_a ?_;simp only[pv];refine Z2 ?_;intro w5 hqb;replace sb:=b_o sb hqb;clear hqb;go_wp2;go_ret;exact⟨rfl,sb⟩
 ·rfl
def wtF (sh:Nat->Bool):Nat->Nat->Nat
 |0,_=>0
 |g+1,k=>if sh (2+k)=true then 2+k else wtF sh g (k+1)
def witN (N F:Nat):Nat:=if Fc N F=true then wtF (shN N F) 99 0 else 0
def errW (W:Nat):Int:=if W=0 then 3 else 0
def lkC (N:Nat)(z:Int):Array Value:=#[.int .u64 (lm N 0),.int .u64 (lm N 1),.int .u64 (lm N 2),.int .u64 (lm N 3),.int .i64 z]
theorem Am (N:Nat)(z:Int): ∀j v,(Zc N).toList[j]?=some v->(lkC N z)[0+j]?=some v:=Uj rfl rfl rfl rfl
theorem Ff:(prog.info? 148).map (fun i=>(i.zero,i.size))=some (some (.agg (lkC 0 0)),5):=by kernel_rfl
theorem Fg:(prog.info? 148).map (·.size)=some 5:=(zero_of_info Ff).2
theorem Wp:prog.underlying 36=some (.slice (prog.elem 36)):=by kernel_rfl
structure LinksAt (w:World)(ab:Option Addr)(n:Nat)(N:Nat->Nat)(A:Nat->Int)(gb ob:Nat)(bcs:Array Value)(tb:TypeId):Prop where
 at':n=0∨(ab=some ⟨gb,ob,none⟩/\WD w gb bcs tb/\ ∀i,i<n-> ∀j v,(lkC (N i) (A i)).toList[j]?=some v->bcs[ob+i*5+j]?=some v)
 lt: ∀i,i<n->N i<2^256
theorem LinksAt.below {w w2:World}{ab:Option Addr}{n:Nat}{N:Nat->Nat}{A:Nat->Int}{gb ob:Nat}{bcs:Array Value}{tb:TypeId}(h:LinksAt w ab n N A gb ob bcs tb)(hb:Below w.heap.size w w2):LinksAt w2 ab n N A gb ob bcs tb:=
 ⟨h.at'.imp id fun⟨h1,h2,h3⟩=>⟨h1,h2.belowAll hb,h3⟩,h.lt⟩
theorem VJ {bcs:Array Value}{off N:Nat}{z:Int}(h: ∀j v,(lkC N z).toList[j]?=some v->bcs[off+j]?=some v): ∀j v,(Zc N).toList[j]?=some v->bcs[off+j]?=some v:=fun j v hv=>by
 have:=Am N z j v hv;rw[Nat.zero_add,<-Array.getElem?_toList]at this;exact h j v this
theorem Fh {bcs:Array Value}{off N:Nat}{z:Int}(h: ∀j v,(lkC N z).toList[j]?=some v->bcs[off+j]?=some v):bcs[off+4]?=some (.int .i64 z):=h 4 _ rfl
theorem OG (N:Nat)(z I:Int)(w:World) 
  (hin: ∀w',Calls prog 122 #[.agg (Zc N)] w' (Rt (.tuple #[.int .i64 I,.bool true]) w'))
  (hsm: ∀w',Calls prog 123 #[.int .i64 I] w' (Rt (.bool true) w')):
  Calls prog 80 #[.agg (lkC N z)] w fun e w'=>e= .returned (.bool (decide (z=0)))/\Below w.heap.size w w':=by
 go_enter func80,ntmps80
 iterate 2 go_step
 apply Zd [] [_,_] trivial List.nodup_nil
 ·intro p;refine YD 148 _ rfl _ rfl ?_;simp only[pv];refine Zg (.bool false) (fun _=>rfl) ?_;simp only[pv];refine Zi ?_;intro w2 hkw hrw hnew hdis;have n1:=hnew 0 rfl;have zr1:Row w2 (p 0) (lkC N z) 148:=hrw 1 (148,lkC N z) rfl;have sb:=k_b hkw;clear hkw hrw hnew hdis n1;generalize p 0=g1 at*;have r1:=zr1;clear zr1;iterate 3 go_step
  apply Zd [] [_,_,_,_,_,_,_,_] trivial List.nodup_nil
  ·intro p;refine Zg _ (Zb 148 _ 0 rfl g1 0 rfl _ underlying148 _ rfl 3 sizeOf39) ?_;simp only[pv];refine Xe 39 _ rfl _ (0) rfl r1 (by simp<;>omega) (Zc N) (Am N z) _ underlying39 rfl Ze ?_;simp only[pv];refine m_c 122 func122 #[.agg (Zc N)] hin ?_;refine m_m ?_;refine m_e ?_;refine m_e ?_;refine m_a ?_;simp only[pv];refine m_a ?_;simp only[pv];refine Zi ?_;intro w3 hkw hrw hnew hdis;replace r1:=hkw.ro r1;replace sb:=kk sb hkw;clear hkw hrw hnew hdis;iterate 3 go_step
   refine ZQ ?_;refine q_m ?_;refine q_m ?_;refine q_m ?_;simp only[pv];refine q_c 123 func123 #[.int .i64 I] hsm ?_;refine q_p true (.bool true) ?_;refine q_m ?_;simp only[pv];refine q_v _ (Zb 148 _ 1 rfl g1 0 rfl _ underlying148 _ rfl 0 sizeOf3) ?_;simp only[pv];refine ZH (by rfl) 3 _ rfl _ (4) rfl r1 (.int .i64 z) rfl isAgg3 ?_;simp only[pv];refine q_v _ (Zq .i64 _ _ _ _ rfl z 0 rfl rfl _ rfl) ?_;simp only[pv];refine Tv true (v:=.bool (decide (z=0))) (by rfl) rfl rfl rfl ?_;refine q_a ?_;simp only[pv];refine Z2 ?_;intro w4 hqb;replace sb:=b_o sb hqb;clear hqb;go_wp2;go_ret;exact⟨rfl,sb⟩
  ·rfl
 ·rfl
def errC (b:Bool):Int:=if b=true then 0 else 4
theorem Jv (N F K a g:Nat)(w:World)(hN:N<2^256)(ho:N%2=1)(h2:2<=N)(hF:F<2^256)(hF0:F≠0)(hK:K<2^256)(ha:a<9223372036854775808)(r0:Row w g (rgC N (miL N) (Ww N) (sqL N)) 157)(hy:(a^K%N)^F%N=1)(hg:Nat.gcd N (a^K%N-1)=1):
  Calls prog 125 #[.agg (clC (some ⟨g,0,none⟩) F K),.int .i64 a] w (Rt (.bool true) w):=by
 have lm': ∀z,z%N<2^256:=fun z=>Nat.lt_trans (Nat.mod_lt _ (by omega)) hN
 have o1:=fun w'=>X1 1 w' (by decide)
 have oz:=fun w'=>X1 (a:Int) w' (by omega)
 rw[Int.toNat_natCast]at oz
 have hX:1<=a^K%N:=by
  rcases Nat.eq_zero_or_pos (a^K%N)with h0|h0
  ·rw[h0,Nat.zero_pow (by omega),Nat.zero_mod]at hy;cases hy
  ·exact h0
 refine Mu N F K a (a^K%N) _ (a^K%N-1) 1 a g _ w r0 (bN (a^K%N) 1 256:Nat) _ hy rfl o1 oz (fun w' r=>Qf a K N g w' (by omega) hK hN ho h2 r) (fun w' r=>Qf (a^K%N) F N g w' (lm' _) hF hN ho h2 r)
  (fun w'=>Tb _ hX▸Wk _ 1 w' (by decide)) (fun w' r=>N2 N _ _ _ g w' (by omega) hN r) (fun w'=>?_)
 have:=Jb N (a^K%N-1) w' hN (Nat.lt_of_le_of_lt (Nat.sub_le _ _) (lm' _));rw[hg]at this;exact this
theorem Fi (N F:Nat)(z:Int)(w:World)(hN:N<2^256)(hF:F<2^256)(h:stN N F z=true):
  Calls prog 81 #[.agg (Zc N),.agg (Zc F),.int .i64 z] w (Rt (.bool true) w):=by
 unfold stN shN at h;simp only[Bool.and_eq_true,decide_eq_true_iff]at h;obtain⟨h1,h2,hm,hy,hg⟩:=h;obtain⟨f1,f2,f3,f4,f5⟩:=Tc hm;obtain⟨a,rfl⟩:=Int.eq_ofNat_of_zero_le (show 0<=z by omega);rw[Int.toNat_natCast]at hy hg
 exact Mv N F ((N-1)/F) a _ _ w (by omega) (by omega) (fun w'=>Mt N F w' hN hF hm)
  (fun g w' r=>Jv N F ((N-1)/F) a g w' hN f1 (by omega) hF f3 (Nat.lt_of_le_of_lt (Nat.div_le_self _ _) (by omega)) (by omega) r hy hg)
theorem Mw (N:Nat)(w:World)(hN:N<2^256)(h:smN N=true):
  Calls prog 80 #[.agg (lkC N 0)] w (Rt (.bool true) w):=by
 have h5:N<65536:=by
  unfold smN at h;simp only[Bool.and_eq_true,decide_eq_true_iff]at h;omega
 have hin:=fun w'=>KP N w' hN
 rw[(S0 N (by omega)).1,(S0 N (by omega)).2]at hin;have hsm:=fun w'=>Ml (N:Int) w'
 rw[Fa,h]at hsm;exact OG N 0 N w hin hsm
theorem My (n c:Nat)(ab:Option Addr)(N:Nat->Nat)(A:Nat->Int)(gb ob:Nat)(bcs:Array Value)(tb:TypeId)(w:World)(h1:1<=n)(h8:n<=8)(hL:LinksAt w ab n N A gb ob bcs tb)
  (hst0: ∀k,k+1<n->stN (N (k+1)) (N k) (A (k+1))=true)(hbe: ∀w',Calls prog 80 #[.agg (lkC (N 0) (A 0))] w' (Rt (.bool true) w')):
  Calls prog 37 #[.slice ab n c] w fun e w'=>e= .returned (.int .i64 0)/\Below w.heap.size w w':=by
 have HL:Hid (LinksAt w ab n N A gb ob bcs tb):=hL;clear hL
 go_enter func37,ntmps37
 iterate 2 go_step
 apply Zd [] [_] trivial List.nodup_nil
 ·intro p;refine Zg (.int .i64 0) (fun _=>rfl) ?_;simp only[pv];refine Zi ?_;intro w2 hkw hrw hnew hdis;have sb:=k_b hkw;clear hkw hrw hnew hdis;obtain h0|⟨rfl,rB,hat⟩:=(HL.out.below sb).at'
  ·omega
  iterate 4 go_step
  refine ZQ ?_;refine q_m ?_;simp only[pv];refine q_v _ (n_l (some ⟨gb,ob,none⟩) n c Wp) ?_;refine q_v _ (Xy n 1) ?_;refine q_m ?_;refine q_m ?_;simp only[pv];refine q_v _ (n_l (some ⟨gb,ob,none⟩) n c Wp) ?_;refine q_v _ (Qe n 8) ?_;refine q_p false (.bool false) ?_;refine q_m ?_;refine q_m ?_;simp only[pv];refine q_v _ (Zs 36 _ _ rfl gb ob n c rfl 0 rfl (by omega) _ underlying36 5 sizeOf148) ?_;simp only[pv];refine Uc (by rfl) 148 _ rfl _ ((ob+0*5)) rfl rB (lkC (N 0) (A 0)) (hat 0 (by omega)) _ underlying148 rfl Fg ?_;simp only[pv];refine q_c 80 func80 #[.agg (lkC (N 0) (A 0))] hbe ?_;simp only[pv];refine q_v _ (Zp _ _ rfl true rfl) ?_;refine q_p false (.bool false) ?_;simp only[pv];refine Z2 ?_;intro w3 hqb;replace sb:=b_o sb hqb;clear hqb;clear rB hat hbe;iterate 8 go_step
  apply Zd [] [_,_,_,_] trivial List.nodup_nil
  ·intro p;refine m_m ?_;simp only[pv];refine Zg _ (n_l (some ⟨gb,ob,none⟩) n c Wp) ?_;simp only[pv];refine Zg _ (ZT _ _ _ _ rfl n 1 rfl rfl (by omega) (by omega)) ?_;simp only[pv];refine Zg (.int .i64 0) (fun _=>rfl) ?_;simp only[pv];refine Zi ?_;intro w3b hkw hrw hnew hdis;replace sb:=kk sb hkw;clear hkw hrw hnew hdis
   go_wp2_with fail
   go_loopg [22] (n-1) (fun g s22 wr=> ∃k:Nat,k+g=n-1/\s22= .int .i64 k/\Below w.heap.size w wr)
   case atStart=>exact⟨0,by omega,rfl,sb⟩
   case round=>
    clear sb;obtain⟨k,hk,rfl,sb⟩:=hrel
    cases gk with
    |zero=>
     go_step
     apply Zd [] [_] trivial List.nodup_nil
     ·intro p;refine Zg _ (Xy k (n-1:Nat)) ?_;simp only[pv];refine Zi ?_;intro w4 hkw hrw hnew hdis;replace sb:=kk sb hkw;clear hkw hrw hnew hdis;go_wp2;go_ret;exact⟨rfl,sb⟩
     ·rfl
    |succ g=>
     have hst:=fun w'=>Fi (N (k+1)) (N k) (A (k+1)) w' (HL.out.lt _ (by omega)) (HL.out.lt _ (by omega)) (hst0 k (by omega))
     go_step
     apply Zd [] [_] trivial List.nodup_nil
     ·intro p;refine Zg _ (XK k (n-1:Nat)) ?_;simp only[pv];refine Zi ?_;intro w4 hkw hrw hnew hdis;replace sb:=kk sb hkw;clear hkw hrw hnew hdis;iterate 10 go_step
      apply Zd [] [_,_] trivial List.nodup_nil
      ·intro p;refine m_m ?_;refine m_a ?_;simp only[pv];refine Zi ?_;intro w5 hkw hrw hnew hdis;replace sb:=kk sb hkw;clear hkw hrw hnew hdis;obtain h0|⟨_,rB,hat⟩:=(HL.out.below sb).at'
       ·omega
       iterate 3 go_step
       refine ZF (by kernel_rfl) (by kernel_rfl) ?_;refine q_m ?_;refine q_m ?_;simp only[pv];refine q_v _ (x_a k 1) ?_;simp only[pv];refine q_v _ (Zs 36 _ _ rfl gb ob n c rfl (k+1) rfl (by omega) _ underlying36 5 sizeOf148) ?_;simp only[pv];refine q_v _ (Zb 148 _ 0 rfl gb (ob+(k+1)*5) rfl _ underlying148 _ rfl 3 sizeOf39) ?_;simp only[pv];refine Uc (by rfl) 39 _ rfl _ ((ob+(k+1)*5)) rfl rB (Zc (N (k+1))) (VJ (hat (k+1) (by omega))) _ underlying39 rfl Ze ?_;refine q_m ?_;refine q_m ?_;simp only[pv];refine q_v _ (Zs 36 _ _ rfl gb ob n c rfl (k) rfl (by omega) _ underlying36 5 sizeOf148) ?_;simp only[pv];refine q_v _ (Zb 148 _ 0 rfl gb (ob+(k)*5) rfl _ underlying148 _ rfl 3 sizeOf39) ?_;simp only[pv];refine Uc (by rfl) 39 _ rfl _ ((ob+(k)*5)) rfl rB (Zc (N k)) (VJ (hat k (by omega))) _ underlying39 rfl Ze ?_;refine q_m ?_;refine q_m ?_;simp only[pv];refine q_v _ (x_a k 1) ?_;simp only[pv];refine q_v _ (Zs 36 _ _ rfl gb ob n c rfl (k+1) rfl (by omega) _ underlying36 5 sizeOf148) ?_;simp only[pv];refine q_v _ (Zb 148 _ 1 rfl gb (ob+(k+1)*5) rfl _ underlying148 _ rfl 0 sizeOf3) ?_;simp only[pv];refine XN (by rfl) 3 _ rfl _ (ob+(k+1)*5+4) rfl rB (.int .i64 (A (k+1))) (Fh (hat (k+1) (by omega))) isAgg3 ?_;simp only[pv];refine q_c 81 func81 #[.agg (Zc (N (k+1))),.agg (Zc (N k)),.int .i64 (A (k+1))] hst ?_;simp only[pv];refine q_v _ (Zp _ _ rfl true rfl) ?_;simp only[pv];refine Z2 ?_;intro w6 hqb;replace sb:=b_o sb hqb;clear hqb;iterate 6 go_step
       apply Zd [] [_,_] trivial List.nodup_nil
       ·intro p;refine Zg _ (x_a k 1) ?_;refine m_m ?_;simp only[pv];refine Zi ?_;intro w7 hkw hrw hnew hdis;replace sb:=kk sb hkw;clear hkw hrw hnew hdis;go_wp2
        go_roundg g
        case measure=>omega
        case rel=>exact⟨k+1,by omega,rfl,sb⟩
       ·rfl
      ·rfl
     ·rfl
  ·rfl
 ·rfl
theorem Jw (n c:Nat)(ab:Option Addr)(N:Nat->Nat)(A:Nat->Int)(gb ob:Nat)(bcs:Array Value)(tb:TypeId)(w:World)(hL:LinksAt w ab n N A gb ob bcs tb)(h:chN n N A=true):
  Calls prog 37 #[.slice ab n c] w (Rt (.int .i64 0) w):=by
 unfold chN at h;simp only[Bool.and_eq_true,decide_eq_true_iff]at h;obtain⟨h1,h8,hs,h0,hl⟩:=h;rw[Qc]at hl;have hbe:=fun w'=>Mw (N 0) w' (hL.lt 0 (by omega)) hs
 rw[<-h0]at hbe;exact My n c ab N A gb ob bcs tb w h1 h8 hL (fun k hk=>hl k (by omega)) hbe
theorem Pp:(prog.info? 148).map (fun i=>(i.zero,i.size))=some (some (.agg #[.int .u64 0,.int .u64 0,.int .u64 0,.int .u64 0,.int .i64 0]),5):=by kernel_rfl
theorem Pq: ∃i,prog.info? 148=some i/\i.zero=some (.agg #[.int .u64 0,.int .u64 0,.int .u64 0,.int .u64 0,.int .i64 0])/\i.size=5:=by
 cases hi:prog.info? 148 with
 |none=>have:=Pp;rw[hi]at this;cases this
 |some i=>
  have h:=Pp;rw[hi]at h;simp only[Option.map_some,Option.some.injEq,Prod.mk.injEq]at h;exact⟨i,rfl,h.1,h.2⟩
theorem Mz (N:Nat)(z:Int):prog.built 148 [(0,.agg (Zc N)),(1,.int .i64 z)]=some (lkC N z):=by
 unfold Zc lkC;generalize lm N 0=a0;generalize lm N 1=a1;generalize lm N 2=a2;generalize lm N 3=a3
 kernel_rfl
theorem XL {o:Oper}{ρ:Operand->Value}{x0 x1:Operand}(N:Nat)(z:Int)(ho:o.op= .build 148 #[(0,x0),(1,x1)])(h0:ρ x0= .agg (Zc N))(h1:ρ x1= .int .i64 z)(w:World):
  (execOp ρ o).run prog w= .ok (.value (.agg (lkC N z))) w:=by
 unfold execOp;simp only[ho,List.map_toArray,List.map_cons,List.map_nil,h0,h1,Sem.run_bind];rw[run_build w 148 _ (lkC N z) (Mz N z)];rfl
theorem Jx (N:Nat)(z:Int):(lkC N z).size=5:=rfl
def AF (A B:Int)(i:Nat):Int:=if i=0 then A else B
end Go.Proofs.YtcdahmommonnfaaGreatDoor
