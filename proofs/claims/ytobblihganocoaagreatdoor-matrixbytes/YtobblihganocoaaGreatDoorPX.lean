import Derived.Test.YtobblihganocoaaGreatDoorPM
import Derived.Test.YtobblihganocoaaGreatDoorMQ
import Derived.WalkMore
set_option maxRecDepth 100000
set_option maxHeartbeats 2000000
namespace Go.Proofs.YtobblihganocoaaGreatDoor
open Go.Proofs.Tryz
set_option linter.unusedVariables false
open Go.RowKit
theorem Y4 {P:Program}{o:Oper}{ρ:Operand->Value}(t:TypeId)(x y:Operand)(u:TypeId)(ho:o.op= .binOp .mul t x y u)(n m r:Nat)(hx:ρ x= .int .i64 n)(hy:ρ y= .int .i64 m)(hr:n*m=r)(h:r<9223372036854775808)(w:World):
  (execOp ρ o).run P w= .ok (.value (.int .i64 (r:Int))) w:=by
 subst hr
 unfold execOp
 simp only[ho,hx,hy]
 simp[go_sem]
 rw[<-Int.natCast_mul,IntKind.wrap_i64]
 omega
theorem YB {P:Program}{o:Oper}{ρ:Operand->Value}(t:TypeId)(x y:Operand)(u:TypeId)(ho:o.op= .binOp .leq t x y u)(n m:Int)(hx:ρ x= .int .i64 n)(hy:ρ y= .int .i64 m)(b:Bool)(hb:decide (n<=m)=b)(w:World):
  (execOp ρ o).run P w= .ok (.value (.bool b)) w:=by
 subst hb
 unfold execOp
 simp only[ho,hx,hy]
 simp[go_sem]
theorem YC {P:Program}{o:Oper}{ρ:Operand->Value}(t:TypeId)(x y:Operand)(u:TypeId)(ho:o.op= .binOp .lss t x y u)(n m:Int)(hx:ρ x= .int .i64 n)(hy:ρ y= .int .i64 m)(b:Bool)(hb:decide (n<m)=b)(w:World):
  (execOp ρ o).run P w= .ok (.value (.bool b)) w:=by
 subst hb
 unfold execOp
 simp only[ho,hx,hy]
 simp[go_sem]
theorem Xf {P:Program}{o:Oper}{ρ:Operand->Value}{t:TypeId}{x y:Operand}{u:TypeId}(n m:Int)(h: ¬n<m:=by omega)(ho:o.op= .binOp .lss t x y u:=by exact rfl)(hx:ρ x= .int .i64 n:=by exact rfl)(hy:ρ y= .int .i64 m:=by exact rfl): ∀w,(execOp ρ o).run P w= .ok (.value (.bool false)) w:=YC t x y u ho n m hx hy false (decide_eq_false h)
theorem XC {P:Program}{o:Oper}{ρ:Operand->Value}{t:TypeId}{x y:Operand}{u:TypeId}(n m:Int)(h:n<m:=by omega)(ho:o.op= .binOp .lss t x y u:=by exact rfl)(hx:ρ x= .int .i64 n:=by exact rfl)(hy:ρ y= .int .i64 m:=by exact rfl): ∀w,(execOp ρ o).run P w= .ok (.value (.bool true)) w:=YC t x y u ho n m hx hy true (decide_eq_true h)
theorem yt (d:Nat)(h:d<=65537):d*d<9223372036854775808:=by
 have:=Nat.mul_le_mul h h
 omega
theorem Mk (z:Int)(w:World)(h:z<2):
  Calls Tryz.prog 171 #[.int .i64 z] w fun e w'=>e= .returned (.bool false)/\Below w.heap.size w w':=by
 go_enter func171,ntmps171
 iterate 2 go_step
 apply Za [] [_] trivial List.nodup_nil
 ·intro p;refine m_V (.bool false) (fun _=>rfl) ?_;refine Zd ?_;intro w2 hkw hrw hnew hdis
  have sb:=k_b hkw
  clear hkw hrw hnew hdis
  iterate 2 go_step
  go_step3
  iterate 2 go_step
  refine Zq ?_;refine q_W ?_;refine q_V _ (YC _ _ _ _ rfl z 2 rfl rfl true (decide_eq_true h)) ?_;refine q_P true (.bool true) ?_;intro w3 hqb;replace sb:=b_o sb hqb;clear hqb
  go_wp2
  rw[Exit.noGoto_ret]
  go_ret
  exact⟨rfl,sb⟩
 ·rfl
theorem PU (z:Int)(w:World)(h:65536<=z):
  Calls Tryz.prog 171 #[.int .i64 z] w fun e w'=>e= .returned (.bool false)/\Below w.heap.size w w':=by
 go_enter func171,ntmps171
 iterate 2 go_step
 apply Za [] [_] trivial List.nodup_nil
 ·intro p;refine m_V (.bool false) (fun _=>rfl) ?_;refine Zd ?_;intro w2 hkw hrw hnew hdis
  have sb:=k_b hkw
  clear hkw hrw hnew hdis
  iterate 2 go_step
  go_step3
  iterate 2 go_step
  refine Zq ?_;refine q_W ?_;refine q_V _ (Xf z 2) ?_;refine q_V _ (ZR _ _ _ _ rfl z 65536 rfl rfl true (decide_eq_true h)) ?_;refine q_P false (.bool true) ?_;intro w3 hqb;replace sb:=b_o sb hqb;clear hqb
  go_wp2
  rw[Exit.noGoto_ret]
  go_ret
  exact⟨rfl,sb⟩
 ·rfl
theorem Kg (n:Nat)(B:Bool)(w:World)(h2:2<=n)(h:n<65536)(hB:Tr n n 2=B):
  Calls Tryz.prog 171 #[.int .i64 n] w fun e w'=>e= .returned (.bool B)/\Below w.heap.size w w':=by
 have HB:Hid (Tr n n (0+2)=B):=hB
 clear hB
 go_enter func171,ntmps171
 iterate 2 go_step
 apply Za [] [_] trivial List.nodup_nil
 ·intro p;refine m_V (.bool false) (fun _=>rfl) ?_;refine Zd ?_;intro w2 hkw hrw hnew hdis
  have sb:=k_b hkw
  clear hkw hrw hnew hdis
  iterate 2 go_step
  go_step3
  iterate 2 go_step
  refine Zq ?_;refine q_W ?_;refine q_V _ (Xf n 2) ?_;refine q_V _ (ZR _ _ _ _ rfl n 65536 rfl rfl false (decide_eq_false (by omega))) ?_;refine q_P false (.bool false) ?_;intro w3 hqb;replace sb:=b_o sb hqb;clear hqb
  go_wp2_with fail
  go_step3
  go_wp2_with fail
  go_loopg [3,13] n (fun g s3 s13 wr=> ∃k:Nat,k+g=n/\s3= .bool true/\s13= .int .i64 k/\Tr n g (k+2)=B/\Below w.heap.size w wr)
  case atStart=>exact⟨0,by omega,rfl,rfl,HB.out,sb⟩
  case round=>
   clear sb HB
   obtain⟨k,hk,rfl,rfl,hs,sb⟩:=hrel
   cases gk with
   |zero=>
    obtain rfl:k=n:=by omega
    obtain rfl:true=B:=hs
    go_step
    apply Za [] [_] trivial List.nodup_nil
    ·intro p;refine m_V _ (Xf k k) ?_;refine Zd ?_;intro w4 hkw hrw hnew hdis;replace sb:=kk sb hkw;clear hkw hrw hnew hdis
     go_wp2
     (try rw[Exit.noGoto_ret])
     go_ret
     exact⟨rfl,sb⟩
    ·rfl
   |succ g=>
    have hsq:=yt (2+k) (by omega)
    unfold Tr at hs
    rw[Nat.add_comm k 2]at hs
    go_step
    apply Za [] [_] trivial List.nodup_nil
    ·intro p;refine m_V _ (XC k n) ?_;refine Zd ?_;intro w4 hkw hrw hnew hdis;replace sb:=kk sb hkw;clear hkw hrw hnew hdis
     iterate 10 go_step
     apply Za [] [_,_] trivial List.nodup_nil
     ·intro p;refine m_W ?_;refine Zd ?_;intro w5 hkw hrw hnew hdis;replace sb:=kk sb hkw;clear hkw hrw hnew hdis
      iterate 3 go_step
      apply Za [] [_,_,_] trivial List.nodup_nil
      ·intro p;refine m_W ?_;refine m_V _ (x_a 2 k) ?_;refine Zd ?_;intro w6 hkw hrw hnew hdis;replace sb:=kk sb hkw;clear hkw hrw hnew hdis
       by_cases hbig:n<(2+k)*(2+k)
       ·rw[if_pos hbig]at hs
        subst hs
        generalize hd:(2+k)*(2+k)=D at*
        iterate 4 go_step
        apply Za [] [_,_,_,_,_,_] trivial List.nodup_nil
        ·intro p;refine m_W ?_;refine m_V _ (Y4 _ _ _ _ rfl (2+k) (2+k) D rfl rfl hd hsq) ?_;refine m_V _ (Ho D n) ?_;refine Zd ?_;intro w7 hkw hrw hnew hdis;replace sb:=kk sb hkw;clear hkw hrw hnew hdis
         go_wp2
         (try rw[Exit.noGoto_ret])
         go_ret
         exact⟨rfl,sb⟩
        ·rfl
       rw[if_neg hbig]at hs
       have hd0:0<2+k:=by omega
       by_cases hz:n%(2+k)=0
       ·rw[if_pos hz]at hs
        subst hs
        generalize hd:(2+k)*(2+k)=D at*
        iterate 4 go_step
        apply Za [] [_,_,_,_,_,_] trivial List.nodup_nil
        ·intro p;refine m_W ?_;refine m_V _ (Y4 _ _ _ _ rfl (2+k) (2+k) D rfl rfl hd hsq) ?_;refine m_V _ (Qz D n) ?_;refine Zd ?_;intro w7 hkw hrw hnew hdis;replace sb:=kk sb hkw;clear hkw hrw hnew hdis
         iterate 4 go_step
         apply Za [] [_,_,_,_,_] trivial List.nodup_nil
         ·intro p;refine m_W ?_;refine m_V _ (X2 _ _ _ _ rfl n (2+k) rfl rfl hd0) ?_;refine m_V _ (ZG .i64 _ _ _ _ rfl (n%(2+k):Nat) 0 rfl rfl true (decide_eq_true (by omega))) ?_;refine Zd ?_;intro w8 hkw hrw hnew hdis;replace sb:=kk sb hkw;clear hkw hrw hnew hdis
          go_wp2
          (try rw[Exit.noGoto_ret])
          go_ret
          exact⟨rfl,sb⟩
         ·rfl
        ·rfl
       ·rw[if_neg hz]at hs
        generalize hd:(2+k)*(2+k)=D at*
        iterate 4 go_step
        apply Za [] [_,_,_,_,_,_] trivial List.nodup_nil
        ·intro p;refine m_W ?_;refine m_V _ (Y4 _ _ _ _ rfl (2+k) (2+k) D rfl rfl hd hsq) ?_;refine m_V _ (Qz D n) ?_;refine Zd ?_;intro w7 hkw hrw hnew hdis;replace sb:=kk sb hkw;clear hkw hrw hnew hdis
         iterate 4 go_step
         apply Za [] [_,_,_,_,_] trivial List.nodup_nil
         ·intro p;refine m_W ?_;refine m_V _ (X2 _ _ _ _ rfl n (2+k) rfl rfl hd0) ?_;refine m_V _ (ZG .i64 _ _ _ _ rfl (n%(2+k):Nat) 0 rfl rfl false (decide_eq_false (by omega))) ?_;refine Zd ?_;intro w8 hkw hrw hnew hdis;replace sb:=kk sb hkw;clear hkw hrw hnew hdis
          iterate 6 go_step
          apply Za [] [_,_] trivial List.nodup_nil
          ·intro p;refine m_V _ (x_a k 1) ?_;refine Zd ?_;intro w9 hkw hrw hnew hdis;replace sb:=kk sb hkw;clear hkw hrw hnew hdis
           go_wp2
           go_roundg g
           ·exact⟨k+1,by omega,rfl,rfl,by rw[<-hs,show k+1+2=2+k+1 by omega],sb⟩
           omega
          ·rfl
         ·rfl
        ·rfl
      ·rfl
     ·rfl
    ·rfl
 ·rfl
theorem Kh (z:Int)(w:World):
  Calls Tryz.prog 171 #[.int .i64 z] w fun e w'=>e= .returned (.bool (smI z))/\Below w.heap.size w w':=by
 unfold smI
 by_cases h1:z<2
 ·rw[decide_eq_false (show ¬2<=z by omega)]
  exact Mk z w h1
 by_cases h2:65536<=z
 ·rw[decide_eq_false (show ¬z<65536 by omega),Bool.false_and,Bool.and_false]
  exact PU z w h2
 obtain⟨n,rfl⟩:=Int.eq_ofNat_of_zero_le (show 0<=z by omega)
 rw[decide_eq_true (show(2:Int)<=n by omega),decide_eq_true (show(n:Int)<65536 by omega),Int.toNat_natCast,Bool.true_and,Bool.true_and]
 exact Kg n _ w (by omega) (by omega) rfl
def plI (z:Int):Bool:=decide (2<=z)&&(decide (z<=4294967296)&&Tr z.toNat 65534 2)
def clC (q:Option Addr)(F K:Nat):Array Value:=#[.pointer q,.int .u64 (lm F 0),.int .u64 (lm F 1),.int .u64 (lm F 2),.int .u64 (lm F 3),.int .u64 (lm K 0),.int .u64 (lm K 1),.int .u64 (lm K 2),.int .u64 (lm K 3)]
theorem xD (q:Option Addr)(F K:Nat): ∀j v,(Zc F).toList[j]?=some v->(clC q F K)[1+j]?=some v:=UI rfl rfl rfl rfl
theorem xE (q:Option Addr)(F K:Nat): ∀j v,(Zc K).toList[j]?=some v->(clC q F K)[5+j]?=some v:=UI rfl rfl rfl rfl
theorem Ed (q:Option Addr)(F K:Nat):(clC q F K).all (·.oneCell')=true:=by simp[clC,Value.oneCell']
theorem Ki:(Tryz.prog.info? 202).map (fun i=>(i.zero,i.size))=some (some (.agg (clC none 0 0)),9):=by kernel_rfl
theorem Kj (w:World):(zeroValue 202).run Tryz.prog w= .ok (.agg (clC none 0 0)) w:=(zero_of_info Ki).1 w
theorem Rj:(Tryz.prog.info? 202).map (·.size)=some 9:=(zero_of_info Ki).2
theorem Yy (c:Array Value): ∀j v,c.toList[j]?=some v->c[0+j]?=some v:=fun j v h=>by rw[Nat.zero_add,<-Array.getElem?_toList];exact h
theorem Kk (q:Option Addr)(F K:Nat):Tryz.prog.built 202 [(0,.pointer q),(1,.agg (Zc F)),(2,.agg (Zc K))]=some (clC q F K):=by
 unfold Zc clC
 generalize lm F 0=a0
 generalize lm F 1=a1
 generalize lm F 2=a2
 generalize lm F 3=a3
 generalize lm K 0=b0
 generalize lm K 1=b1
 generalize lm K 2=b2
 generalize lm K 3=b3
 kernel_rfl
theorem Ml {o:Oper}{ρ:Operand->Value}{x0 x1 x2:Operand}(q:Option Addr)(F K:Nat)(ho:o.op= .build 202 #[(0,x0),(1,x1),(2,x2)])(h0:ρ x0= .pointer q)(h1:ρ x1= .agg (Zc F))(h2:ρ x2= .agg (Zc K))(w:World):
  (execOp ρ o).run Tryz.prog w= .ok (.value (.agg (clC q F K))) w:=by
 unfold execOp
 simp only[ho,List.map_toArray,List.map_cons,List.map_nil,h0,h1,h2,Sem.run_bind]
 rw[run_build w 202 _ (clC q F K) (Kk q F K)]
 rfl
theorem Kl {P:Program}{fn:Func}{R:Ending->World->Prop}{a:Act}{w:World}{p u:Tmp}{ty:TypeId}(hf:fn.results=#[.cell p ty,.tmp u])(g:Nat)(hp:a.tmps.getD p undef= .pointer (some ⟨g,0,none⟩))
  {t:TypeId}{cs:Array Value}(hr:Row w g cs t)(fs:Array Field)(hu:P.underlying ty=some (.struct fs))(hi:(P.info? ty).map (·.size)=some cs.size)(hd:a.defers=[])
  (v:Value)(hv:a.tmps.getD u undef=v)(h:R (.returned (.tuple #[.agg cs,v])) w):bodyPost P fn R .ret a w:=by
 refine bodyPost_ret (v:=.tuple #[.agg cs,v]) ?_ hd h
 rw[results_cell_tmp hf,hp,hv]
 simp only[asAddr,Sem.run_pure,Result.andThen_ok]
 rw[run_loadVar_row w g t ty cs (0,0) _ hr hu rfl hi]
 rfl
theorem SB (X:Nat)(h:1<=X):Zc (Wx X 1)=Zc (X-1):=by
 rw[W0]
 unfold Wx
 rw[show X+(2^256-1)=X-1+2^256 by omega,Nat.add_mod_right]
theorem Km (A B:Nat):decide ((0:Int)<Vq A B)=decide (B<A):=by
 unfold Vq
 split
 ·rw[decide_eq_false (by omega),decide_eq_false (by omega)]
 ·split
  ·rw[decide_eq_true (by omega),decide_eq_true (by assumption)]
  ·rw[decide_eq_false (by omega),decide_eq_false (by omega)]
theorem QC (X:Nat):(!decide (X%2^256=X%2^256))=false:=by rw[decide_eq_true rfl];rfl
theorem DV (X Y:Nat)(hX:X<2^256)(hY:Y<2^256)(h:X≠Y):(!decide (X%2^256=Y%2^256))=true:=by
 rw[Nat.mod_eq_of_lt hX,Nat.mod_eq_of_lt hY,decide_eq_false h];rfl
theorem Kn (F N L H:Nat)(w:World)(hb:(!decide (H%2^256=0%2^256))=true)
  (hmu: ∀w',Calls Tryz.prog 177 #[.agg (Zc F),.agg (Zc F)] w' (Rt (.tuple #[.agg (Zc L),.agg (Zc H)]) w')):
  Calls Tryz.prog 208 #[.agg (Zc F),.agg (Zc N)] w fun e w'=>e= .returned (.bool true)/\Below w.heap.size w w':=by
 go_enter func208,ntmps208
 iterate 2 go_step
 apply Za [] [_,_,_] trivial List.nodup_nil
 ·intro p
  refine Yh 62 _ rfl _ rfl (m_W ?_)
  refine Yh 62 _ rfl _ rfl (m_W ?_)
  refine m_V (.bool false) (fun _=>rfl) ?_;refine Zd ?_;intro w2 hkw hrw hnew hdis
  have n2:=hnew 0 rfl
  have n3:=hnew 1 rfl
  have zr2:Row w2 (p 0) (Zc F) 62:=hrw 1 (62,Zc F) rfl
  have zr3:Row w2 (p 1) (Zc N) 62:=hrw 3 (62,Zc N) rfl
  have sb:=k_b hkw
  clear hkw hrw hnew hdis n2 n3
  generalize p 0=g2 at*
  generalize p 1=g3 at*
  have r2:=zr2
  clear zr2
  have r3:=zr3
  clear zr3
  iterate 3 go_step
  apply Za [] [_,_,_,_,_,_,_,_,_,_] trivial List.nodup_nil
  ·intro p;refine m_L r2 ?_;refine m_L r2 ?_;refine m_C 177 func177 #[.agg (Zc F),.agg (Zc F)] hmu ?_;refine m_n ?_;refine m_W ?_;refine m_n ?_;refine m_W ?_;refine m_p 13 L ?_;simp only[Act.put];refine m_p 15 H ?_;simp only[Act.put];refine Zd ?_;intro w3 hkw hrw hnew hdis
   have zr5:Row w3 (p 6) (Zc L) 62:=hrw 13 (62,Zc L) rfl
   have zr6:Row w3 (p 7) (Zc H) 62:=hrw 15 (62,Zc H) rfl
   replace r3:=hkw.ro r3;replace sb:=kk sb hkw;clear hkw hrw hnew hdis
   generalize p 6=g5 at*
   generalize p 7=g6 at*
   clear zr5
   have r6:=zr6
   clear zr6
   iterate 3 go_step
   refine Zq ?_
   refine YZ (by rfl) 62 _ rfl _ rfl r6 4 _ underlying62 Zb (q_W ?_)
   refine q_V _ (ZI 62 rfl _ Zw) ?_;refine q_V (.bool true) (fun w'=>(Z3 _ _ _ rfl H 0 rfl rfl w').trans (by rw[hb])) ?_;refine q_P true (.bool true) ?_;intro w4 hqb;replace sb:=b_o sb hqb;clear hqb
   go_wp2
   go_ret
   exact⟨rfl,sb⟩
  ·rfl
 ·rfl
theorem Hs (F N L H:Nat)(z:Int)(w:World)(hb:(!decide (H%2^256=0%2^256))=false)
  (hmu: ∀w',Calls Tryz.prog 177 #[.agg (Zc F),.agg (Zc F)] w' (Rt (.tuple #[.agg (Zc L),.agg (Zc H)]) w'))
  (hcm: ∀w',Calls Tryz.prog 134 #[.agg (Zc L),.agg (Zc N)] w' (Rt (.int .i64 z) w')):
  Calls Tryz.prog 208 #[.agg (Zc F),.agg (Zc N)] w fun e w'=>e= .returned (.bool (decide (0<z)))/\Below w.heap.size w w':=by
 go_enter func208,ntmps208
 iterate 2 go_step
 apply Za [] [_,_,_] trivial List.nodup_nil
 ·intro p
  refine Yh 62 _ rfl _ rfl (m_W ?_)
  refine Yh 62 _ rfl _ rfl (m_W ?_)
  refine m_V (.bool false) (fun _=>rfl) ?_;refine Zd ?_;intro w2 hkw hrw hnew hdis
  have n2:=hnew 0 rfl
  have n3:=hnew 1 rfl
  have zr2:Row w2 (p 0) (Zc F) 62:=hrw 1 (62,Zc F) rfl
  have zr3:Row w2 (p 1) (Zc N) 62:=hrw 3 (62,Zc N) rfl
  have sb:=k_b hkw
  clear hkw hrw hnew hdis n2 n3
  generalize p 0=g2 at*
  generalize p 1=g3 at*
  have r2:=zr2
  clear zr2
  have r3:=zr3
  clear zr3
  iterate 3 go_step
  apply Za [] [_,_,_,_,_,_,_,_,_,_] trivial List.nodup_nil
  ·intro p;refine m_L r2 ?_;refine m_L r2 ?_;refine m_C 177 func177 #[.agg (Zc F),.agg (Zc F)] hmu ?_;refine m_n ?_;refine m_W ?_;refine m_n ?_;refine m_W ?_;refine m_p 13 L ?_;simp only[Act.put];refine m_p 15 H ?_;simp only[Act.put];refine Zd ?_;intro w3 hkw hrw hnew hdis
   have zr5:Row w3 (p 6) (Zc L) 62:=hrw 13 (62,Zc L) rfl
   have zr6:Row w3 (p 7) (Zc H) 62:=hrw 15 (62,Zc H) rfl
   replace r3:=hkw.ro r3;replace sb:=kk sb hkw;clear hkw hrw hnew hdis
   generalize p 6=g5 at*
   generalize p 7=g6 at*
   have r5:=zr5
   clear zr5
   have r6:=zr6
   clear zr6
   iterate 3 go_step
   refine Zq ?_
   refine YZ (by rfl) 62 _ rfl _ rfl r6 4 _ underlying62 Zb (q_W ?_)
   refine q_V _ (ZI 62 rfl _ Zw) ?_;refine q_V (.bool false) (fun w'=>(Z3 _ _ _ rfl H 0 rfl rfl w').trans (by rw[hb])) ?_
   refine YZ (by rfl) 62 _ rfl _ rfl r5 4 _ underlying62 Zb (q_W ?_)
   refine YZ (by rfl) 62 _ rfl _ rfl r3 4 _ underlying62 Zb (q_W ?_)
   refine q_c 134 func134 #[.agg (Zc L),.agg (Zc N)] hcm ?_;refine q_W ?_;refine q_V _ (Yd _ _ _ _ rfl z 0 rfl rfl _ rfl) ?_
   refine SU false (v:=.bool (decide (0<z))) (by rfl) rfl rfl rfl (q_W ?_)
   intro w4 hqb;replace sb:=b_o sb hqb;clear hqb
   go_wp2
   go_ret
   exact⟨rfl,sb⟩
  ·rfl
 ·rfl
theorem Ht (F N:Nat)(w:World)(hF:F<2^256)(hN:N<2^256):
  Calls Tryz.prog 208 #[.agg (Zc F),.agg (Zc N)] w fun e w'=>e= .returned (.bool (decide (N<F*F)))/\Below w.heap.size w w':=by
 have hFF:F*F/2^256<2^256:=by
  rw[Nat.div_lt_iff_lt_mul (Nat.two_pow_pos _)]
  exact Nat.mul_lt_mul'' hF hF
 by_cases h:F*F<2^256
 ·have h0:F*F/2^256=0:=Nat.div_eq_of_lt h
  have:=Hs F N (F*F) 0 (Vq (F*F) N) w (QC 0) (fun w'=>h0▸UO F F w' hF hF) (fun w'=>Wh (F*F) N w' h hN)
  rw[Km]at this
  exact this
 ·rw[decide_eq_true (show N<F*F by omega)]
  refine Kn F N (F*F) (F*F/2^256) w (DV _ 0 hFF (Nat.two_pow_pos _) ?_) (fun w'=>UO F F w' hF hF)
  intro h0
  have:=(Nat.div_eq_zero_iff_lt (Nat.two_pow_pos 256)).1 h0
  exact h this
theorem Ko (N F L K R:Nat)(er lz:Int)(RG:Array Value)(w:World)(he:er=0)(hr:(!decide (R%2^256=0%2^256))=false)
  (hnew: ∀w',Calls Tryz.prog 72 #[.agg (Zc N)] w' fun e w2=> ∃g,e= .returned (.tuple #[.pointer (some ⟨g,0,none⟩),.int .i64 0])/\w'.heap.size<=g/\Row w2 g RG 177/\Below w'.heap.size w' w2)
  (hof: ∀w',Calls Tryz.prog 74 #[.int .i64 1] w' (Rt (.agg (Zc 1)) w'))
  (hsu: ∀w',Calls Tryz.prog 174 #[.agg (Zc N),.agg (Zc 1)] w' (Rt (.tuple #[.agg (Zc L),.int .i64 lz]) w'))
  (hdi: ∀w',Calls Tryz.prog 207 #[.agg (Zc L),.agg (Zc F)] w' (Rt (.tuple #[.agg (Zc K),.agg (Zc R),.int .i64 er]) w'))
  (hsq: ∀w',Calls Tryz.prog 208 #[.agg (Zc F),.agg (Zc N)] w' (Rt (.bool true) w')):
  Calls Tryz.prog 172 #[.agg (Zc N),.agg (Zc F)] w fun e w'=>(∃g,e= .returned (.tuple #[.agg (clC (some ⟨g,0,none⟩) F K),.bool true])/\w.heap.size<=g/\Row w' g RG 177)/\Below w.heap.size w w':=by
 go_enter func172,ntmps172
 iterate 2 go_step
 apply Za [] [_,_,_,_] trivial List.nodup_nil
 ·intro p
  refine Yh 62 _ rfl _ rfl (m_W ?_)
  refine Yh 62 _ rfl _ rfl (m_W ?_)
  refine Xe 202 rfl _ Kj (m_W ?_)
  refine m_V (.bool false) (fun _=>rfl) ?_;refine Zd ?_;intro w2 hkw hrw hnew hdis
  have n2:=hnew 0 rfl
  have n3:=hnew 1 rfl
  have n4:=hnew 2 rfl
  have zr2:Row w2 (p 0) (Zc N) 62:=hrw 1 (62,Zc N) rfl
  have zr3:Row w2 (p 1) (Zc F) 62:=hrw 3 (62,Zc F) rfl
  have zr4:Row w2 (p 2) (clC none 0 0) 202:=hrw 5 (202,clC none 0 0) rfl
  have d3x4:=hdis 1 2 (by omega) rfl rfl
  have sb:=k_b hkw
  have b4:w.heap.size<=p 2:=n4
  clear hkw hrw hnew hdis n2 n3 n4
  generalize p 0=g2 at*
  generalize p 1=g3 at*
  generalize p 2=g4 at*
  have r2:=zr2
  clear zr2
  have r3:=zr3
  clear zr3
  have r4:=zr4
  clear zr4
  go_wp2_with (first
   |refine Zf rfl 62 _ rfl _ rfl r2 4 _ underlying62 (by exact Zb) ?_)
  refine(hnew _).mono ?_
  rintro _ wb ⟨g6,rfl,hg6,r6,bb⟩
  replace r2:=r2.belowAll bb;replace r3:=r3.belowAll bb
  have d4x6:=l_l r4.lt hg6
  replace r4:=r4.belowAll bb
  have b6:w.heap.size<=g6:=Nat.le_trans sb.size hg6
  replace sb:=b_o sb bb;clear bb hg6 hnew
  dsimp only
  iterate 21 go_step
  apply Za [] [_,_] trivial List.nodup_nil
  ·intro p;refine m_W ?_;refine m_V _ (ZU .i64 _ _ _ _ rfl 0 0 rfl rfl false rfl) ?_;refine Zd ?_;intro w4 hkw hrw hnew hdis;replace r2:=hkw.ro r2;replace r3:=hkw.ro r3;replace r4:=hkw.ro r4;replace r6:=hkw.ro r6;replace sb:=kk sb hkw;clear hkw hrw hnew hdis
   iterate 7 go_step
   apply Zg (by kernel_rfl) [] [_,_,_,_,_,_,_,_,_] trivial List.nodup_nil
   ·intro p;refine m_L r2 ?_;refine m_C 74 func74 #[.int .i64 1] hof ?_;refine m_C 174 func174 #[.agg (Zc N),.agg (Zc 1)] hsu ?_;refine m_n ?_;refine m_W ?_;refine m_p 13 L ?_;simp only[Act.put];refine m_W ?_;refine Zd ?_;intro w5 hkw hrw hnew hdis
    have zr8:Row w5 (p 6) (Zc L) 62:=hrw 13 (62,Zc L) rfl
    replace r2:=hkw.ro r2;replace r3:=hkw.ro r3;replace r4:=hkw.ro r4;replace r6:=hkw.ro r6;replace sb:=kk sb hkw;clear hkw hrw hnew hdis
    generalize p 6=g8 at*
    have r8:=zr8
    clear zr8
    iterate 3 go_step
    apply Za [] [_,_,_,_,_,_,_,_,_,_,_,_] trivial List.nodup_nil
    ·intro p;refine m_L r8 ?_;refine m_L r3 ?_;refine m_C 207 func207 #[.agg (Zc L),.agg (Zc F)] hdi ?_;refine m_n ?_;refine m_W ?_;refine m_n ?_;refine m_W ?_;refine m_p 15 K ?_;simp only[Act.put];refine m_p 17 R ?_;simp only[Act.put];refine m_W ?_;refine Zd ?_;intro w6 hkw hrw hnew hdis
     have n10:=hnew 7 rfl
     have n11:=hnew 8 rfl
     have zr10:Row w6 (p 7) (Zc K) 62:=hrw 15 (62,Zc K) rfl
     have zr11:Row w6 (p 8) (Zc R) 62:=hrw 17 (62,Zc R) rfl
     have d4x10:=l_l r4.lt n10
     replace r2:=hkw.ro r2;replace r3:=hkw.ro r3;replace r4:=hkw.ro r4;replace r6:=hkw.ro r6;replace sb:=kk sb hkw;clear hkw hrw hnew hdis n10 n11
     generalize p 7=g10 at*
     generalize p 8=g11 at*
     have r10:=zr10
     clear zr10
     have r11:=zr11
     clear zr11
     iterate 4 go_step
     refine Zq ?_;refine q_W ?_;refine q_V _ (ZU .i64 _ _ _ _ rfl er 0 rfl rfl false (by rw[decide_eq_true he];rfl)) ?_
     refine YZ (by rfl) 62 _ rfl _ rfl r11 4 _ underlying62 Zb (q_W ?_)
     refine q_V _ (ZI 62 rfl _ Zw) ?_;refine q_V (.bool false) (fun w'=>(Z3 _ _ _ rfl R 0 rfl rfl w').trans (by rw[hr])) ?_;refine q_P false (.bool false) ?_
     refine YZ (by rfl) 62 _ rfl _ rfl r3 4 _ underlying62 Zb (q_W ?_)
     refine YZ (by rfl) 62 _ rfl _ rfl r2 4 _ underlying62 Zb (q_W ?_)
     refine q_c 208 func208 #[.agg (Zc F),.agg (Zc N)] hsq ?_;refine q_W ?_;refine q_V _ (Zz _ _ rfl true rfl) ?_;refine q_P false (.bool false) ?_;intro w7 hqb;replace r3:=r3.belowAll hqb;replace r4:=r4.belowAll hqb;replace r6:=r6.belowAll hqb;replace r10:=r10.belowAll hqb;replace sb:=b_o sb hqb;clear hqb
     iterate 7 go_step
     apply Za [(g4,202,clC none 0 0)] [_,_,_,_,_,_] ⟨r4,trivial⟩ (by simp<;>omega)
     ·intro p;refine m_W ?_;refine m_L r3 ?_;refine m_L r10 ?_;refine m_V _ (Ml (some ⟨g6,0,none⟩) F K rfl rfl rfl rfl) ?_;refine YE 0 202 _ _ rfl rfl rfl (clC (some ⟨g6,0,none⟩) F K) rfl (by exact Rj) (by rfl) (Ed _ _ _) ?_;simp only[Act.put];refine m_V (.bool true) (fun _=>rfl) ?_;refine Zd ?_;intro w8 hkw hrw hnew hdis
      have zr4:Row w8 (g4) (clC (some ⟨g6,0,none⟩) F K) 202:=hrw 0 (202,clC (some ⟨g6,0,none⟩) F K) rfl
      replace r6:=hkw.ro r6;replace sb:=kk sb hkw;clear hkw hrw hnew hdis r4
      have r4:=zr4
      clear zr4
      go_wp2
      exact Kl rfl _ rfl r4 _ underlying202 (by exact Rj) rfl _ rfl ⟨⟨g6,rfl,b6,r6⟩,sb⟩
     ·rfl
    ·rfl
   ·kernel_rfl
  ·rfl
 ·rfl
theorem PV (N F:Nat)(hN:N<2^256)(hF:F<2^256)(h1:1<=N):
  (∀w',Calls Tryz.prog 74 #[.int .i64 1] w' (Rt (.agg (Zc 1)) w'))/\
  (∀w',Calls Tryz.prog 174 #[.agg (Zc N),.agg (Zc 1)] w' (Rt (.tuple #[.agg (Zc (N-1)),.int .i64 (bN N 1 256:Nat)]) w'))/\
  (∀w',Calls Tryz.prog 207 #[.agg (Zc (N-1)),.agg (Zc F)] w' (Rt (.tuple #[.agg (Zc (At (N-1) F)),.agg (Zc (RW (N-1) F)),.int .i64 (Su F)]) w')):=
 ⟨fun w'=>Xk 1 w' (by decide),fun w'=>SB N h1▸XX N 1 w' (by decide),fun w'=>Hq (N-1) F w' (by omega) hF⟩
theorem SC {N F:Nat}(h:DS N F=true):N%2=1/\N≠1/\F≠0/\(N-1)%F=0/\N<F*F:=by
 unfold DS at h
 simpa only[Bool.and_eq_true,decide_eq_true_iff]using h
theorem Kp (N F:Nat)(w:World)(hN:N<2^256)(hF:F<2^256)(h:DS N F=true):
  Calls Tryz.prog 172 #[.agg (Zc N),.agg (Zc F)] w fun e w'=>(∃g,e= .returned (.tuple #[.agg (clC (some ⟨g,0,none⟩) F ((N-1)/F)),.bool true])/\w.heap.size<=g/\Row w' g (rgC N (miL N) (WS N) (sqL N)) 177)/\Below w.heap.size w w':=by
 obtain⟨h1,h2,h3,h4,h5⟩:=SC h
 obtain⟨c1,c2,c3⟩:=PV N F hN hF (by omega)
 rw[show At (N-1) F=(N-1)/F from if_neg h3,show RW (N-1) F=(N-1)%F from if_neg h3]at c3
 refine Ko N F (N-1) ((N-1)/F) _ _ _ _ w (if_neg h3) (by rw[h4];exact QC 0) (fun w'=>PM N w' h1 (by omega) hN) c1 c2 c3 fun w'=>?_
 have hs:=Ht F N w' hF hN
 rw[decide_eq_true h5]at hs
 exact hs
theorem Kq (N F K A X Y L G:Nat)(z:Int)(g:Nat)(RG:Array Value)(w:World)(r0:Row w g RG 177)(lz:Int)(B:Bool)(hy:Y=1)(hB:decide (G%2^256=1%2^256)=B)
  (ho1: ∀w',Calls Tryz.prog 74 #[.int .i64 1] w' (Rt (.agg (Zc 1)) w'))
  (hoz: ∀w',Calls Tryz.prog 74 #[.int .i64 z] w' (Rt (.agg (Zc A)) w'))
  (hx1: ∀w',Row w' g RG 177->Calls Tryz.prog 73 #[.pointer (some ⟨g,0,none⟩),.agg (Zc A),.agg (Zc K)] w' (Rt (.agg (Zc X)) w'))
  (hx2: ∀w',Row w' g RG 177->Calls Tryz.prog 73 #[.pointer (some ⟨g,0,none⟩),.agg (Zc X),.agg (Zc F)] w' (Rt (.agg (Zc Y)) w'))
  (hsu: ∀w',Calls Tryz.prog 174 #[.agg (Zc X),.agg (Zc 1)] w' (Rt (.tuple #[.agg (Zc L),.int .i64 lz]) w'))
  (hM: ∀w',Row w' g RG 177->Calls Tryz.prog 210 #[.pointer (some ⟨g,0,none⟩)] w' (Rt (.agg (Zc N)) w'))
  (hgc: ∀w',Calls Tryz.prog 209 #[.agg (Zc N),.agg (Zc L)] w' (Rt (.agg (Zc G)) w')):
  Calls Tryz.prog 173 #[.agg (clC (some ⟨g,0,none⟩) F K),.int .i64 z] w fun e w'=>e= .returned (.bool B)/\Below w.heap.size w w':=by
 go_enter func173,ntmps173
 iterate 2 go_step
 apply Za [] [_,_] trivial List.nodup_nil
 ·intro p
  refine Yh 202 _ rfl _ rfl (m_W ?_)
  refine m_V (.bool false) (fun _=>rfl) ?_;refine Zd ?_;intro w2 hkw hrw hnew hdis
  have n2:=hnew 0 rfl
  have zr2:Row w2 (p 0) (clC (some ⟨g,0,none⟩) F K) 202:=hrw 1 (202,clC (some ⟨g,0,none⟩) F K) rfl
  replace r0:=hkw.ro r0
  have sb:=k_b hkw
  clear hkw hrw hnew hdis n2
  generalize p 0=g2 at*
  have r2:=zr2
  clear zr2
  iterate 3 go_step
  apply Za [] [_,_,_] trivial List.nodup_nil
  ·intro p;refine m_C 74 func74 #[.int .i64 1] ho1 ?_;refine m_n ?_;refine m_W ?_;refine m_p 3 1 ?_;simp only[Act.put];refine Zd ?_;intro w3 hkw hrw hnew hdis
   have zr5:Row w3 (p 1) (Zc 1) 62:=hrw 3 (62,Zc 1) rfl
   replace r0:=hkw.ro r0;replace r2:=hkw.ro r2;replace sb:=kk sb hkw;clear hkw hrw hnew hdis
   generalize p 1=g5 at*
   have r5:=zr5
   clear zr5
   iterate 3 go_step
   apply Zg (by kernel_rfl) [] [_,_,_,_,_,_,_,_,_] trivial List.nodup_nil
   ·intro p;refine m_V _ (Zi 202 _ 0 rfl g2 0 rfl _ underlying202 _ rfl 0 sizeOf73) ?_;refine m_D 0 r2 (.pointer (some ⟨g,0,none⟩)) rfl isAgg73 ?_;refine m_C 74 func74 #[.int .i64 z] hoz ?_;refine m_V _ (Zi 202 _ 2 rfl g2 0 rfl _ underlying202 _ rfl 3 sizeOf62) ?_
    refine Xu 62 _ rfl _ (5) rfl r2 (by simp<;>omega) (Zc K) (xE _ F K) _ underlying62 rfl Zb (m_W ?_)
    refine m_K 73 func73 #[.pointer (some ⟨g,0,none⟩),.agg (Zc A),.agg (Zc K)] (fun w' hk=>hx1 w' (hk.row r0 (by simp))) ?_;refine m_n ?_;refine m_W ?_;refine m_p 15 X ?_;simp only[Act.put];refine Zd ?_;intro w4 hkw hrw hnew hdis
    have zr6:Row w4 (p 7) (Zc X) 62:=hrw 15 (62,Zc X) rfl
    replace r0:=hkw.ro r0;replace r2:=hkw.ro r2;replace r5:=hkw.ro r5;replace sb:=kk sb hkw;clear hkw hrw hnew hdis
    generalize p 7=g6 at*
    have r6:=zr6
    clear zr6
    iterate 4 go_step
    refine Zv (by kernel_rfl) (by kernel_rfl) ?_;refine q_V _ (Zi 202 _ 0 rfl g2 0 rfl _ underlying202 _ rfl 0 sizeOf73) ?_
    refine Zy (by rfl) 73 _ rfl _ (0) rfl r2 (.pointer (some ⟨g,0,none⟩)) rfl isAgg73 (q_W ?_)
    refine YZ (by rfl) 62 _ rfl _ rfl r6 4 _ underlying62 Zb (q_W ?_)
    refine q_V _ (Zi 202 _ 1 rfl g2 0 rfl _ underlying202 _ rfl 3 sizeOf62) ?_
    refine YJ (by rfl) 62 _ rfl _ (1) rfl r2 (Zc F) (xD _ F K) _ underlying62 rfl Zb (q_W ?_)
    refine q_k 73 func73 #[.pointer (some ⟨g,0,none⟩),.agg (Zc X),.agg (Zc F)] (fun w' hb=>hx2 w' (r0.belowAll hb)) ?_;refine q_W ?_
    refine YZ (by rfl) 62 _ rfl _ rfl r5 4 _ underlying62 Zb (q_W ?_)
    refine q_V (.bool false) (fun w'=>(Z3 _ _ _ rfl Y 1 rfl rfl w').trans (by rw[hy,QC])) ?_;intro w5 hqb;replace r0:=r0.belowAll hqb;replace r2:=r2.belowAll hqb;replace r5:=r5.belowAll hqb;replace r6:=r6.belowAll hqb;replace sb:=b_o sb hqb;clear hqb
    iterate 7 go_step
    apply Za [] [_,_,_,_,_,_,_,_,_] trivial List.nodup_nil
    ·intro p;refine m_L r6 ?_;refine m_L r5 ?_;refine m_C 174 func174 #[.agg (Zc X),.agg (Zc 1)] hsu ?_;refine m_n ?_;refine m_W ?_;refine m_p 13 L ?_;simp only[Act.put];refine m_W ?_;refine Zd ?_;intro w6 hkw hrw hnew hdis
     have zr7:Row w6 (p 6) (Zc L) 62:=hrw 13 (62,Zc L) rfl
     replace r0:=hkw.ro r0;replace r2:=hkw.ro r2;replace r5:=hkw.ro r5;replace sb:=kk sb hkw;clear hkw hrw hnew hdis
     generalize p 6=g7 at*
     have r7:=zr7
     clear zr7
     iterate 3 go_step
     refine Zv (by kernel_rfl) (by kernel_rfl) ?_;refine q_V _ (Zi 202 _ 0 rfl g2 0 rfl _ underlying202 _ rfl 0 sizeOf73) ?_
     refine Zy (by rfl) 73 _ rfl _ (0) rfl r2 (.pointer (some ⟨g,0,none⟩)) rfl isAgg73 (q_W ?_)
     refine q_k 210 func210 #[.pointer (some ⟨g,0,none⟩)] (fun w' hb=>hM w' (r0.belowAll hb)) ?_;refine q_W ?_
     refine YZ (by rfl) 62 _ rfl _ rfl r7 4 _ underlying62 Zb (q_W ?_)
     refine q_c 209 func209 #[.agg (Zc N),.agg (Zc L)] hgc ?_;refine q_W ?_
     refine YZ (by rfl) 62 _ rfl _ rfl r5 4 _ underlying62 Zb (q_W ?_)
     refine q_V (.bool B) (fun w'=>(ZC _ _ _ rfl G 1 rfl rfl w').trans (by rw[hB])) ?_;intro w7 hqb;replace sb:=b_o sb hqb;clear hqb
     go_wp2
     go_ret
     exact⟨rfl,sb⟩
    ·rfl
   ·kernel_rfl
  ·rfl
 ·rfl
theorem Kr (N F K:Nat)(z:Int)(B:Bool)(RG:Array Value)(w:World)(h1:2<=z)(h2:z<=65535)
  (hcl: ∀w',Calls Tryz.prog 172 #[.agg (Zc N),.agg (Zc F)] w' fun e w2=>(∃g,e= .returned (.tuple #[.agg (clC (some ⟨g,0,none⟩) F K),.bool true])/\w'.heap.size<=g/\Row w2 g RG 177)/\Below w'.heap.size w' w2)
  (hsh: ∀g w',Row w' g RG 177->Calls Tryz.prog 173 #[.agg (clC (some ⟨g,0,none⟩) F K),.int .i64 z] w' (Rt (.bool B) w')):
  Calls Tryz.prog 133 #[.agg (Zc N),.agg (Zc F),.int .i64 z] w fun e w'=>e= .returned (.bool B)/\Below w.heap.size w w':=by
 go_enter func133,ntmps133
 iterate 2 go_step
 apply Za [] [_,_,_] trivial List.nodup_nil
 ·intro p
  refine Yh 62 _ rfl _ rfl (m_W ?_)
  refine Yh 62 _ rfl _ rfl (m_W ?_)
  refine m_V (.bool false) (fun _=>rfl) ?_;refine Zd ?_;intro w2 hkw hrw hnew hdis
  have n3:=hnew 0 rfl
  have n4:=hnew 1 rfl
  have zr3:Row w2 (p 0) (Zc N) 62:=hrw 1 (62,Zc N) rfl
  have zr4:Row w2 (p 1) (Zc F) 62:=hrw 3 (62,Zc F) rfl
  have sb:=k_b hkw
  clear hkw hrw hnew hdis n3 n4
  generalize p 0=g3 at*
  generalize p 1=g4 at*
  have r3:=zr3
  clear zr3
  have r4:=zr4
  clear zr4
  iterate 4 go_step
  refine Zq ?_;refine q_W ?_;refine q_V _ (Xf z 2) ?_;refine q_V _ (Qz z 65535) ?_;refine q_P false (.bool false) ?_;intro w3 hqb;replace r3:=r3.belowAll hqb;replace r4:=r4.belowAll hqb;replace sb:=b_o sb hqb;clear hqb
  go_wp2_with (first
   |refine Zf rfl 62 _ rfl _ rfl r3 4 _ underlying62 (by exact Zb) ?_
   |refine Zf rfl 62 _ rfl _ rfl r4 4 _ underlying62 (by exact Zb) ?_)
  refine(hcl _).mono ?_
  rintro _ wb ⟨⟨g9,rfl,hg9,r9⟩,bb⟩
  replace sb:=b_o sb bb;clear bb hg9 hcl r3 r4
  dsimp only
  (repeat((fail_if_success (with_reducible show Code.wp _ (Code.region _ _ _) _ _ _));first|(refine Ze rfl 202 rfl _ Kj ?_;simp only[Act.put,List.setIfInBounds_toArray,List.set_cons_zero,List.set_cons_succ])|(refine ZE rfl 202 _ _ rfl _ rfl rfl _ _ (by exact Rj) (by rfl) (Ed _ _ _) ?_;simp only[Act.put])|go_step))
  have r7:Row (wb.alloc (.cells (clC (some ⟨g9,0,none⟩) F K) 202)) wb.heap.size (clC (some ⟨g9,0,none⟩) F K) 202:=Row.here rfl
  replace r9:=r9.alloc (.cells (clC (some ⟨g9,0,none⟩) F K) 202)
  replace sb:=sb.alloc sb.size (.cells (clC (some ⟨g9,0,none⟩) F K) 202)
  generalize wb.alloc (.cells (clC (some ⟨g9,0,none⟩) F K) 202)=w4 at*
  generalize wb.heap.size=g7 at*
  refine Zq ?_;refine q_W ?_
  refine YJ (by rfl) 202 _ rfl _ (0) rfl r7 (clC (some ⟨g9,0,none⟩) F K) (Yy _) _ underlying202 rfl Rj (q_W ?_)
  refine q_k 173 func173 #[.agg (clC (some ⟨g9,0,none⟩) F K),.int .i64 z] (fun w' hb=>hsh g9 w' (r9.belowAll hb)) ?_;refine q_W ?_;refine q_P true (.bool B) ?_;intro w5 hqb;replace sb:=b_o sb hqb;clear hqb
  go_wp2
  go_ret
  exact⟨rfl,sb⟩
 ·rfl
def wtF (sh:Nat->Bool):Nat->Nat->Nat
 |0,_=>0
 |g+1,k=>if sh (2+k)=true then 2+k else wtF sh g (k+1)
def witN (N F:Nat):Nat:=if DS N F=true then wtF (shN N F) 99 0 else 0
def errW (W:Nat):Int:=if W=0 then 3 else 0
def lkC (N:Nat)(z:Int):Array Value:=#[.int .u64 (lm N 0),.int .u64 (lm N 1),.int .u64 (lm N 2),.int .u64 (lm N 3),.int .i64 z]
theorem xr (N:Nat)(z:Int): ∀j v,(Zc N).toList[j]?=some v->(lkC N z)[0+j]?=some v:=UI rfl rfl rfl rfl
theorem DX:(Tryz.prog.info? 126).map (fun i=>(i.zero,i.size))=some (some (.agg (lkC 0 0)),5):=by kernel_rfl
theorem DY:(Tryz.prog.info? 126).map (·.size)=some 5:=(zero_of_info DX).2
theorem WE:Tryz.prog.underlying 59=some (.slice (Tryz.prog.elem 59)):=by kernel_rfl
structure LinksAt (w:World)(ab:Option Addr)(n:Nat)(N:Nat->Nat)(A:Nat->Int)(gb ob:Nat)(bcs:Array Value)(tb:TypeId):Prop where
 at':n=0∨(ab=some ⟨gb,ob,none⟩/\XT w gb bcs tb/\ ∀i,i<n-> ∀j v,(lkC (N i) (A i)).toList[j]?=some v->bcs[ob+i*5+j]?=some v)
 lt: ∀i,i<n->N i<2^256
theorem LinksAt.below {w w2:World}{ab:Option Addr}{n:Nat}{N:Nat->Nat}{A:Nat->Int}{gb ob:Nat}{bcs:Array Value}{tb:TypeId}(h:LinksAt w ab n N A gb ob bcs tb)(hb:Below w.heap.size w w2):LinksAt w2 ab n N A gb ob bcs tb:=
 ⟨h.at'.imp id fun⟨h1,h2,h3⟩=>⟨h1,h2.belowAll hb,h3⟩,h.lt⟩
theorem Uz {bcs:Array Value}{off N:Nat}{z:Int}(h: ∀j v,(lkC N z).toList[j]?=some v->bcs[off+j]?=some v): ∀j v,(Zc N).toList[j]?=some v->bcs[off+j]?=some v:=fun j v hv=>by
 have:=xr N z j v hv
 rw[Nat.zero_add,<-Array.getElem?_toList]at this
 exact h j v this
theorem DZ {bcs:Array Value}{off N:Nat}{z:Int}(h: ∀j v,(lkC N z).toList[j]?=some v->bcs[off+j]?=some v):bcs[off+4]?=some (.int .i64 z):=h 4 _ rfl
theorem Mm (N:Nat)(z I:Int)(w:World) 
  (hin: ∀w',Calls Tryz.prog 170 #[.agg (Zc N)] w' (Rt (.tuple #[.int .i64 I,.bool true]) w'))
  (hsm: ∀w',Calls Tryz.prog 171 #[.int .i64 I] w' (Rt (.bool true) w')):
  Calls Tryz.prog 132 #[.agg (lkC N z)] w fun e w'=>e= .returned (.bool (decide (z=0)))/\Below w.heap.size w w':=by
 go_enter func132,ntmps132
 iterate 2 go_step
 apply Za [] [_,_] trivial List.nodup_nil
 ·intro p
  refine Yh 126 _ rfl _ rfl (m_W ?_)
  refine m_V (.bool false) (fun _=>rfl) ?_;refine Zd ?_;intro w2 hkw hrw hnew hdis
  have n1:=hnew 0 rfl
  have zr1:Row w2 (p 0) (lkC N z) 126:=hrw 1 (126,lkC N z) rfl
  have sb:=k_b hkw
  clear hkw hrw hnew hdis n1
  generalize p 0=g1 at*
  have r1:=zr1
  clear zr1
  iterate 3 go_step
  apply Za [] [_,_,_,_,_,_,_,_] trivial List.nodup_nil
  ·intro p;refine m_V _ (Zi 126 _ 0 rfl g1 0 rfl _ underlying126 _ rfl 3 sizeOf62) ?_
   refine Xu 62 _ rfl _ (0) rfl r1 (by simp<;>omega) (Zc N) (xr N z) _ underlying62 rfl Zb (m_W ?_)
   refine m_C 170 func170 #[.agg (Zc N)] hin ?_;refine Zd ?_;intro w3 hkw hrw hnew hdis;replace r1:=hkw.ro r1;replace sb:=kk sb hkw;clear hkw hrw hnew hdis
   iterate 3 go_step
   refine Zq ?_;refine q_W ?_;refine q_c 171 func171 #[.int .i64 I] hsm ?_;refine q_W ?_;refine q_P true (.bool true) ?_;refine q_V _ (Zi 126 _ 1 rfl g1 0 rfl _ underlying126 _ rfl 0 sizeOf3) ?_
   refine Zy (by rfl) 3 _ rfl _ (4) rfl r1 (.int .i64 z) rfl isAgg3 (q_W ?_)
   refine q_V _ (ZG .i64 _ _ _ _ rfl z 0 rfl rfl _ rfl) ?_
   refine SU true (v:=.bool (decide (z=0))) (by rfl) rfl rfl rfl (q_W ?_)
   intro w4 hqb;replace sb:=b_o sb hqb;clear hqb
   go_wp2
   go_ret
   exact⟨rfl,sb⟩
  ·rfl
 ·rfl
def errC (b:Bool):Int:=if b=true then 0 else 4
theorem Hu (N F K a g:Nat)(w:World)(hN:N<2^256)(ho:N%2=1)(h2:2<=N)(hF:F<2^256)(hF0:F≠0)(hK:K<2^256)(ha:a<9223372036854775808)(r0:Row w g (rgC N (miL N) (WS N) (sqL N)) 177)(hy:(a^K%N)^F%N=1)(hg:Nat.gcd N (a^K%N-1)=1):
  Calls Tryz.prog 173 #[.agg (clC (some ⟨g,0,none⟩) F K),.int .i64 a] w fun e w'=>e= .returned (.bool true)/\Below w.heap.size w w':=by
 have lm': ∀z,z%N<2^256:=fun z=>Nat.lt_trans (Nat.mod_lt _ (by omega)) hN
 have o1:=fun w'=>Xk 1 w' (by decide)
 have oz:=fun w'=>Xk (a:Int) w' (by omega)
 rw[Int.toNat_natCast]at oz
 have hX:1<=a^K%N:=by
  rcases Nat.eq_zero_or_pos (a^K%N)with h0|h0
  ·rw[h0,Nat.zero_pow (by omega),Nat.zero_mod]at hy;cases hy
  ·exact h0
 refine Kq N F K a (a^K%N) _ (a^K%N-1) 1 a g _ w r0 (bN (a^K%N) 1 256:Nat) _ hy rfl o1 oz (fun w' r=>PT a K N g w' (by omega) hK hN ho h2 r) (fun w' r=>PT (a^K%N) F N g w' (lm' _) hF hN ho h2 r)
  (fun w'=>SB _ hX▸XX _ 1 w' (by decide)) (fun w' r=>LV N _ _ _ g w' (by omega) hN r) (fun w'=>?_)
 have:=I6 N (a^K%N-1) w' hN (Nat.lt_of_le_of_lt (Nat.sub_le _ _) (lm' _))
 rw[hg]at this
 exact this
theorem D8 (N F:Nat)(z:Int)(w:World)(hN:N<2^256)(hF:F<2^256)(h:stN N F z=true):
  Calls Tryz.prog 133 #[.agg (Zc N),.agg (Zc F),.int .i64 z] w fun e w'=>e= .returned (.bool true)/\Below w.heap.size w w':=by
 unfold stN shN at h
 simp only[Bool.and_eq_true,decide_eq_true_iff]at h
 obtain⟨h1,h2,hm,hy,hg⟩:=h
 obtain⟨f1,f2,f3,f4,f5⟩:=SC hm
 obtain⟨a,rfl⟩:=Int.eq_ofNat_of_zero_le (show 0<=z by omega)
 rw[Int.toNat_natCast]at hy hg
 exact Kr N F ((N-1)/F) a _ _ w (by omega) (by omega) (fun w'=>Kp N F w' hN hF hm)
  (fun g w' r=>Hu N F ((N-1)/F) a g w' hN f1 (by omega) hF f3 (Nat.lt_of_le_of_lt (Nat.div_le_self _ _) (by omega)) (by omega) r hy hg)
theorem Ks (N:Nat)(w:World)(hN:N<2^256)(h:smN N=true):
  Calls Tryz.prog 132 #[.agg (lkC N 0)] w fun e w'=>e= .returned (.bool true)/\Below w.heap.size w w':=by
 have h5:N<65536:=by
  unfold smN at h
  simp only[Bool.and_eq_true,decide_eq_true_iff]at h
  omega
 have hin:=fun w'=>IK N w' hN
 rw[(QB N (by omega)).1,(QB N (by omega)).2]at hin
 have hsm:=fun w'=>Kh (N:Int) w'
 rw[DQ,h]at hsm
 exact Mm N 0 N w hin hsm
theorem Kt (n c:Nat)(ab:Option Addr)(N:Nat->Nat)(A:Nat->Int)(gb ob:Nat)(bcs:Array Value)(tb:TypeId)(w:World)(h1:1<=n)(h8:n<=8)(hL:LinksAt w ab n N A gb ob bcs tb)
  (hst0: ∀k,k+1<n->stN (N (k+1)) (N k) (A (k+1))=true)(hbe: ∀w',Calls Tryz.prog 132 #[.agg (lkC (N 0) (A 0))] w' (Rt (.bool true) w')):
  Calls Tryz.prog 69 #[.slice ab n c] w fun e w'=>e= .returned (.int .i64 0)/\Below w.heap.size w w':=by
 have HL:Hid (LinksAt w ab n N A gb ob bcs tb):=hL
 clear hL
 go_enter func69,ntmps69
 iterate 2 go_step
 apply Za [] [_] trivial List.nodup_nil
 ·intro p;refine m_V (.int .i64 0) (fun _=>rfl) ?_;refine Zd ?_;intro w2 hkw hrw hnew hdis
  have sb:=k_b hkw
  clear hkw hrw hnew hdis
  obtain h0|⟨rfl,rB,hat⟩:=(HL.out.below sb).at'
  ·omega
  iterate 4 go_step
  refine Zq ?_;refine q_W ?_;refine q_V _ (n_l (some ⟨gb,ob,none⟩) n c WE) ?_;refine q_V _ (Xf n 1) ?_;refine q_V _ (n_l (some ⟨gb,ob,none⟩) n c WE) ?_;refine q_V _ (Qz n 8) ?_;refine q_P false (.bool false) ?_;refine q_V _ (Zu 59 _ _ rfl gb ob n c rfl 0 rfl (by omega) _ underlying59 5 sizeOf126) ?_
  refine W3 (by rfl) 126 _ rfl _ ((ob+0*5)) rfl rB (lkC (N 0) (A 0)) (hat 0 (by omega)) _ underlying126 rfl DY (q_W ?_)
  refine q_c 132 func132 #[.agg (lkC (N 0) (A 0))] hbe ?_;refine q_W ?_;refine q_V _ (Zz _ _ rfl true rfl) ?_;refine q_P false (.bool false) ?_;intro w3 hqb;replace sb:=b_o sb hqb;clear hqb;clear rB hat hbe
  iterate 8 go_step
  apply Za [] [_,_,_,_] trivial List.nodup_nil
  ·intro p;refine m_W ?_;refine m_V _ (n_l (some ⟨gb,ob,none⟩) n c WE) ?_;refine m_V _ (ZM _ _ _ _ rfl n 1 rfl rfl (by omega) (by omega)) ?_;refine m_V (.int .i64 0) (fun _=>rfl) ?_;refine Zd ?_;intro w3b hkw hrw hnew hdis;replace sb:=kk sb hkw;clear hkw hrw hnew hdis
   go_wp2_with fail
   go_loopg [22] (n-1) (fun g s22 wr=> ∃k:Nat,k+g=n-1/\s22= .int .i64 k/\Below w.heap.size w wr)
   case atStart=>exact⟨0,by omega,rfl,sb⟩
   case round=>
    clear sb
    obtain⟨k,hk,rfl,sb⟩:=hrel
    cases gk with
    |zero=>
     go_step
     apply Za [] [_] trivial List.nodup_nil
     ·intro p;refine m_V _ (Xf k (n-1:Nat)) ?_;refine Zd ?_;intro w4 hkw hrw hnew hdis;replace sb:=kk sb hkw;clear hkw hrw hnew hdis
      go_wp2
      go_ret
      exact⟨rfl,sb⟩
     ·rfl
    |succ g=>
     have hst:=fun w'=>D8 (N (k+1)) (N k) (A (k+1)) w' (HL.out.lt _ (by omega)) (HL.out.lt _ (by omega)) (hst0 k (by omega))
     go_step
     apply Za [] [_] trivial List.nodup_nil
     ·intro p;refine m_V _ (XC k (n-1:Nat)) ?_;refine Zd ?_;intro w4 hkw hrw hnew hdis;replace sb:=kk sb hkw;clear hkw hrw hnew hdis
      iterate 10 go_step
      apply Za [] [_,_] trivial List.nodup_nil
      ·intro p;refine m_W ?_;refine Zd ?_;intro w5 hkw hrw hnew hdis;replace sb:=kk sb hkw;clear hkw hrw hnew hdis
       obtain h0|⟨_,rB,hat⟩:=(HL.out.below sb).at'
       ·omega
       iterate 3 go_step
       refine Zv (by kernel_rfl) (by kernel_rfl) ?_;refine q_W ?_;refine q_V _ (x_a k 1) ?_;refine q_V _ (Zu 59 _ _ rfl gb ob n c rfl (k+1) rfl (by omega) _ underlying59 5 sizeOf126) ?_;refine q_V _ (Zi 126 _ 0 rfl gb (ob+(k+1)*5) rfl _ underlying126 _ rfl 3 sizeOf62) ?_
       refine W3 (by rfl) 62 _ rfl _ ((ob+(k+1)*5)) rfl rB (Zc (N (k+1))) (Uz (hat (k+1) (by omega))) _ underlying62 rfl Zb (q_W ?_)
       refine q_V _ (Zu 59 _ _ rfl gb ob n c rfl (k) rfl (by omega) _ underlying59 5 sizeOf126) ?_;refine q_V _ (Zi 126 _ 0 rfl gb (ob+(k)*5) rfl _ underlying126 _ rfl 3 sizeOf62) ?_
       refine W3 (by rfl) 62 _ rfl _ ((ob+(k)*5)) rfl rB (Zc (N k)) (Uz (hat k (by omega))) _ underlying62 rfl Zb (q_W ?_)
       refine q_V _ (x_a k 1) ?_;refine q_V _ (Zu 59 _ _ rfl gb ob n c rfl (k+1) rfl (by omega) _ underlying59 5 sizeOf126) ?_;refine q_V _ (Zi 126 _ 1 rfl gb (ob+(k+1)*5) rfl _ underlying126 _ rfl 0 sizeOf3) ?_
       refine Z0 (by rfl) 3 _ rfl _ (ob+(k+1)*5+4) rfl rB (.int .i64 (A (k+1))) (DZ (hat (k+1) (by omega))) isAgg3 (q_W ?_)
       refine q_c 133 func133 #[.agg (Zc (N (k+1))),.agg (Zc (N k)),.int .i64 (A (k+1))] hst ?_;refine q_W ?_;refine q_V _ (Zz _ _ rfl true rfl) ?_;intro w6 hqb;replace sb:=b_o sb hqb;clear hqb
       iterate 6 go_step
       apply Za [] [_,_] trivial List.nodup_nil
       ·intro p;refine m_V _ (x_a k 1) ?_;refine Zd ?_;intro w7 hkw hrw hnew hdis;replace sb:=kk sb hkw;clear hkw hrw hnew hdis
        go_wp2
        go_roundg g
        ·exact⟨k+1,by omega,rfl,sb⟩
        omega
       ·rfl
      ·rfl
     ·rfl
  ·rfl
 ·rfl
theorem Hv (n c:Nat)(ab:Option Addr)(N:Nat->Nat)(A:Nat->Int)(gb ob:Nat)(bcs:Array Value)(tb:TypeId)(w:World)(hL:LinksAt w ab n N A gb ob bcs tb)(h:chN n N A=true):
  Calls Tryz.prog 69 #[.slice ab n c] w fun e w'=>e= .returned (.int .i64 0)/\Below w.heap.size w w':=by
 unfold chN at h
 simp only[Bool.and_eq_true,decide_eq_true_iff]at h
 obtain⟨h1,h8,hs,h0,hl⟩:=h
 rw[PO]at hl
 have hbe:=fun w'=>Ks (N 0) w' (hL.lt 0 (by omega)) hs
 rw[<-h0]at hbe
 exact Kt n c ab N A gb ob bcs tb w h1 h8 hL (fun k hk=>hl k (by omega)) hbe
theorem O7:(Tryz.prog.info? 126).map (fun i=>(i.zero,i.size))=some (some (.agg #[.int .u64 0,.int .u64 0,.int .u64 0,.int .u64 0,.int .i64 0]),5):=by kernel_rfl
theorem O8: ∃i,Tryz.prog.info? 126=some i/\i.zero=some (.agg #[.int .u64 0,.int .u64 0,.int .u64 0,.int .u64 0,.int .i64 0])/\i.size=5:=by
 cases hi:Tryz.prog.info? 126 with
 |none=>have:=O7;rw[hi]at this;cases this
 |some i=>
  have h:=O7
  rw[hi]at h
  simp only[Option.map_some,Option.some.injEq,Prod.mk.injEq]at h
  exact⟨i,rfl,h.1,h.2⟩
theorem Ku (N:Nat)(z:Int):Tryz.prog.built 126 [(0,.agg (Zc N)),(1,.int .i64 z)]=some (lkC N z):=by
 unfold Zc lkC
 generalize lm N 0=a0
 generalize lm N 1=a1
 generalize lm N 2=a2
 generalize lm N 3=a3
 kernel_rfl
theorem X3 {o:Oper}{ρ:Operand->Value}{x0 x1:Operand}(N:Nat)(z:Int)(ho:o.op= .build 126 #[(0,x0),(1,x1)])(h0:ρ x0= .agg (Zc N))(h1:ρ x1= .int .i64 z)(w:World):
  (execOp ρ o).run Tryz.prog w= .ok (.value (.agg (lkC N z))) w:=by
 unfold execOp
 simp only[ho,List.map_toArray,List.map_cons,List.map_nil,h0,h1,Sem.run_bind]
 rw[run_build w 126 _ (lkC N z) (Ku N z)]
 rfl
theorem Hw (N:Nat)(z:Int):(lkC N z).size=5:=rfl
def xF (A B:Int)(i:Nat):Int:=if i=0 then A else B