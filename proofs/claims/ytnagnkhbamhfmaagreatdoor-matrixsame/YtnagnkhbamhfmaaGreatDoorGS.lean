import Derived.Test.YtnagnkhbamhfmaaGreatDoorGR
set_option maxRecDepth 100000
set_option maxHeartbeats 8000000
namespace Go.Proofs.YtnagnkhbamhfmaaGreatDoor
set_option linter.all false
open Go.Proofs.Tryz
open Go.RowKit
theorem Oj:(prog.info? 226).map (fun i=>(i.zero,i.size,i.bytes))=some (some (.agg (Array.replicate 64 (.int .u64 0))),64,512):=by kernel_rfl
theorem Ok:(prog.info? 3).map (fun i=>(i.zero,i.size,i.bytes))=some (some (.int .i64 0),1,8):=by kernel_rfl
theorem C4 (n:Nat)(hn:n<=64)(w:World):(Instr.makeSlice 225 (.int .i64 n) (.int .i64 n)).run prog w= .ok (.slice (some ⟨w.heap.size,0,none⟩) n n) (w.alloc (.cells (nsC (16*n) fun _=>0) 226)):=by
 cases hi:prog.info? 226 with
 |none=>have:=Oj;rw[hi]at this;cases this
 |some i=>
  have h:=Oj;rw[hi]at h;simp only[Option.map_some,Option.some.injEq,Prod.mk.injEq]at h;obtain⟨h1,h2,h3⟩:=h;have hr:=run_makeSlice (P:=prog) w 225 226 i _ underlying225 hi h1 .i64 .i64 (n:Int) (n:Int) (by omega) (by omega) (by rw[Int.toNat_natCast,h2];omega) (by rw[h3];omega) (by omega);rw[Int.toNat_natCast,h2]at hr;rw[hr,EL (16*n) (n*64) _ (fun j hj=>by simp[Value.cells]at hj ⊢;simp[hj]) (by simp[Value.cells]) (by omega)]
theorem C5 (n:Nat)(hn:n<=64)(w:World):(Instr.makeSlice 50 (.int .i64 n) (.int .i64 n)).run prog w= .ok (.slice (some ⟨w.heap.size,0,none⟩) n n) (w.alloc (.cells (isC n fun _=>0) 3)):=by
 cases hi:prog.info? 3 with
 |none=>have:=Ok;rw[hi]at this;cases this
 |some i=>
  have h:=Ok;rw[hi]at h;simp only[Option.map_some,Option.some.injEq,Prod.mk.injEq]at h;obtain⟨h1,h2,h3⟩:=h;have hr:=run_makeSlice (P:=prog) w 50 3 i _ underlying50 hi h1 .i64 .i64 (n:Int) (n:Int) (by omega) (by omega) (by rw[Int.toNat_natCast,h2];omega) (by rw[h3];omega) (by omega);rw[Int.toNat_natCast,h2,Nat.mul_one]at hr;rw[hr,show(Value.int .i64 0).cells=#[.int .i64 0]from rfl,EM]
structure PwN (w':World)(s n g0:Nat)(bv:Value):Prop where
 r:Row w' s #[.pointer (some ⟨g0,0,none⟩)] 68
 b:Row w' (s+1) #[bv] 22
 rk:Row w' (s+1+1) (nsC (16*n) fun _=>0) 226
 k:Row w' (s+1+1+1) #[.slice (some ⟨s+1+1,0,none⟩) n n] 225
 ru:Row w' (s+1+1+1+1) (isC n fun _=>0) 3
 u:Row w' (s+1+1+1+1+1) #[.slice (some ⟨s+1+1+1+1,0,none⟩) n n] 50
theorem NA (n g0 cb:Nat)(ab:Option Addr)(w:World)(hn:n<=64):
  Calls prog 159 #[.pointer (some ⟨g0,0,none⟩),.slice ab n cb] w fun e w'=>
   e= .returned (.func (.func 196) #[] #[.pointer (some ⟨w.heap.size+1+1+1+1+1,0,none⟩),.pointer (some ⟨w.heap.size,0,none⟩),.pointer (some ⟨w.heap.size+1,0,none⟩),.pointer (some ⟨w.heap.size+1+1+1,0,none⟩)])/\
   PwN w' w.heap.size n g0 (.slice ab n cb)/\Below w.heap.size w w':=by
 have hk:=C4 n hn;have hu:=C5 n hn
 go_enter func159,ntmps159
 go_wp2;go_ret;exact⟨rfl,⟨((((((Row.here (by first|rfl|simp only[Yw])).alloc _).alloc _).alloc _).alloc _).alloc _),(((((Row.here (by first|rfl|simp only[Yw])).alloc _).alloc _).alloc _).alloc _),((((Row.here (by first|rfl|simp only[Yw])).alloc _).alloc _).alloc _),(((Row.here (by first|rfl|simp only[Yw])).alloc _).alloc _),((Row.here (by first|rfl|simp only[Yw])).alloc _),(Row.here (by first|rfl|simp only[Yw]))⟩,(by repeat(first|exact Below.refl _ _|refine Below.alloc ?_ (by simp<;>omega) _))⟩
theorem NB {P:Program}{o:Oper}{ρ:Operand->Value}(t:TypeId)(x y:Operand)(u:TypeId)(ho:o.op= .binOp .shr t x y u)(n s:Nat)(hx:ρ x= .int .u64 n)(hy:ρ y= .int .i64 s)(hs:s<64)(w:World):
  (execOp ρ o).run P w= .ok (.value (.int .u64 ((n/2^s:Nat):Int))) w:=by
 unfold execOp;simp only[ho,hx,hy];simp[go_sem]
theorem RL {o:Oper}{ρ:Operand->Value}(x:Operand)(ho:o.op= .convert 55 3 x)(n:Nat)(hx:ρ x= .int .u64 n)(h:n<9223372036854775808)(w:World):
  (execOp ρ o).run prog w= .ok (.value (.int .i64 n)) w:=by
 have u1:=underlying55;have u2:=underlying3;unfold execOp;simp only[ho,hx];simp[convert,run_underlying u1,run_underlying u2,go_sem];rw[IntKind.wrap_i64];omega
theorem Ir (A k:Nat):lm A (k*4/64)/2^(k*4%64)%16=A/2^(4*k)%16:=by
 apply Nat.eq_of_testBit_eq;intro j;rw[show 16=2^4 from rfl,Nat.testBit_mod_two_pow,Nat.testBit_mod_two_pow,Nat.testBit_div_two_pow,Nat.testBit_div_two_pow,ZP];by_cases hj:j<4
 ·simp only[hj,decide_true,Bool.true_and,show j+k*4%64<64 by omega]
  congr 1;omega
 ·simp[hj]
theorem RM (A k:Nat)(w:World)(hk:k<64):
  Calls prog 162 #[.agg (Zd A),.int .i64 k] w fun e w'=>e= .returned (.int .i64 (A/2^(4*k)%16:Nat))/\Below w.heap.size w w':=by
 have HD:=Ir A k;have HD':Hid (lm A (k*4/64)/2^(k*4%64)%16=A/2^(4*k)%16):=HD;clear HD
 go_enter func162,ntmps162
 iterate 2 go_step
 apply Z5 [] [_,_] trivial List.nodup_nil rfl;intro p;refine Yd 57 _ rfl _ rfl ?_;simp only[pv];refine Ze (.int .i64 0) (fun _=>rfl) ?_;simp only[pv];refine Zf ?_;intro vw1 hkw hrw hnew hdis;have zr2:Row vw1 (p 0) (Zd A) 57:=hrw 1 (57,Zd A) rfl;have sb:=k_b hkw;clear hkw hrw hnew hdis;generalize p 0=g2 at*;have r2:=zr2;clear zr2;iterate 3 go_step
 apply Z5 [] [_,_,_,_,_,_] trivial List.nodup_nil rfl;intro p;refine m_m ?_;simp only[pv];refine Ze (.int .i64 ((k*4:Nat):Int)) (fun w'=>(TS _ _ _ _ rfl k 4 rfl rfl w').trans (by rw[show((k:Int)*4)=((k*4:Nat):Int) by omega,wrap_i64 _ (by omega)])) ?_;simp only[pv];refine Ze _ (VX _ _ _ _ rfl (k*4) 64 rfl rfl (by omega) (by omega)) ?_;simp only[pv];refine Ze _ (Zl 57 _ _ rfl (g2) rfl ((k*4/64)) 4 rfl (by omega) _ underlying57 sizeOf55) ?_;simp only[pv];refine Zq 55 _ rfl _ ((k*4/64)) rfl r2 (by simp<;>omega) (.int .u64 (lm (A) (k*4/64):Nat)) (Yc A (k*4/64) (by omega)) isAgg55 ?_;refine m_a ?_;simp only[pv];refine Zf ?_;intro vw2 hkw hrw hnew hdis;clear r2;replace sb:=kk sb hkw;clear hkw hrw hnew hdis;iterate 3 go_step
 apply Z5 [] [_,_,_,_,_,_,_,_] trivial List.nodup_nil rfl;intro p;refine m_m ?_;refine m_m ?_;simp only[pv];refine Ze (.int .i64 ((k*4:Nat):Int)) (fun w'=>(TS _ _ _ _ rfl k 4 rfl rfl w').trans (by rw[show((k:Int)*4)=((k*4:Nat):Int) by omega,wrap_i64 _ (by omega)])) ?_;simp only[pv];refine Ze _ (XM _ _ _ _ rfl (k*4) 64 rfl rfl (by omega)) ?_;simp only[pv];refine Ze _ (NB _ _ _ _ rfl _ (k*4%64) rfl rfl (by omega)) ?_;simp only[pv];refine Ze _ (TV _ _ _ _ rfl _ 16 rfl rfl (by omega)) ?_;simp only[pv];refine Ze (.int .i64 ((A/2^(4*k)%16:Nat):Int)) (fun w'=>(RL _ rfl _ rfl (by omega) w').trans (by rw[HD'.out])) ?_;refine m_a ?_;simp only[pv];refine Zf ?_;intro vw3 hkw hrw hnew hdis;replace sb:=kk sb hkw;clear hkw hrw hnew hdis
 -- the rows that stand: 
 go_wp2;go_ret;exact⟨rfl,sb⟩
theorem NC {P:Program}{o:Oper}{ρ:Operand->Value}(t:TypeId)(x:Operand)(ho:o.op= .call {callee:=.builtin .len,args:=#[x],argTypes:=#[t]})(ab:Option Addr)(n c:Nat)(hx:ρ x= .slice ab n c)(hu:P.underlying t=some (.slice (P.elem t)))(w:World):
  (execOp ρ o).run P w= .ok (.value (.int .i64 n)) w:=by
 unfold execOp;simp only[ho];simp[resolve,invoke,builtin,hx,run_len_slice w t _ ab n c hu,goInt]
theorem n_l {P:Program}{o:Oper}{ρ:Operand->Value}{t:TypeId}{x:Operand}(ab:Option Addr)(n c:Nat)(hu:P.underlying t=some (.slice (P.elem t)))(ho:o.op= .call {callee:=.builtin .len,args:=#[x],argTypes:=#[t]}:=by exact rfl)(hx:ρ x= .slice ab n c:=by exact rfl): ∀w,(execOp ρ o).run P w= .ok (.value (.int .i64 n)) w:=NC t x ho ab n c hx hu
theorem ND {P:Program}{o:Oper}{ρ:Operand->Value}(x y:Operand)(ts:Array TypeId)(ho:o.op= .call {callee:=.builtin .max,args:=#[x,y],argTypes:=ts})(n m:Nat)(hx:ρ x= .int .i64 n)(hy:ρ y= .int .i64 m)(w:World):
  (execOp ρ o).run P w= .ok (.value (.int .i64 ((max n m:Nat):Int))) w:=by
 unfold execOp;simp only[ho];simp[resolve,invoke,builtin,hx,hy,Builtin.max_,Builtin.max2]
 split<;>omega
theorem ZV {P:Program}{o:Oper}{ρ:Operand->Value}(t:TypeId)(x y:Operand)(u:TypeId)(ho:o.op= .binOp .sub t x y u)(n m:Nat)(hx:ρ x= .int .i64 n)(hy:ρ y= .int .i64 m)(hm:m<=n)(h:n<9223372036854775808)(w:World):
  (execOp ρ o).run P w= .ok (.value (.int .i64 ((n-m:Nat):Int))) w:=by
 unfold execOp;simp only[ho,hx,hy];simp[go_sem];rw[IntKind.wrap_i64];omega
structure NatsAt (w:World)(ab:Option Addr)(n:Nat)(e:Nat->Nat)(gb ob:Nat)(bcs:Array Value)(tb:TypeId):Prop where
 at':n=0∨(ab=some ⟨gb,ob,none⟩/\Wq w gb bcs tb/\ ∀i,i<n-> ∀j v,(Zd (e i)).toList[j]?=some v->bcs[ob+i*4+j]?=some v)
 lt: ∀i,i<n->e i<2^256
theorem NatsAt.on {w w2:World}{ab:Option Addr}{n:Nat}{e:Nat->Nat}{gb ob:Nat}{bcs:Array Value}{tb:TypeId}(h:NatsAt w ab n e gb ob bcs tb){S:List Nat}(hk:Kept S w w2)(hS: ∀x∈S,w.heap.size<=x):NatsAt w2 ab n e gb ob bcs tb:=
 ⟨h.at'.imp id fun⟨h1,h2,h3⟩=>⟨h1,hk.rowR h2 fun hm=>Nat.lt_irrefl _ (Nat.lt_of_lt_of_le h2.lt (hS _ hm)),h3⟩,h.lt⟩
theorem NatsAt.below {w w2:World}{ab:Option Addr}{n:Nat}{e:Nat->Nat}{gb ob:Nat}{bcs:Array Value}{tb:TypeId}(h:NatsAt w ab n e gb ob bcs tb)(hb:Below w.heap.size w w2):NatsAt w2 ab n e gb ob bcs tb:=
 ⟨h.at'.imp id fun⟨h1,h2,h3⟩=>⟨h1,h2.belowAll hb,h3⟩,h.lt⟩
theorem RN (A n:Nat)(h:A<2^n):bitLen A<=n:=by
 unfold bitLen
 split
 ·omega
 ·rename_i h0
  have:=(Nat.log2_lt h0).2 h;omega
theorem RO (A n:Nat)(h:bitLen A<=n):A<2^n:=by
 unfold bitLen at h
 split at h
 ·rename_i h0
  rw[h0];exact Nat.two_pow_pos n
 ·rename_i h0
  exact(Nat.log2_lt h0).1 (by omega)
def mxL (e:Nat->Nat):Nat->Nat
 |0=>0
 |k+1=>max (mxL e k) (bitLen (e k))
theorem Lr (e:Nat->Nat): ∀n,(∀i,i<n->e i<2^256)->mxL e n<=256
 |0,_=>Nat.zero_le _
 |n+1,h=>by
  have h1:=Lr e n fun i hi=>h i (by omega)
  have h2:=RN (e n) 256 (h n (by omega));show max (mxL e n) (bitLen (e n))<=256
  omega
theorem G5 (e:Nat->Nat): ∀n i,i<n->bitLen (e i)<=mxL e n
 |0,i,h=>by omega
 |n+1,i,h=>by
  show _<=max (mxL e n) (bitLen (e n))
  by_cases hi:i=n
  ·subst hi;omega
  ·have:=G5 e n i (by omega);omega
theorem Ls (n cb:Nat)(ab:Option Addr)(e:Nat->Nat)(gb ob:Nat)(bcs:Array Value)(tb:TypeId)(w:World)(hn:n<=64)(hN:NatsAt w ab n e gb ob bcs tb):
  Calls prog 160 #[.slice ab n cb] w fun r w'=>r= .returned (.int .i64 ((mxL e n+3)/4:Nat))/\Below w.heap.size w w':=by
 have HN:Hid (NatsAt w ab n e gb ob bcs tb):=hN;clear hN
 go_enter func160,ntmps160
 go_wp2_with fail
 go_loopg [3,8] n (fun g s3 s8 wr=> ∃i:Nat,i+g=n/\s3= .int .i64 (mxL e i:Nat)/\s8= .int .i64 i/\Below w.heap.size w wr)
 case atStart=>exact⟨0,by omega,rfl,rfl,Below.refl _ _⟩
 case round=>
  obtain⟨i,hi,rfl,rfl,sb⟩:=hrel
  cases gk with
  |zero=>
   obtain rfl:i=n:=by omega
   have hl:=Lr e i HN.out.lt;clear hi;generalize hL:mxL e i=L at*
   go_step
   apply Za [] [_] trivial List.nodup_nil
   ·intro p;refine Ze (.bool false) (fun w'=>(Ym _ _ _ _ rfl i i rfl rfl w').trans (by rw[decide_eq_false (Int.lt_irrefl _)])) ?_;simp only[pv];refine Zf ?_;intro w5 hkw hrw hnew hdis;replace sb:=kk sb hkw;clear hkw hrw hnew hdis;iterate 8 go_step
    apply Za [] [_,_,_,_,_] trivial List.nodup_nil
    ·intro p;refine m_m ?_;simp only[pv];refine Ze _ (x_a L 4) ?_;simp only[pv];refine Ze (.int .i64 ((L+3:Nat):Int)) (fun w'=>(ZV _ _ _ _ rfl (L+4) 1 rfl rfl (by omega) (by omega) w').trans (by rw[show L+4-1=L+3 by omega])) ?_;simp only[pv];refine Ze _ (VX _ _ _ _ rfl (L+3) 4 rfl rfl (by omega) (by omega)) ?_;refine m_a ?_;simp only[pv];refine Zf ?_;intro w6 hkw hrw hnew hdis;replace sb:=kk sb hkw;clear hkw hrw hnew hdis;go_wp2;go_ret;exact⟨by rw[hL];rfl,sb⟩
    ·rfl
   ·rfl
  |succ g=>
   have hlt:i<n:=by omega
   have hb':=HN.out.lt i hlt;have hle:=fun w'=>WM (e i) w' hb'
   go_step
   apply Za [] [_] trivial List.nodup_nil
   ·intro p;refine Ze (.bool true) (fun w'=>(Ym _ _ _ _ rfl i n rfl rfl w').trans (by rw[decide_eq_true (by omega)])) ?_;simp only[pv];refine Zf ?_;intro w5 hkw hrw hnew hdis;replace sb:=kk sb hkw;clear hkw hrw hnew hdis;obtain h0|⟨rfl,rB,hat⟩:=(HN.out.below sb).at'
    ·omega
    iterate 10 go_step
    apply Za [] [_,_,_,_] trivial List.nodup_nil
    ·intro p;refine m_x i hlt underlying22 Zz ?_;simp only[pv];refine Ye 57 _ rfl _ ((ob+i*4)) rfl rB (by simp<;>omega) (Zd (e i)) (hat i hlt) _ underlying57 rfl Zc ?_;simp only[pv];refine m_n ?_;simp only[pv];refine m_p 5 (e i) ?_;simp only[Act.put];refine Zf ?_;intro w6 hkw hrw hnew hdis;have n5:=hnew 2 rfl;have zr5:Row w6 (p 2) (Zd (e i)) 57:=hrw 5 (57,Zd (e i)) rfl;replace sb:=kk sb hkw;clear hkw hrw hnew hdis n5;generalize p 2=g5 at*;have r5:=zr5;clear zr5;iterate 2 go_step
     apply Za [] [_,_,_,_,_] trivial List.nodup_nil
     ·intro p;refine m_m ?_;simp only[pv];refine m_l r5 ?_;simp only[pv];refine m_c 111 func111 #[.agg (Zd (e i))] hle ?_;simp only[pv];refine Ze _ (ND _ _ _ rfl (mxL e i) (bitLen (e i)) rfl rfl) ?_;refine m_a ?_;simp only[pv];refine Zf ?_;intro w7 hkw hrw hnew hdis;replace sb:=kk sb hkw;clear hkw hrw hnew hdis;iterate 2 go_step
      apply Za [] [_,_] trivial List.nodup_nil
      ·intro p;refine Ze _ (x_a i 1) ?_;refine m_m ?_;simp only[pv];refine Zf ?_;intro w8 hkw hrw hnew hdis;replace sb:=kk sb hkw;clear hkw hrw hnew hdis;go_wp2
       go_roundg g
       case measure=>omega
       case rel=>exact⟨i+1,by omega,rfl,rfl,sb⟩
      ·rfl
     ·rfl
    ·rfl
   ·rfl
def prd (f:Nat->Nat):Nat->Nat
 |0=>1
 |k+1=>prd f k*f k
def fm (M X:Nat):Nat:=X*2^256%M
theorem Is (M X:Nat)(h:2<=M):fm M X<M:=Nat.mod_lt _ (by omega)
theorem EN (M X Y:Nat)(h:M%2=1)(h2:2<=M):mt (fm M X) (fm M Y) M=fm M (X*Y):=by
 unfold fm;rw[UR _ Y M h h2,Nat.mod_mul_mod,Nat.mul_assoc,Nat.mul_comm (2^256),<-Nat.mul_assoc]
theorem RP (M b j:Nat):fpw M b j=fm M (b^j):=rfl
theorem EO (A B M:Nat):mt A B M=mt B A M:=by
 unfold mt;rw[Nat.mul_comm A]
theorem It (M X:Nat)(h:M%2=1)(h2:2<=M):mt (fm M X) 1 M=X%M:=by
 rw[EO];unfold fm;rw[UR _ X M h h2,Nat.one_mul]
theorem C6 (M:Nat):Wr M=fm M 1:=by
 unfold fm Wr;rw[Nat.one_mul]
theorem UU (f g:Nat->Nat): ∀n,(∀i,i<n->f i=g i)->prd f n=prd g n
 |0,_=>rfl
 |n+1,h=>by
  show prd f n*f n=prd g n*g n
  rw[UU f g n fun i hi=>h i (by omega),h n (by omega)]
theorem Lt (f:Nat->Nat): ∀n,(∀i,i<n->f i=1)->prd f n=1
 |0,_=>rfl
 |n+1,h=>by
  show prd f n*f n=1
  rw[Lt f n fun i hi=>h i (by omega),h n (by omega)]
theorem SD (f:Nat->Nat)(n:Nat):prd f (n+1)=prd f n*f n:=rfl
theorem Ol (b p q:Nat->Nat)(s:Nat): ∀n,prd (fun i=>b i^p i) n^s*prd (fun i=>b i^q i) n=prd (fun i=>b i^(p i*s+q i)) n
 |0=>by simp[prd]
 |n+1=>by
  rw[SD,SD,SD,<-Ol b p q s n,Nat.mul_pow,<-Nat.pow_mul,Nat.pow_add];generalize prd (fun i=>b i^p i) n^s=x;generalize prd (fun i=>b i^q i) n=y;generalize b n^(p n*s)=z;rw[Nat.mul_assoc,Nat.mul_assoc,Nat.mul_left_comm z]
def xo (b e:Nat->Nat)(n c t:Nat):Nat:=prd (fun i=>b i^(e i/2^(4*(c-t)))) n
def xi (b e:Nat->Nat)(n c t k:Nat):Nat:=xo b e n c t^16*prd (fun i=>b i^(e i/2^(4*(c-1-t))%16)) k
theorem Lu (b e:Nat->Nat)(n c t:Nat):xi b e n c t 0=xo b e n c t^16:=Nat.mul_one _
theorem Lv (b e:Nat->Nat)(n c t k:Nat):xi b e n c t (k+1)=xi b e n c t k*b k^(e k/2^(4*(c-1-t))%16):=(Nat.mul_assoc _ _ _).symm
theorem Lw (b e:Nat->Nat)(n c t:Nat)(h:t<c):xi b e n c t n=xo b e n c (t+1):=by
 unfold xi xo;rw[Ol];refine UU _ _ n fun i _=>?_
 have h1:4*(c-t)=4*(c-1-t)+4:=by omega
 have h2:c-(t+1)=c-1-t:=by omega
 show b i^_=b i^_
 rw[h1,h2,Nat.pow_add 2,<-Nat.div_div_eq_div_mul,show 2^4=16 from rfl,Nat.mul_comm,Nat.div_add_mod]
theorem Om (b e:Nat->Nat)(n c:Nat)(h: ∀i,i<n->e i<2^(4*c)):xo b e n c 0=1:=by
 refine Lt _ n fun i hi=>?_
 show b i^_=1
 rw[Nat.sub_zero,Nat.div_eq_of_lt (h i hi),Nat.pow_zero]
theorem EP (b e:Nat->Nat)(n c:Nat):xo b e n c c=prd (fun i=>b i^e i) n:=by
 refine UU _ _ n fun i _=>?_
 show b i^_=b i^_
 rw[Nat.sub_self,Nat.mul_zero,Nat.pow_zero,Nat.div_one]
theorem EQ (M X j:Nat)(h:M%2=1)(h2:2<=M):mt (fm M (X^2^j)) (fm M (X^2^j)) M=fm M (X^2^(j+1)):=by
 rw[EN M _ _ h h2,<-Nat.pow_add,<-Nat.two_mul,Nat.mul_comm 2,<-Nat.pow_succ]
theorem Lx (e:Nat->Nat)(n:Nat)(i:Nat)(h:i<n):e i<2^(4*((mxL e n+3)/4)):=
 RO _ _ (Nat.le_trans (G5 e n i h) (by omega))
def ex2 (a b:Nat):Nat:=a+b/256*18446744073709551616
end Go.Proofs.YtnagnkhbamhfmaaGreatDoor
