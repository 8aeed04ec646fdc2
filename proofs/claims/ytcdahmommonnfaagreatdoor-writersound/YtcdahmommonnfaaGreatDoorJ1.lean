import Derived.Test.YtcdahmommonnfaaGreatDoorGR
import Derived.KernelRfl
set_option maxRecDepth 100000
set_option maxHeartbeats 8000000
namespace Go.Proofs.YtcdahmommonnfaaGreatDoor
set_option linter.all false
open Go.RowKit Go.Proofs.Tryz
theorem Pg:(prog.info? 238).map (fun i=>(i.zero,i.size,i.bytes))=some (some (.agg (Array.replicate 64 (.int .u64 0))),64,512):=by kernel_rfl
theorem Ph:(prog.info? 3).map (fun i=>(i.zero,i.size,i.bytes))=some (some (.int .i64 0),1,8):=by kernel_rfl
theorem E7 (n:Nat)(hn:n<=64)(w:World):(Instr.makeSlice 237 (.int .i64 n) (.int .i64 n)).run prog w= .ok (.slice (some ⟨w.heap.size,0,none⟩) n n) (w.alloc (.cells (nsC (16*n) fun _=>0) 238)):=by
 cases hi:prog.info? 238 with
 |none=>have:=Pg;rw[hi]at this;cases this
 |some i=>
  have h:=Pg;rw[hi]at h;simp only[Option.map_some,Option.some.injEq,Prod.mk.injEq]at h;obtain⟨h1,h2,h3⟩:=h;have hr:=run_makeSlice (P:=prog) w 237 238 i _ underlying237 hi h1 .i64 .i64 (n:Int) (n:Int) (by omega) (by omega) (by rw[Int.toNat_natCast,h2];omega) (by rw[h3];omega) (by omega);rw[Int.toNat_natCast,h2]at hr;rw[hr,G3 (16*n) (n*64) _ (fun j hj=>by simp[Value.cells]at hj ⊢;simp[hj]) (by simp[Value.cells]) (by omega)]
theorem E8 (n:Nat)(hn:n<=64)(w:World):(Instr.makeSlice 62 (.int .i64 n) (.int .i64 n)).run prog w= .ok (.slice (some ⟨w.heap.size,0,none⟩) n n) (w.alloc (.cells (isC n fun _=>0) 3)):=by
 cases hi:prog.info? 3 with
 |none=>have:=Ph;rw[hi]at this;cases this
 |some i=>
  have h:=Ph;rw[hi]at h;simp only[Option.map_some,Option.some.injEq,Prod.mk.injEq]at h;obtain⟨h1,h2,h3⟩:=h;have hr:=run_makeSlice (P:=prog) w 62 3 i _ underlying62 hi h1 .i64 .i64 (n:Int) (n:Int) (by omega) (by omega) (by rw[Int.toNat_natCast,h2];omega) (by rw[h3];omega) (by omega);rw[Int.toNat_natCast,h2,Nat.mul_one]at hr;rw[hr,show(Value.int .i64 0).cells=#[.int .i64 0]from rfl,G4]
structure PwN (w':World)(s n g0:Nat)(bv:Value):Prop where
 r:Row w' s #[.pointer (some ⟨g0,0,none⟩)] 109
 b:Row w' (s+1) #[bv] 54
 rk:Row w' (s+1+1) (nsC (16*n) fun _=>0) 238
 k:Row w' (s+1+1+1) #[.slice (some ⟨s+1+1,0,none⟩) n n] 237
 ru:Row w' (s+1+1+1+1) (isC n fun _=>0) 3
 u:Row w' (s+1+1+1+1+1) #[.slice (some ⟨s+1+1+1+1,0,none⟩) n n] 62
theorem Oy (n g0 cb:Nat)(ab:Option Addr)(w:World)(hn:n<=64):
  Calls prog 132 #[.pointer (some ⟨g0,0,none⟩),.slice ab n cb] w fun e w'=>
   e= .returned (.func (.func 180) #[] #[.pointer (some ⟨w.heap.size+1+1+1+1+1,0,none⟩),.pointer (some ⟨w.heap.size,0,none⟩),.pointer (some ⟨w.heap.size+1,0,none⟩),.pointer (some ⟨w.heap.size+1+1+1,0,none⟩)])/\
   PwN w' w.heap.size n g0 (.slice ab n cb)/\Below w.heap.size w w':=by
 have hk:=E7 n hn;have hu:=E8 n hn
 go_enter func132,ntmps132
 go_wp2;go_ret;exact⟨rfl,⟨((((((Row.here (by first|rfl|simp only[YF])).alloc _).alloc _).alloc _).alloc _).alloc _),(((((Row.here (by first|rfl|simp only[YF])).alloc _).alloc _).alloc _).alloc _),((((Row.here (by first|rfl|simp only[YF])).alloc _).alloc _).alloc _),(((Row.here (by first|rfl|simp only[YF])).alloc _).alloc _),((Row.here (by first|rfl|simp only[YF])).alloc _),(Row.here (by first|rfl|simp only[YF]))⟩,(by repeat(first|exact Below.refl _ _|refine Below.alloc ?_ (by simp<;>omega) _))⟩
theorem Oz {P:Program}{o:Oper}{ρ:Operand->Value}(t:TypeId)(x y:Operand)(u:TypeId)(ho:o.op= .binOp .shr t x y u)(n s:Nat)(hx:ρ x= .int .u64 n)(hy:ρ y= .int .i64 s)(hs:s<64)(w:World):
  (execOp ρ o).run P w= .ok (.value (.int .u64 ((n/2^s:Nat):Int))) w:=by
 unfold execOp;simp only[ho,hx,hy];simp[go_sem]
theorem SP {o:Oper}{ρ:Operand->Value}(x:Operand)(ho:o.op= .convert 37 3 x)(n:Nat)(hx:ρ x= .int .u64 n)(h:n<9223372036854775808)(w:World):
  (execOp ρ o).run prog w= .ok (.value (.int .i64 n)) w:=by
 have u1:=underlying37;have u2:=underlying3;unfold execOp;simp only[ho,hx];simp[convert,run_underlying u1,run_underlying u2,go_sem];rw[IntKind.wrap_i64];omega
theorem Jk (A k:Nat):lm A (k*4/64)/2^(k*4%64)%16=A/2^(4*k)%16:=by
 apply Nat.eq_of_testBit_eq;intro j;rw[show 16=2^4 from rfl,Nat.testBit_mod_two_pow,Nat.testBit_mod_two_pow,Nat.testBit_div_two_pow,Nat.testBit_div_two_pow,ZW];by_cases hj:j<4
 ·simp only[hj,decide_true,Bool.true_and,show j+k*4%64<64 by omega]
  congr 1;omega
 ·simp[hj]
theorem SQ (A k:Nat)(w:World)(hk:k<64):
  Calls prog 135 #[.agg (Zc A),.int .i64 k] w fun e w'=>e= .returned (.int .i64 (A/2^(4*k)%16:Nat))/\Below w.heap.size w w':=by
 have HD:=Jk A k;have HD':Hid (lm A (k*4/64)/2^(k*4%64)%16=A/2^(4*k)%16):=HD;clear HD
 go_enter func135,ntmps135
 iterate 2 go_step
 apply Yc [] [_,_] trivial List.nodup_nil rfl;intro p;refine YD 39 _ rfl _ rfl ?_;simp only[pv];refine Zg (.int .i64 0) (fun _=>rfl) ?_;simp only[pv];refine Zi ?_;intro vw1 hkw hrw hnew hdis;have zr2:Row vw1 (p 0) (Zc A) 39:=hrw 1 (39,Zc A) rfl;have sb:=k_b hkw;clear hkw hrw hnew hdis;generalize p 0=g2 at*;have r2:=zr2;clear zr2;iterate 3 go_step
 apply Yc [] [_,_,_,_,_,_] trivial List.nodup_nil rfl;intro p;refine m_m ?_;simp only[pv];refine Zg (.int .i64 ((k*4:Nat):Int)) (fun w'=>(U5 _ _ _ _ rfl k 4 rfl rfl w').trans (by rw[show((k:Int)*4)=((k*4:Nat):Int) by omega,wrap_i64 _ (by omega)])) ?_;simp only[pv];refine Zg _ (U4 _ _ _ _ rfl (k*4) 64 rfl rfl (by omega) (by omega)) ?_;simp only[pv];refine Zg _ (Ya 39 _ _ rfl (g2) rfl ((k*4/64)) 4 rfl (by omega) _ underlying39 sizeOf37) ?_;simp only[pv];refine ZB 37 _ rfl _ ((k*4/64)) rfl r2 (by simp<;>omega) (.int .u64 (lm (A) (k*4/64):Nat)) (Yi A (k*4/64) (by omega)) isAgg37 ?_;refine m_a ?_;simp only[pv];refine Zi ?_;intro vw2 hkw hrw hnew hdis;clear r2;replace sb:=kk sb hkw;clear hkw hrw hnew hdis;iterate 3 go_step
 apply Yc [] [_,_,_,_,_,_,_,_] trivial List.nodup_nil rfl;intro p;refine m_m ?_;refine m_m ?_;simp only[pv];refine Zg (.int .i64 ((k*4:Nat):Int)) (fun w'=>(U5 _ _ _ _ rfl k 4 rfl rfl w').trans (by rw[show((k:Int)*4)=((k*4:Nat):Int) by omega,wrap_i64 _ (by omega)])) ?_;simp only[pv];refine Zg _ (VI _ _ _ _ rfl (k*4) 64 rfl rfl (by omega)) ?_;simp only[pv];refine Zg _ (Oz _ _ _ _ rfl _ (k*4%64) rfl rfl (by omega)) ?_;simp only[pv];refine Zg _ (U6 _ _ _ _ rfl _ 16 rfl rfl (by omega)) ?_;simp only[pv];refine Zg (.int .i64 ((A/2^(4*k)%16:Nat):Int)) (fun w'=>(SP _ rfl _ rfl (by omega) w').trans (by rw[HD'.out])) ?_;refine m_a ?_;simp only[pv];refine Zi ?_;intro vw3 hkw hrw hnew hdis;replace sb:=kk sb hkw;clear hkw hrw hnew hdis
 -- the rows that stand: 
 go_wp2;go_ret;exact⟨rfl,sb⟩
theorem OA {P:Program}{o:Oper}{ρ:Operand->Value}(t:TypeId)(x:Operand)(ho:o.op= .call {callee:=.builtin .len,args:=#[x],argTypes:=#[t]})(ab:Option Addr)(n c:Nat)(hx:ρ x= .slice ab n c)(hu:P.underlying t=some (.slice (P.elem t)))(w:World):
  (execOp ρ o).run P w= .ok (.value (.int .i64 n)) w:=by
 unfold execOp;simp only[ho];simp[resolve,invoke,builtin,hx,run_len_slice w t _ ab n c hu,goInt]
theorem n_l {P:Program}{o:Oper}{ρ:Operand->Value}{t:TypeId}{x:Operand}(ab:Option Addr)(n c:Nat)(hu:P.underlying t=some (.slice (P.elem t)))(ho:o.op= .call {callee:=.builtin .len,args:=#[x],argTypes:=#[t]}:=by exact rfl)(hx:ρ x= .slice ab n c:=by exact rfl): ∀w,(execOp ρ o).run P w= .ok (.value (.int .i64 n)) w:=OA t x ho ab n c hx hu
theorem OB {P:Program}{o:Oper}{ρ:Operand->Value}(x y:Operand)(ts:Array TypeId)(ho:o.op= .call {callee:=.builtin .max,args:=#[x,y],argTypes:=ts})(n m:Nat)(hx:ρ x= .int .i64 n)(hy:ρ y= .int .i64 m)(w:World):
  (execOp ρ o).run P w= .ok (.value (.int .i64 ((max n m:Nat):Int))) w:=by
 unfold execOp;simp only[ho];simp[resolve,invoke,builtin,hx,hy,Builtin.max_,Builtin.max2]
 split<;>omega
theorem ZT {P:Program}{o:Oper}{ρ:Operand->Value}(t:TypeId)(x y:Operand)(u:TypeId)(ho:o.op= .binOp .sub t x y u)(n m:Nat)(hx:ρ x= .int .i64 n)(hy:ρ y= .int .i64 m)(hm:m<=n)(h:n<9223372036854775808)(w:World):
  (execOp ρ o).run P w= .ok (.value (.int .i64 ((n-m:Nat):Int))) w:=by
 unfold execOp;simp only[ho,hx,hy];simp[go_sem];rw[IntKind.wrap_i64];omega
structure NatsAt (w:World)(ab:Option Addr)(n:Nat)(e:Nat->Nat)(gb ob:Nat)(bcs:Array Value)(tb:TypeId):Prop where
 at':n=0∨(ab=some ⟨gb,ob,none⟩/\WD w gb bcs tb/\ ∀i,i<n-> ∀j v,(Zc (e i)).toList[j]?=some v->bcs[ob+i*4+j]?=some v)
 lt: ∀i,i<n->e i<2^256
theorem NatsAt.on {w w2:World}{ab:Option Addr}{n:Nat}{e:Nat->Nat}{gb ob:Nat}{bcs:Array Value}{tb:TypeId}(h:NatsAt w ab n e gb ob bcs tb){S:List Nat}(hk:Kept S w w2)(hS: ∀x∈S,w.heap.size<=x):NatsAt w2 ab n e gb ob bcs tb:=
 ⟨h.at'.imp id fun⟨h1,h2,h3⟩=>⟨h1,hk.rowR h2 fun hm=>Nat.lt_irrefl _ (Nat.lt_of_lt_of_le h2.lt (hS _ hm)),h3⟩,h.lt⟩
theorem NatsAt.below {w w2:World}{ab:Option Addr}{n:Nat}{e:Nat->Nat}{gb ob:Nat}{bcs:Array Value}{tb:TypeId}(h:NatsAt w ab n e gb ob bcs tb)(hb:Below w.heap.size w w2):NatsAt w2 ab n e gb ob bcs tb:=
 ⟨h.at'.imp id fun⟨h1,h2,h3⟩=>⟨h1,h2.belowAll hb,h3⟩,h.lt⟩
theorem Um (A n:Nat)(h:A<2^n):bitLen A<=n:=by
 unfold bitLen
 split
 ·omega
 ·rename_i h0
  have:=(Nat.log2_lt h0).2 h;omega
theorem SR (A n:Nat)(h:bitLen A<=n):A<2^n:=by
 unfold bitLen at h
 split at h
 ·rename_i h0
  rw[h0];exact Nat.two_pow_pos n
 ·rename_i h0
  exact(Nat.log2_lt h0).1 (by omega)
def mxL (e:Nat->Nat):Nat->Nat
 |0=>0
 |k+1=>max (mxL e k) (bitLen (e k))
theorem N8 (e:Nat->Nat): ∀n,(∀i,i<n->e i<2^256)->mxL e n<=256
 |0,_=>Nat.zero_le _
 |n+1,h=>by
  have h1:=N8 e n fun i hi=>h i (by omega)
  have h2:=Um (e n) 256 (h n (by omega));show max (mxL e n) (bitLen (e n))<=256
  omega
theorem Hd (e:Nat->Nat): ∀n i,i<n->bitLen (e i)<=mxL e n
 |0,i,h=>by omega
 |n+1,i,h=>by
  show _<=max (mxL e n) (bitLen (e n))
  by_cases hi:i=n
  ·subst hi;omega
  ·have:=Hd e n i (by omega);omega
theorem N9 (n cb:Nat)(ab:Option Addr)(e:Nat->Nat)(gb ob:Nat)(bcs:Array Value)(tb:TypeId)(w:World)(hn:n<=64)(hN:NatsAt w ab n e gb ob bcs tb):
  Calls prog 133 #[.slice ab n cb] w fun r w'=>r= .returned (.int .i64 ((mxL e n+3)/4:Nat))/\Below w.heap.size w w':=by
 have HN:Hid (NatsAt w ab n e gb ob bcs tb):=hN;clear hN
 go_enter func133,ntmps133
 go_wp2_with fail
 go_loopg [3,8] n (fun g s3 s8 wr=> ∃i:Nat,i+g=n/\s3= .int .i64 (mxL e i:Nat)/\s8= .int .i64 i/\Below w.heap.size w wr)
 case atStart=>exact⟨0,by omega,rfl,rfl,Below.refl _ _⟩
 case round=>
  obtain⟨i,hi,rfl,rfl,sb⟩:=hrel
  cases gk with
  |zero=>
   obtain rfl:i=n:=by omega
   have hl:=N8 e i HN.out.lt;clear hi;generalize hL:mxL e i=L at*
   go_step
   apply Zd [] [_] trivial List.nodup_nil
   ·intro p;refine Zg (.bool false) (fun w'=>(Yv _ _ _ _ rfl i i rfl rfl w').trans (by rw[decide_eq_false (Int.lt_irrefl _)])) ?_;simp only[pv];refine Zi ?_;intro w5 hkw hrw hnew hdis;replace sb:=kk sb hkw;clear hkw hrw hnew hdis;iterate 8 go_step
    apply Zd [] [_,_,_,_,_] trivial List.nodup_nil
    ·intro p;refine m_m ?_;simp only[pv];refine Zg _ (x_a L 4) ?_;simp only[pv];refine Zg (.int .i64 ((L+3:Nat):Int)) (fun w'=>(ZT _ _ _ _ rfl (L+4) 1 rfl rfl (by omega) (by omega) w').trans (by rw[show L+4-1=L+3 by omega])) ?_;simp only[pv];refine Zg _ (U4 _ _ _ _ rfl (L+3) 4 rfl rfl (by omega) (by omega)) ?_;refine m_a ?_;simp only[pv];refine Zi ?_;intro w6 hkw hrw hnew hdis;replace sb:=kk sb hkw;clear hkw hrw hnew hdis;go_wp2;go_ret;exact⟨by rw[hL];rfl,sb⟩
    ·rfl
   ·rfl
  |succ g=>
   have hlt:i<n:=by omega
   have hb':=HN.out.lt i hlt;have hle:=fun w'=>XW (e i) w' hb'
   go_step
   apply Zd [] [_] trivial List.nodup_nil
   ·intro p;refine Zg (.bool true) (fun w'=>(Yv _ _ _ _ rfl i n rfl rfl w').trans (by rw[decide_eq_true (by omega)])) ?_;simp only[pv];refine Zi ?_;intro w5 hkw hrw hnew hdis;replace sb:=kk sb hkw;clear hkw hrw hnew hdis;obtain h0|⟨rfl,rB,hat⟩:=(HN.out.below sb).at'
    ·omega
    iterate 10 go_step
    apply Zd [] [_,_,_,_] trivial List.nodup_nil
    ·intro p;refine m_x i hlt underlying54 ZU ?_;simp only[pv];refine Xf 39 _ rfl _ ((ob+i*4)) rfl rB (by simp<;>omega) (Zc (e i)) (hat i hlt) _ underlying39 rfl Ze ?_;simp only[pv];refine m_n ?_;simp only[pv];refine m_p 5 (e i) ?_;simp only[Act.put];refine Zi ?_;intro w6 hkw hrw hnew hdis;have n5:=hnew 2 rfl;have zr5:Row w6 (p 2) (Zc (e i)) 39:=hrw 5 (39,Zc (e i)) rfl;replace sb:=kk sb hkw;clear hkw hrw hnew hdis n5;generalize p 2=g5 at*;have r5:=zr5;clear zr5;iterate 2 go_step
     apply Zd [] [_,_,_,_,_] trivial List.nodup_nil
     ·intro p;refine m_m ?_;simp only[pv];refine m_l r5 ?_;simp only[pv];refine m_c 82 func82 #[.agg (Zc (e i))] hle ?_;simp only[pv];refine Zg _ (OB _ _ _ rfl (mxL e i) (bitLen (e i)) rfl rfl) ?_;refine m_a ?_;simp only[pv];refine Zi ?_;intro w7 hkw hrw hnew hdis;replace sb:=kk sb hkw;clear hkw hrw hnew hdis;iterate 2 go_step
      apply Zd [] [_,_] trivial List.nodup_nil
      ·intro p;refine Zg _ (x_a i 1) ?_;refine m_m ?_;simp only[pv];refine Zi ?_;intro w8 hkw hrw hnew hdis;replace sb:=kk sb hkw;clear hkw hrw hnew hdis;go_wp2
       go_roundg g
       case measure=>omega
       case rel=>exact⟨i+1,by omega,rfl,rfl,sb⟩
      ·rfl
     ·rfl
    ·rfl
   ·rfl
def prd (f:Nat->Nat):Nat->Nat
 |0=>1
 |k+1=>prd f k*f k
def fm (M X:Nat):Nat:=X*2^256%M
theorem Jl (M X:Nat)(h:2<=M):fm M X<M:=Nat.mod_lt _ (by omega)
theorem G5 (M X Y:Nat)(h:M%2=1)(h2:2<=M):mt (fm M X) (fm M Y) M=fm M (X*Y):=by
 unfold fm;rw[Ui _ Y M h h2,Nat.mod_mul_mod,Nat.mul_assoc,Nat.mul_comm (2^256),<-Nat.mul_assoc]
theorem SS (M b j:Nat):fpw M b j=fm M (b^j):=rfl
theorem G6 (A B M:Nat):mt A B M=mt B A M:=by
 unfold mt;rw[Nat.mul_comm A]
theorem Jm (M X:Nat)(h:M%2=1)(h2:2<=M):mt (fm M X) 1 M=X%M:=by
 rw[G6];unfold fm;rw[Ui _ X M h h2,Nat.one_mul]
theorem E9 (M:Nat):Ww M=fm M 1:=by
 unfold fm Ww;rw[Nat.one_mul]
theorem Un (f g:Nat->Nat): ∀n,(∀i,i<n->f i=g i)->prd f n=prd g n
 |0,_=>rfl
 |n+1,h=>by
  show prd f n*f n=prd g n*g n
  rw[Un f g n fun i hi=>h i (by omega),h n (by omega)]
theorem Ma (f:Nat->Nat): ∀n,(∀i,i<n->f i=1)->prd f n=1
 |0,_=>rfl
 |n+1,h=>by
  show prd f n*f n=1
  rw[Ma f n fun i hi=>h i (by omega),h n (by omega)]
theorem TP (f:Nat->Nat)(n:Nat):prd f (n+1)=prd f n*f n:=rfl
theorem Pi (b p q:Nat->Nat)(s:Nat): ∀n,prd (fun i=>b i^p i) n^s*prd (fun i=>b i^q i) n=prd (fun i=>b i^(p i*s+q i)) n
 |0=>by simp[prd]
 |n+1=>by
  rw[TP,TP,TP,<-Pi b p q s n,Nat.mul_pow,<-Nat.pow_mul,Nat.pow_add];generalize prd (fun i=>b i^p i) n^s=x;generalize prd (fun i=>b i^q i) n=y;generalize b n^(p n*s)=z;rw[Nat.mul_assoc,Nat.mul_assoc,Nat.mul_left_comm z]
def xo (b e:Nat->Nat)(n c t:Nat):Nat:=prd (fun i=>b i^(e i/2^(4*(c-t)))) n
def xi (b e:Nat->Nat)(n c t k:Nat):Nat:=xo b e n c t^16*prd (fun i=>b i^(e i/2^(4*(c-1-t))%16)) k
theorem Mb (b e:Nat->Nat)(n c t:Nat):xi b e n c t 0=xo b e n c t^16:=Nat.mul_one _
theorem Mc (b e:Nat->Nat)(n c t k:Nat):xi b e n c t (k+1)=xi b e n c t k*b k^(e k/2^(4*(c-1-t))%16):=(Nat.mul_assoc _ _ _).symm
theorem Md (b e:Nat->Nat)(n c t:Nat)(h:t<c):xi b e n c t n=xo b e n c (t+1):=by
 unfold xi xo;rw[Pi];refine Un _ _ n fun i _=>?_
 have h1:4*(c-t)=4*(c-1-t)+4:=by omega
 have h2:c-(t+1)=c-1-t:=by omega
 show b i^_=b i^_
 rw[h1,h2,Nat.pow_add 2,<-Nat.div_div_eq_div_mul,show 2^4=16 from rfl,Nat.mul_comm,Nat.div_add_mod]
theorem Pl (b e:Nat->Nat)(n c:Nat)(h: ∀i,i<n->e i<2^(4*c)):xo b e n c 0=1:=by
 refine Ma _ n fun i hi=>?_
 show b i^_=1
 rw[Nat.sub_zero,Nat.div_eq_of_lt (h i hi),Nat.pow_zero]
theorem G7 (b e:Nat->Nat)(n c:Nat):xo b e n c c=prd (fun i=>b i^e i) n:=by
 refine Un _ _ n fun i _=>?_
 show b i^_=b i^_
 rw[Nat.sub_self,Nat.mul_zero,Nat.pow_zero,Nat.div_one]
theorem G8 (M X j:Nat)(h:M%2=1)(h2:2<=M):mt (fm M (X^2^j)) (fm M (X^2^j)) M=fm M (X^2^(j+1)):=by
 rw[G5 M _ _ h h2,<-Nat.pow_add,<-Nat.two_mul,Nat.mul_comm 2,<-Nat.pow_succ]
theorem Me (e:Nat->Nat)(n:Nat)(i:Nat)(h:i<n):e i<2^(4*((mxL e n+3)/4)):=
 SR _ _ (Nat.le_trans (Hd e n i h) (by omega))
def ex2 (a b:Nat):Nat:=a+b/256*18446744073709551616
def IsP (n:Nat):Prop:=2<=n/\ ∀d,d∣n->d=1∨d=n
theorem Uo {p a:Nat}(hp:IsP p)(h: ¬p∣a):Nat.gcd p a=1:=by
 rcases hp.2 _ (Nat.gcd_dvd_left p a)with h1|h1
 ·exact h1
 ·exact absurd (h1▸Nat.gcd_dvd_right p a) h
theorem R9 {p a b:Nat}(hp:IsP p)(h:p∣a*b):p∣a∨p∣b:=by
 by_cases ha:p∣a
 ·exact .inl ha
 ·exact .inr ((Nat.Coprime.dvd_of_dvd_mul_left (Uo hp ha)) h)
theorem Qa {a b p:Nat}(h:a<=b):a%p=b%p↔p∣b-a:=by
 constructor
 ·intro e;exact Nat.dvd_of_mod_eq_zero (Nat.sub_mod_eq_zero_of_mod_eq e.symm)
 ·rintro⟨k,hk⟩;rw[show b=a+p*k by omega,Nat.add_mul_mod_self_left]
theorem Mf (n:Nat)(h:2<=n): ∃q,IsP q/\q∣n/\ ∀d,2<=d->d∣n->q<=d:=by
 have key: ∀k,∀m,m+k=n->(∀d,2<=d->d<m-> ¬d∣n)->2<=m-> ∃q,2<=q/\q∣n/\ ∀d,2<=d->d∣n->q<=d:=by
  intro k
  induction k with
  |zero=>
   intro m hm hl h2;exact⟨n,h,Nat.dvd_refl n,fun d hd hdn=>Nat.le_of_not_lt fun hlt=>hl d hd (by omega) hdn⟩
  |succ k ih=>
   intro m hm hl h2;by_cases hd:m∣n
   ·exact⟨m,h2,hd,fun d hd2 hdn=>Nat.le_of_not_lt fun hlt=>hl d hd2 hlt hdn⟩
   ·refine ih (m+1) (by omega) (fun d hd2 hlt=>?_) (by omega);by_cases e:d=m
    ·subst e;exact hd
    ·exact hl d hd2 (by omega)
 obtain⟨q,h2,hq,hl⟩:=key (n-2) 2 (by omega) (fun d h1 h2=>by omega) (Nat.le_refl _);refine⟨q,⟨h2,fun d hd=>?_⟩,hq,hl⟩;have hdn:=Nat.dvd_trans hd hq;have hdq:=Nat.le_of_dvd (by omega) hd;by_cases h1:d=1
 ·exact .inl h1
 ·have:d≠0:=fun e=>by subst e;have:=Nat.eq_zero_of_zero_dvd hd;omega
  exact .inr (Nat.le_antisymm hdq (hl d (by omega) hdn))
def Up:List Nat->Nat
 |[]=>1
 |x::l=>x*Up l
theorem OC {l m:List Nat}(h:l.Perm m):Up l=Up m:=by
 induction h with
 |nil=>rfl
 |cons x _ ih=>simp[Up,ih]
 |swap x y l=>simp only[Up];rw[<-Nat.mul_assoc,<-Nat.mul_assoc,Nat.mul_comm x y]
 |trans _ _ h1 h2=>exact h1.trans h2
theorem Uq: ∀(l m:List Nat),l.Nodup->(∀x∈l,x∈m)->m.length<=l.length->l.Perm m
 |[],m,_,_,h=>by
  have:m=[]:=List.length_eq_zero_iff.1 (by simpa using h);subst this;exact List.Perm.refl _
 |x::l,m,hn,hs,h=>by
  have hx:x∈m:=hs x (by simp);have hp:=List.perm_cons_erase hx;rw[List.nodup_cons]at hn;refine((Uq l (m.erase x) hn.2 (fun y hy=>?_) ?_).cons x).trans hp.symm
  ·have hne:y≠x:=fun e=>hn.1 (e▸hy)
   exact(List.mem_erase_of_ne hne).2 (hs y (by simp[hy]))
  ·rw[List.length_erase_of_mem hx];simp only[List.length_cons]at h;omega
theorem U9 {p:Nat}(hp:IsP p): ∀l:List Nat,(∀x∈l,¬p∣x)-> ¬p∣Up l
 |[],_,h=>by
  have h1:p<=1:=Nat.le_of_dvd (by decide) h;have:=hp.1;omega
 |x::l,hl,h=>by
  rcases R9 hp h with h1|h1
  ·exact hl x (by simp) h1
  ·exact U9 hp l (fun y hy=>hl y (by simp[hy])) h1
theorem SU (a p:Nat): ∀l:List Nat,Up (l.map fun x=>a*x%p)%p=a^l.length*Up l%p
 |[]=>by simp[Up]
 |x::l=>by
  have ih:=SU a p l;simp only[List.map_cons,Up,List.length_cons];rw[Nat.mul_mod,ih,Nat.mod_mod,<-Nat.mul_mod]
  congr 1
  rw[Nat.pow_succ];simp only[Nat.mul_comm,Nat.mul_left_comm,Nat.mul_assoc]
theorem Ta {p a b c:Nat}(hp:IsP p)(hc: ¬p∣c)(h:a*c%p=b*c%p):a%p=b%p:=by
 have key: ∀{a b:Nat},a<=b->a*c%p=b*c%p->a%p=b%p:=by
  intro a b hab h;have h1:p∣b*c-a*c:=(Qa (Nat.mul_le_mul_right c hab)).1 h;rw[<-Nat.sub_mul]at h1;rcases R9 hp h1 with h2|h2
  ·exact(Qa hab).2 h2
  ·exact absurd h2 hc
 rcases Nat.le_total a b with hab|hab
 ·exact key hab h
 ·exact(key hab h.symm).symm
theorem Da {p a:Nat}(hp:IsP p)(ha: ¬p∣a):a^(p-1)%p=1:=by
 have hp2:=hp.1
 have hperm:((List.range' 1 (p-1)).map fun x=>a*x%p).Perm (List.range' 1 (p-1)):=by
  refine Uq _ _ ?_ ?_ (by simp)
  ·rw[List.Nodup,List.pairwise_map];refine List.Pairwise.imp_of_mem ?_ (List.nodup_range' (s:=1) (n:=p-1));intro x y hx hy hne e;rw[List.mem_range'_1]at hx hy;have:=Ta hp ha (a:=x) (b:=y) (by rw[Nat.mul_comm x,Nat.mul_comm y];exact e);rw[Nat.mod_eq_of_lt (by omega),Nat.mod_eq_of_lt (by omega)]at this;exact hne this
  ·intro y hy;obtain⟨x,hx,rfl⟩:=List.mem_map.1 hy;rw[List.mem_range'_1]at hx ⊢;have hlt:=Nat.mod_lt (a*x) (show 0<p by omega)
   have h0:a*x%p≠0:=fun e=>by
    rcases R9 hp (Nat.dvd_of_mod_eq_zero e)with h1|h1
    ·exact ha h1
    ·have:=Nat.le_of_dvd (by omega) h1;omega
   omega
 have h1:=SU a p (List.range' 1 (p-1));rw[OC hperm,List.length_range']at h1
 have hnd: ¬p∣Up (List.range' 1 (p-1)):=U9 hp _ fun x hx h=>by
  rw[List.mem_range'_1]at hx;have:=Nat.le_of_dvd (by omega) h;omega
 have:=Ta hp hnd (a:=1) (b:=a^(p-1)) (by rw[Nat.one_mul];exact h1);rw[Nat.mod_eq_of_lt (by omega)]at this;exact this.symm
theorem Qb {b x q:Nat}(h:b^x%q=1%q)(k:Nat):b^(x*k)%q=1%q:=by
 rw[Nat.pow_mul,Nat.pow_mod,h,<-Nat.pow_mod,Nat.one_pow]
theorem G9 {b q:Nat}: ∀x y,b^x%q=1%q->b^y%q=1%q->b^(Nat.gcd x y)%q=1%q:=by
 intro x y
 induction x,y using Nat.gcd.induction with
 |H0 y=>intro _ h;rw[Nat.gcd_zero_left];exact h
 |H1 x y hx ih=>
  intro h1 h2;rw[Nat.gcd_rec];refine ih ?_ h1;have e:b^y=b^(x*(y/x))*b^(y%x):=by rw[<-Nat.pow_add,Nat.div_add_mod]
  rw[e,Nat.mul_mod,Qb h1,<-Nat.mul_mod,Nat.one_mul]at h2;exact h2
theorem Bk {n f b:Nat}(hf:IsP f)(hn:2<=n)(hsq:n<f*f)(hb:b^f%n=1)(hb1:1<=b)(hg:Nat.gcd n (b-1)=1):IsP n:=by
 obtain⟨q,hq,hqn,hl⟩:=Mf n hn;have hq2:=hq.1;have hone:1%q=1:=Nat.mod_eq_of_lt hq2
 have hbq:b^f%q=1%q:=by
  rw[<-Nat.mod_mod_of_dvd _ hqn,hb]
 have hnb: ¬q∣b:=fun h=>by
  have hf2:=hf.1
  have:q∣b^f:=by
   obtain⟨k,rfl⟩: ∃k,f=k+1:=⟨f-1,by omega⟩
   rw[Nat.pow_succ];exact Nat.dvd_trans h (Nat.dvd_mul_left b _)
  rw[Nat.mod_eq_zero_of_dvd this,hone]at hbq;cases hbq
 have hfe:=Da hq hnb
 have hfq:f∣q-1:=by
  apply Decidable.byContradiction;intro hnd;have h1:=G9 f (q-1) hbq (hfe.trans hone.symm);rw[Uo hf hnd,Nat.pow_one]at h1;have h2:q∣b-1:=(Qa hb1).1 h1.symm;have:=Nat.le_of_dvd (by decide) (hg▸Nat.dvd_gcd hqn h2);omega
 have hle:=Nat.le_of_dvd (by omega) hfq;refine⟨hn,fun d hd=>?_⟩;obtain⟨e,he⟩:=hd;by_cases h1:d=1
 ·exact .inl h1
 by_cases h2:e=1
 ·subst h2;exact .inr (by omega)
 exfalso
 have hd0:d≠0:=fun h=>by subst h;omega
 have he0:e≠0:=fun h=>by subst h;omega
 have hd1:=hl d (by omega) ⟨e,he⟩;have he1:=hl e (by omega) ⟨d,by rw[he,Nat.mul_comm]⟩;have h3:f*f<=d*e:=Nat.mul_le_mul (by omega) (by omega);omega
def Ur (n:Nat):Nat->Nat->Bool
 |0,_=>true
 |f+1,d=>if n<d*d then true else if n%d=0 then false else Ur n f (d+1)
theorem SV (n:Nat): ∀f d,Ur n f d=true↔ ∀e,d<=e->e<d+f->e*e<=n->n%e≠0
 |0,d=>by
  constructor
  ·intro _ e h1 h2;omega
  ·intro _;rfl
 |f+1,d=>by
  unfold Ur;by_cases h1:n<d*d
  ·rw[if_pos h1];refine⟨fun _ e he _ hn=>?_,fun _=>rfl⟩;have:d*d<=e*e:=Nat.mul_le_mul he he;omega
  ·rw[if_neg h1];by_cases h2:n%d=0
   ·rw[if_pos h2];constructor
    ·intro h;cases h
    ·intro h;exact absurd h2 (h d (Nat.le_refl _) (by omega) (by omega))
   ·rw[if_neg h2,SV n f (d+1)];constructor
    ·intro h e h3 h4 h5;by_cases e1:e=d
     ·subst e1;exact h2
     ·exact h e (by omega) (by omega) h5
    ·intro h e h3 h4 h5;exact h e (by omega) (by omega) h5
theorem SW (n f:Nat)(hf: ∀e,e*e<=n->e<2+f):Ur n f 2=true↔ ∀e,2<=e->e*e<=n->n%e≠0:=by
 rw[SV];exact⟨fun h e h1 h2=>h e h1 (hf e h2) h2,fun h e h1 _ h2=>h e h1 h2⟩
theorem Jn (n e:Nat)(h:e*e<=n):e<2+n:=by
 have:=Nat.le_mul_self e;omega
theorem SX {n:Nat}(h2:2<=n)(h: ∀e,2<=e->e*e<=n->n%e≠0):IsP n:=by
 refine⟨h2,fun d hd=>?_⟩;obtain⟨e,he⟩:=hd;by_cases h1:d=1
 ·exact .inl h1
 by_cases h3:e=1
 ·subst h3;exact .inr (by omega)
 exfalso
 have hd0:d≠0:=fun x=>by subst x;omega
 have he0:e≠0:=fun x=>by subst x;omega
 rcases Nat.le_total d e with hde|hde
 ·exact h d (by omega) (by rw[he];exact Nat.mul_le_mul_left d hde) (by rw[he];exact Nat.mul_mod_right d e)
 ·exact h e (by omega) (by rw[he];exact Nat.mul_le_mul_right e hde) (by rw[he];exact Nat.mul_mod_left d e)
def smN (n:Nat):Bool:=decide (2<=n)&&(decide (n<65536)&&Ur n n 2)
def smI (z:Int):Bool:=decide (2<=z)&&(decide (z<65536)&&Ur z.toNat z.toNat 2)
theorem Fa (n:Nat):smI (n:Int)=smN n:=by
 unfold smI smN;rw[Int.toNat_natCast,show decide ((2:Int)<=(n:Int))=decide (2<=n)from decide_eq_decide.2 (by omega),show decide ((n:Int)<65536)=decide (n<65536)from decide_eq_decide.2 (by omega)]
theorem Fb {n:Nat}(h:smN n=true):IsP n:=by
 unfold smN at h;rw[Bool.and_eq_true,Bool.and_eq_true,decide_eq_true_iff,decide_eq_true_iff]at h;exact SX h.1 ((SW n n (Jn n)).1 h.2.2)
def Fc (N F:Nat):Bool:=decide (N%2=1)&&(decide (N≠1)&&(decide (F≠0)&&(decide ((N-1)%F=0)&&decide (N<F*F))))
def shN (N F a:Nat):Bool:=decide ((a^((N-1)/F)%N)^F%N=1)&&decide (Nat.gcd N (a^((N-1)/F)%N-1)=1)
def stN (N F:Nat)(z:Int):Bool:=decide (2<=z)&&(decide (z<=65535)&&(Fc N F&&shN N F z.toNat))
theorem Fd {N F:Nat}{z:Int}(hF:IsP F)(h:stN N F z=true):IsP N:=by
 unfold stN Fc shN at h;simp only[Bool.and_eq_true,decide_eq_true_iff]at h;obtain⟨_,_,⟨h1,h2,h3,h4,h5⟩,h6,h7⟩:=h;have hN:2<=N:=by omega
 refine Bk hF hN h5 h6 ?_ h7;rcases Nat.eq_zero_or_pos (z.toNat^((N-1)/F)%N)with h0|h0
 ·rw[h0,Nat.zero_pow (by omega),Nat.zero_mod]at h6;cases h6
 ·exact h0
def lkN (N:Nat->Nat)(A:Nat->Int):Nat->Bool
 |0=>true
 |k+1=>lkN N A k&&stN (N (k+1)) (N k) (A (k+1))
theorem Qc (N:Nat->Nat)(A:Nat->Int): ∀n,lkN N A n=true↔ ∀k,k<n->stN (N (k+1)) (N k) (A (k+1))=true
 |0=>⟨fun _ k hk=>by omega,fun _=>rfl⟩
 |n+1=>by
  unfold lkN;rw[Bool.and_eq_true,Qc N A n];constructor
  ·rintro⟨h1,h2⟩ k hk;by_cases e:k=n
   ·subst e;exact h2
   ·exact h1 k (by omega)
  ·intro h;exact⟨fun k hk=>h k (by omega),h n (by omega)⟩
def chN (n:Nat)(N:Nat->Nat)(A:Nat->Int):Bool:=decide (1<=n)&&(decide (n<=8)&&(smN (N 0)&&(decide (A 0=0)&&lkN N A (n-1))))
theorem TQ {n:Nat}{N:Nat->Nat}{A:Nat->Int}(h:chN n N A=true): ∀k,k<n->IsP (N k):=by
 unfold chN at h;simp only[Bool.and_eq_true,decide_eq_true_iff]at h;obtain⟨_,_,h1,_,h2⟩:=h;rw[Qc]at h2;intro k
 induction k with
 |zero=>intro _;exact Fb h1
 |succ k ih=>intro hk;exact Fd (ih (by omega)) (h2 k (by omega))
def pwf (n:Nat):Nat->Nat->Nat->Nat
 |0,_,_=>1%n
 |f+1,a,e=>if e%2=1 then pwf n f (a*a%n) (e/2)*a%n else pwf n f (a*a%n) (e/2)
theorem Pm (n:Nat): ∀f a e,e<2^f->pwf n f a e=a^e%n
 |0,a,e,h=>by
  obtain rfl:e=0:=by simp at h;omega
  unfold pwf;rw[Nat.pow_zero]
 |f+1,a,e,h=>by
  have h2:e/2<2^f:=by rw[Nat.pow_succ]at h;omega
  unfold pwf;rw[Pm n f _ _ h2,<-Nat.pow_mod];have hsq:(a*a)^(e/2)=a^(2*(e/2)):=by rw[Nat.pow_mul,Nat.pow_two]
  by_cases ho:e%2=1
  ·rw[if_pos ho,hsq,Nat.mod_mul_mod,<-Nat.pow_succ,show(2*(e/2)).succ=e by omega]
  ·rw[if_neg ho,hsq,show 2*(e/2)=e by omega]
def stC (N F a:Nat):Bool:=decide (2<=a)&&(decide (a<=65535)&&(Fc N F&&(decide (pwf N 256 (pwf N 256 a ((N-1)/F)) F=1)&&decide (Nat.gcd N (pwf N 256 a ((N-1)/F)-1)=1))))
theorem Db {N F a:Nat}(hN:N<2^256)(hF:F<2^256)(h:stC N F a=true):stN N F (a:Int)=true:=by
 unfold stC at h;rw[Pm N 256 _ F hF,Pm N 256 a _ (Nat.lt_of_le_of_lt (Nat.le_trans (Nat.div_le_self _ _) (Nat.sub_le _ _)) hN)]at h;unfold stN shN;rw[Int.toNat_natCast,show decide ((2:Int)<=(a:Int))=decide (2<=a)from decide_eq_decide.2 (by omega),show decide ((a:Int)<=65535)=decide (a<=65535)from decide_eq_decide.2 (by omega)];exact h
def grN (n:Nat)(N:Nat->Nat)(A:Nat->Int)(G:Nat):Bool:=
 decide (2<=n)&&(chN n N A&&(decide (512<=N (n-2))&&(decide (G≠0)&&(decide (G≠1)&&(decide (G<N (n-1))&&decide (G^N (n-2)%N (n-1)=1))))))
theorem Qd (n:Nat)(N:Nat->Nat)(A:Nat->Int)(G:Nat):grN n N A G=true↔2<=n/\chN n N A=true/\512<=N (n-2)/\G≠0/\G≠1/\G<N (n-1)/\G^N (n-2)%N (n-1)=1:=by
 unfold grN;simp only[Bool.and_eq_true,decide_eq_true_iff]
def leL:List Nat:=[65521,1966023127,1055500680322183127]
def otL:List Nat:=[64817,1815135269,487269091447081429]
def grL:List Nat:=[65519,1313918027,88175567203779761,6353719225633997551192976661815171,128868735840905246597005622286753383510486359307609845843856143183]
def leG:Nat:=316543771439780984
def otG:Nat:=54624333139524128
def grG:Nat:=9151157341667469615800997130231454865425018181917904921479972729
def lN (l:List Nat)(k:Nat):Nat:=l.getD k 0
def SY (k:Nat):Int:=if k=0 then 0 else 2
def lkB (l:List Nat):Nat->Bool
 |0=>true
 |k+1=>lkB l k&&(decide (lN l (k+1)<2^256)&&(decide (lN l k<2^256)&&stC (lN l (k+1)) (lN l k) 2))
theorem He (l:List Nat): ∀n,lkB l n=true->lkN (lN l) SY n=true
 |0,_=>rfl
 |n+1,h=>by
  unfold lkB at h;rw[Bool.and_eq_true,Bool.and_eq_true,Bool.and_eq_true,decide_eq_true_iff,decide_eq_true_iff]at h;unfold lkN;rw[He l n h.1];have:=Db h.2.1 h.2.2.1 h.2.2.2;show(true&&stN (lN l (n+1)) (lN l n) ((2:Nat):Int))=true
  rw[this];rfl
def grC (l:List Nat)(G:Nat):Bool:=
 decide (2<=l.length)&&(decide (l.length<=8)&&(smN (lN l 0)&&(lkB l (l.length-1)&&(decide (512<=lN l (l.length-2))&&(decide (lN l (l.length-2)<2^256)&&(decide (G≠0)&&(decide (G≠1)&&(decide (G<lN l (l.length-1))&&decide (pwf (lN l (l.length-1)) 256 G (lN l (l.length-2))=1)))))))))
theorem Hf (l:List Nat)(G:Nat)(h:grC l G=true):grN l.length (lN l) SY G=true:=by
 unfold grC at h;simp only[Bool.and_eq_true,decide_eq_true_iff]at h;obtain⟨h1,h2,h3,h4,h5,h6,h7,h8,h9,h10⟩:=h;rw[Pm _ 256 _ _ h6]at h10;rw[Qd];refine⟨h1,?_,h5,h7,h8,h9,h10⟩;unfold chN;rw[h3,He l _ h4,decide_eq_true h2,decide_eq_true (show 1<=l.length by omega),decide_eq_true (show SY 0=0 from rfl)];rfl
set_option maxRecDepth 1000000 in
theorem Pn:grN 3 (lN leL) SY leG=true:=Hf leL leG (by kernel_rfl)
set_option maxRecDepth 1000000 in
theorem Jo:grN 3 (lN otL) SY otG=true:=Hf otL otG (by kernel_rfl)
theorem OD {n:Nat}{N:Nat->Nat}{A:Nat->Int}{G:Nat}(h:grN n N A G=true):IsP (N (n-1))/\IsP (N (n-2)):=by
 obtain⟨h1,h2,_⟩:=(Qd n N A G).1 h;exact⟨TQ h2 _ (by omega),TQ h2 _ (by omega)⟩
end Go.Proofs.YtcdahmommonnfaaGreatDoor
