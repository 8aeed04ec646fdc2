import Derived.Test.YtnagnkhbamhfmaaGreatDoorGR
set_option maxRecDepth 100000
set_option maxHeartbeats 8000000
namespace Go.Proofs.YtnagnkhbamhfmaaGreatDoor
set_option linter.all false
open Go.Proofs.Tryz
open Go.RowKit
theorem Nh:(prog.info? 226).map (fun i=>(i.zero,i.size,i.bytes))=some (some (.agg (Array.replicate 64 (.int .u64 0))),64,512):=by kernel_rfl
theorem Ni:(prog.info? 3).map (fun i=>(i.zero,i.size,i.bytes))=some (some (.int .i64 0),1,8):=by kernel_rfl
theorem A2 (n:Nat)(hn:n<=64)(w:World):(Instr.makeSlice 225 (.int .i64 n) (.int .i64 n)).run prog w= .ok (.slice (some ⟨w.heap.size,0,none⟩) n n) (w.alloc (.cells (nsC (16*n) fun _=>0) 226)):=by
 cases hi:prog.info? 226 with
 |none=>have:=Nh;rw[hi]at this;cases this
 |some i=>
  have h:=Nh;rw[hi]at h;simp only[aS0,aL0,dE0]at h;obtain⟨h1,h2,h3⟩:=h;have hr:=fU0 (P:=prog) w 225 226 i _ dD0 hi h1 .i64 .i64 (n:Int) (n:Int) (by omega) (by omega) (by rw[q_,h2];omega) (by rw[h3];omega) (by omega);rw[q_,h2]at hr;rw[hr,Cu (16*n) (n*64) _ (fun j hj=>by simp[Value.cells]at hj ⊢;simp[hj]) (by simp[Value.cells]) (by omega)]
theorem A3 (n:Nat)(hn:n<=64)(w:World):(Instr.makeSlice 50 (.int .i64 n) (.int .i64 n)).run prog w= .ok (.slice (some ⟨w.heap.size,0,none⟩) n n) (w.alloc (.cells (isC n fun _=>0) 3)):=by
 cases hi:prog.info? 3 with
 |none=>have:=Ni;rw[hi]at this;cases this
 |some i=>
  have h:=Ni;rw[hi]at h;simp only[aS0,aL0,dE0]at h;obtain⟨h1,h2,h3⟩:=h;have hr:=fU0 (P:=prog) w 50 3 i _ bF0 hi h1 .i64 .i64 (n:Int) (n:Int) (by omega) (by omega) (by rw[q_,h2];omega) (by rw[h3];omega) (by omega);rw[q_,h2,M_]at hr;rw[hr,show(Value.int .i64 0).cells=#[.int .i64 0]from rfl,Cv]
structure PwN (w':World)(s n g0:Nat)(bv:Value):Prop where
 r:Row w' s #[.pointer (some ⟨g0,0,none⟩)] 68
 b:Row w' (s+1) #[bv] 22
 rk:Row w' (s+1+1) (nsC (16*n) fun _=>0) 226
 k:Row w' (s+1+1+1) #[.slice (some ⟨s+1+1,0,none⟩) n n] 225
 ru:Row w' (s+1+1+1+1) (isC n fun _=>0) 3
 u:Row w' (s+1+1+1+1+1) #[.slice (some ⟨s+1+1+1+1,0,none⟩) n n] 50
theorem Mz (n g0 cb:Nat)(ab:Option Addr)(w:World)(hn:n<=64):
  Calls prog 159 #[.pointer (some ⟨g0,0,none⟩),.slice ab n cb] w fun e w'=>
   e= .returned (.func (.func 196) #[] #[.pointer (some ⟨w.heap.size+1+1+1+1+1,0,none⟩),.pointer (some ⟨w.heap.size,0,none⟩),.pointer (some ⟨w.heap.size+1,0,none⟩),.pointer (some ⟨w.heap.size+1+1+1,0,none⟩)])/\
   PwN w' w.heap.size n g0 (.slice ab n cb)/\Below w.heap.size w w':=by
 have hk:=A2 n hn;have hu:=A3 n hn
 go_enter func159,ntmps159
 go_wp2;go_ret;exact⟨rfl,⟨((((((Row.here (by first|rfl|simp only[ZW])).alloc _).alloc _).alloc _).alloc _).alloc _),(((((Row.here (by first|rfl|simp only[ZW])).alloc _).alloc _).alloc _).alloc _),((((Row.here (by first|rfl|simp only[ZW])).alloc _).alloc _).alloc _),(((Row.here (by first|rfl|simp only[ZW])).alloc _).alloc _),((Row.here (by first|rfl|simp only[ZW])).alloc _),(Row.here (by first|rfl|simp only[ZW]))⟩,(by repeat(first|exact H_ _ _|refine dN0 ?_ (by simp<;>omega) _))⟩
theorem MA {P:Program}{o:Oper}{ρ:Operand->Value}(t:TypeId)(x y:Operand)(u:TypeId)(ho:o.op= .binOp .shr t x y u)(n s:Nat)(hx:ρ x= .int .u64 n)(hy:ρ y= .int .i64 s)(hs:s<64)(w:World):
  (execOp ρ o).run P w= .ok (.value (.int .u64 ((n/2^s:Nat):Int))) w:=by
 unfold execOp;simp only[ho,hx,hy];simp[go_sem]
theorem US {o:Oper}{ρ:Operand->Value}(x:Operand)(ho:o.op= .convert 55 3 x)(n:Nat)(hx:ρ x= .int .u64 n)(h:n<9223372036854775808)(w:World):
  (execOp ρ o).run prog w= .ok (.value (.int .i64 n)) w:=by
 have u1:=dV0;have u2:=bS0;unfold execOp;simp only[ho,hx];simp[convert,V_ u1,V_ u2,go_sem];rw[J_];omega
theorem HU (A k:Nat):lm A (k*4/64)/2^(k*4%64)%16=A/2^(4*k)%16:=by
 apply y_;intro j;rw[show 16=2^4 from rfl,n_,n_,aU0,aU0,ZP];by_cases hj:j<4
 ·simp only[hj,decide_true,bD0,show j+k*4%64<64 by omega]
  congr 1;omega
 ·simp[hj]
theorem Qz (A k:Nat)(w:World)(hk:k<64):
  Calls prog 162 #[.agg (Zc A),.int .i64 k] w fun e w'=>e= .returned (.int .i64 (A/2^(4*k)%16:Nat))/\Below w.heap.size w w':=by
 have HD:=HU A k;have HD':Hid (lm A (k*4/64)/2^(k*4%64)%16=A/2^(4*k)%16):=HD;clear HD
 go_enter func162,ntmps162
 iterate 2 go_step
 apply ZH [] [_,_] trivial a_ rfl;intro p;refine Ya 57 _ rfl _ rfl ?_;simp only[pv];refine Ze (.int .i64 0) (fun _=>rfl) ?_;simp only[pv];refine Zf ?_;intro vw1 hkw hrw hnew hdis;have zr2:Row vw1 (p 0) (Zc A) 57:=hrw 1 (57,Zc A) rfl;have sb:=k_b hkw;clear hkw hrw hnew hdis;generalize p 0=g2 at*;have r2:=zr2;clear zr2;iterate 3 go_step
 apply ZH [] [_,_,_,_,_,_] trivial a_ rfl;intro p;refine m_m ?_;simp only[pv];refine Ze (.int .i64 ((k*4:Nat):Int)) (fun w'=>(SI _ _ _ _ rfl k 4 rfl rfl w').trans (by rw[show((k:Int)*4)=((k*4:Nat):Int) by omega,wrap_i64 _ (by omega)])) ?_;simp only[pv];refine Ze _ (X3 _ _ _ _ rfl (k*4) 64 rfl rfl (by omega) (by omega)) ?_;simp only[pv];refine Ze _ (Zt 57 _ _ rfl (g2) rfl ((k*4/64)) 4 rfl (by omega) _ b_ cA0) ?_;simp only[pv];refine Zs 55 _ rfl _ ((k*4/64)) rfl r2 (by simp<;>omega) (.int .u64 (lm (A) (k*4/64):Nat)) (Yh A (k*4/64) (by omega)) eG0 ?_;refine m_a ?_;simp only[pv];refine Zf ?_;intro vw2 hkw hrw hnew hdis;clear r2;replace sb:=kk sb hkw;clear hkw hrw hnew hdis;iterate 3 go_step
 apply ZH [] [_,_,_,_,_,_,_,_] trivial a_ rfl;intro p;refine m_m ?_;refine m_m ?_;simp only[pv];refine Ze (.int .i64 ((k*4:Nat):Int)) (fun w'=>(SI _ _ _ _ rfl k 4 rfl rfl w').trans (by rw[show((k:Int)*4)=((k*4:Nat):Int) by omega,wrap_i64 _ (by omega)])) ?_;simp only[pv];refine Ze _ (YO _ _ _ _ rfl (k*4) 64 rfl rfl (by omega)) ?_;simp only[pv];refine Ze _ (MA _ _ _ _ rfl _ (k*4%64) rfl rfl (by omega)) ?_;simp only[pv];refine Ze _ (SK _ _ _ _ rfl _ 16 rfl rfl (by omega)) ?_;simp only[pv];refine Ze (.int .i64 ((A/2^(4*k)%16:Nat):Int)) (fun w'=>(US _ rfl _ rfl (by omega) w').trans (by rw[HD'.out])) ?_;refine m_a ?_;simp only[pv];refine Zf ?_;intro vw3 hkw hrw hnew hdis;replace sb:=kk sb hkw;clear hkw hrw hnew hdis
 -- the rows that stand: 
 go_wp2;go_ret;exact⟨rfl,sb⟩
theorem MC {P:Program}{o:Oper}{ρ:Operand->Value}(t:TypeId)(x:Operand)(ho:o.op= .call {callee:=.builtin .len,args:=#[x],argTypes:=#[t]})(ab:Option Addr)(n c:Nat)(hx:ρ x= .slice ab n c)(hu:P.underlying t=some (.slice (P.elem t)))(w:World):
  (execOp ρ o).run P w= .ok (.value (.int .i64 n)) w:=by
 unfold execOp;simp only[ho];simp[resolve,invoke,builtin,hx,run_len_slice w t _ ab n c hu,goInt]
theorem n_l {P:Program}{o:Oper}{ρ:Operand->Value}{t:TypeId}{x:Operand}(ab:Option Addr)(n c:Nat)(hu:P.underlying t=some (.slice (P.elem t)))(ho:o.op= .call {callee:=.builtin .len,args:=#[x],argTypes:=#[t]}:=by exact rfl)(hx:ρ x= .slice ab n c:=by exact rfl): ∀w,(execOp ρ o).run P w= .ok (.value (.int .i64 n)) w:=MC t x ho ab n c hx hu
theorem MD {P:Program}{o:Oper}{ρ:Operand->Value}(x y:Operand)(ts:Array TypeId)(ho:o.op= .call {callee:=.builtin .max,args:=#[x,y],argTypes:=ts})(n m:Nat)(hx:ρ x= .int .i64 n)(hy:ρ y= .int .i64 m)(w:World):
  (execOp ρ o).run P w= .ok (.value (.int .i64 ((max n m:Nat):Int))) w:=by
 unfold execOp;simp only[ho];simp[resolve,invoke,builtin,hx,hy,Builtin.max_,Builtin.max2]
 split<;>omega
theorem Z2 {P:Program}{o:Oper}{ρ:Operand->Value}(t:TypeId)(x y:Operand)(u:TypeId)(ho:o.op= .binOp .sub t x y u)(n m:Nat)(hx:ρ x= .int .i64 n)(hy:ρ y= .int .i64 m)(hm:m<=n)(h:n<9223372036854775808)(w:World):
  (execOp ρ o).run P w= .ok (.value (.int .i64 ((n-m:Nat):Int))) w:=by
 unfold execOp;simp only[ho,hx,hy];simp[go_sem];rw[J_];omega
structure NatsAt (w:World)(ab:Option Addr)(n:Nat)(e:Nat->Nat)(gb ob:Nat)(bcs:Array Value)(tb:TypeId):Prop where
 at':n=0∨(ab=some ⟨gb,ob,none⟩/\WV w gb bcs tb/\ ∀i,i<n-> ∀j v,(Zc (e i)).toList[j]?=some v->bcs[ob+i*4+j]?=some v)
 lt: ∀i,i<n->e i<2^256
theorem NatsAt.on {w w2:World}{ab:Option Addr}{n:Nat}{e:Nat->Nat}{gb ob:Nat}{bcs:Array Value}{tb:TypeId}(h:NatsAt w ab n e gb ob bcs tb){S:List Nat}(hk:Kept S w w2)(hS: ∀x∈S,w.heap.size<=x):NatsAt w2 ab n e gb ob bcs tb:=
 ⟨h.at'.imp id fun⟨h1,h2,h3⟩=>⟨h1,hk.rowR h2 fun hm=>dB0 _ (l_ h2.lt (hS _ hm)),h3⟩,h.lt⟩
theorem NatsAt.below {w w2:World}{ab:Option Addr}{n:Nat}{e:Nat->Nat}{gb ob:Nat}{bcs:Array Value}{tb:TypeId}(h:NatsAt w ab n e gb ob bcs tb)(hb:Below w.heap.size w w2):NatsAt w2 ab n e gb ob bcs tb:=
 ⟨h.at'.imp id fun⟨h1,h2,h3⟩=>⟨h1,h2.belowAll hb,h3⟩,h.lt⟩
theorem Ww (A n:Nat)(h:A<2^n):bitLen A<=n:=by
 unfold bitLen
 split
 ·omega
 ·rename_i h0
  have:=(hB0 h0).2 h;omega
theorem Vb (A n:Nat)(h:bitLen A<=n):A<2^n:=by
 unfold bitLen at h
 split at h
 ·rename_i h0
  rw[h0];exact w_ n
 ·rename_i h0
  exact(hB0 h0).1 (by omega)
def mxL (e:Nat->Nat):Nat->Nat
 |0=>0
 |k+1=>max (mxL e k) (bitLen (e k))
theorem Kq (e:Nat->Nat): ∀n,(∀i,i<n->e i<2^256)->mxL e n<=256
 |0,_=>eU0 _
 |n+1,h=>by
  have h1:=Kq e n fun i hi=>h i (by omega)
  have h2:=Ww (e n) 256 (h n (by omega));show max (mxL e n) (bitLen (e n))<=256
  omega
theorem EF (e:Nat->Nat): ∀n i,i<n->bitLen (e i)<=mxL e n
 |0,i,h=>by omega
 |n+1,i,h=>by
  show _<=max (mxL e n) (bitLen (e n))
  by_cases hi:i=n
  ·subst hi;omega
  ·have:=EF e n i (by omega);omega
theorem Kr (n cb:Nat)(ab:Option Addr)(e:Nat->Nat)(gb ob:Nat)(bcs:Array Value)(tb:TypeId)(w:World)(hn:n<=64)(hN:NatsAt w ab n e gb ob bcs tb):
  Calls prog 160 #[.slice ab n cb] w fun r w'=>r= .returned (.int .i64 ((mxL e n+3)/4:Nat))/\Below w.heap.size w w':=by
 have HN:Hid (NatsAt w ab n e gb ob bcs tb):=hN;clear hN
 go_enter func160,ntmps160
 go_wp2_with fail
 go_loopg [3,8] n (fun g s3 s8 wr=> ∃i:Nat,i+g=n/\s3= .int .i64 (mxL e i:Nat)/\s8= .int .i64 i/\Below w.heap.size w wr)
 case atStart=>exact⟨0,by omega,rfl,rfl,H_ _ _⟩
 case round=>
  obtain⟨i,hi,rfl,rfl,sb⟩:=hrel
  cases gk with
  |zero=>
   obtain rfl:i=n:=by omega
   have hl:=Kq e i HN.out.lt;clear hi;generalize hL:mxL e i=L at*
   go_step
   apply Za [] [_] trivial a_
   ·intro p;refine Ze (.bool false) (fun w'=>(Ys _ _ _ _ rfl i i rfl rfl w').trans (by rw[e_ (iK0 _)])) ?_;simp only[pv];refine Zf ?_;intro w5 hkw hrw hnew hdis;replace sb:=kk sb hkw;clear hkw hrw hnew hdis;iterate 8 go_step
    apply Za [] [_,_,_,_,_] trivial a_
    ·intro p;refine m_m ?_;simp only[pv];refine Ze _ (x_a L 4) ?_;simp only[pv];refine Ze (.int .i64 ((L+3:Nat):Int)) (fun w'=>(Z2 _ _ _ _ rfl (L+4) 1 rfl rfl (by omega) (by omega) w').trans (by rw[show L+4-1=L+3 by omega])) ?_;simp only[pv];refine Ze _ (X3 _ _ _ _ rfl (L+3) 4 rfl rfl (by omega) (by omega)) ?_;refine m_a ?_;simp only[pv];refine Zf ?_;intro w6 hkw hrw hnew hdis;replace sb:=kk sb hkw;clear hkw hrw hnew hdis;go_wp2;go_ret;exact⟨by rw[hL];rfl,sb⟩
    ·rfl
   ·rfl
  |succ g=>
   have hlt:i<n:=by omega
   have hb':=HN.out.lt i hlt;have hle:=fun w'=>Vq (e i) w' hb'
   go_step
   apply Za [] [_] trivial a_
   ·intro p;refine Ze (.bool true) (fun w'=>(Ys _ _ _ _ rfl i n rfl rfl w').trans (by rw[d_ (by omega)])) ?_;simp only[pv];refine Zf ?_;intro w5 hkw hrw hnew hdis;replace sb:=kk sb hkw;clear hkw hrw hnew hdis;obtain h0|⟨rfl,rB,hat⟩:=(HN.out.below sb).at'
    ·omega
    iterate 10 go_step
    apply Za [] [_,_,_,_] trivial a_
    ·intro p;refine m_x i hlt r_ ZC ?_;simp only[pv];refine Yj 57 _ rfl _ ((ob+i*4)) rfl rB (by simp<;>omega) (Zc (e i)) (hat i hlt) _ b_ rfl Zd ?_;simp only[pv];refine m_n ?_;simp only[pv];refine m_p 5 (e i) ?_;simp only[Act.put];refine Zf ?_;intro w6 hkw hrw hnew hdis;have n5:=hnew 2 rfl;have zr5:Row w6 (p 2) (Zc (e i)) 57:=hrw 5 (57,Zc (e i)) rfl;replace sb:=kk sb hkw;clear hkw hrw hnew hdis n5;generalize p 2=g5 at*;have r5:=zr5;clear zr5;iterate 2 go_step
     apply Za [] [_,_,_,_,_] trivial a_
     ·intro p;refine m_m ?_;simp only[pv];refine m_l r5 ?_;simp only[pv];refine m_c 111 func111 #[.agg (Zc (e i))] hle ?_;simp only[pv];refine Ze _ (MD _ _ _ rfl (mxL e i) (bitLen (e i)) rfl rfl) ?_;refine m_a ?_;simp only[pv];refine Zf ?_;intro w7 hkw hrw hnew hdis;replace sb:=kk sb hkw;clear hkw hrw hnew hdis;iterate 2 go_step
      apply Za [] [_,_] trivial a_
      ·intro p;refine Ze _ (x_a i 1) ?_;refine m_m ?_;simp only[pv];refine Zf ?_;intro w8 hkw hrw hnew hdis;replace sb:=kk sb hkw;clear hkw hrw hnew hdis;go_wp2
       go_roundg g
       case measure=>omega
       case rel=>exact⟨i+1,by omega,rfl,rfl,sb⟩
      ·rfl
     ·rfl
    ·rfl
   ·rfl
def prd (f:Nat->Nat):Nat->Nat
 |0=>1
 |k+1=>prd f k*f k
def fm (M X:Nat):Nat:=X*2^256%M
theorem H3 (M X:Nat)(h:2<=M):fm M X<M:=m_ _ (by omega)
theorem Cw (M X Y:Nat)(h:M%2=1)(h2:2<=M):mt (fm M X) (fm M Y) M=fm M (X*Y):=by
 unfold fm;rw[Tz _ Y M h h2,fD0,x_,t_ (2^256),<-x_]
theorem QA (M b j:Nat):fpw M b j=fm M (b^j):=rfl
theorem Cx (A B M:Nat):mt A B M=mt B A M:=by
 unfold mt;rw[t_ A]
theorem H4 (M X:Nat)(h:M%2=1)(h2:2<=M):mt (fm M X) 1 M=X%M:=by
 rw[Cx];unfold fm;rw[Tz _ X M h h2,cM0]
theorem A4 (M:Nat):WX M=fm M 1:=by
 unfold fm WX;rw[cM0]
theorem TC (f g:Nat->Nat): ∀n,(∀i,i<n->f i=g i)->prd f n=prd g n
 |0,_=>rfl
 |n+1,h=>by
  show prd f n*f n=prd g n*g n
  rw[TC f g n fun i hi=>h i (by omega),h n (by omega)]
theorem Ks (f:Nat->Nat): ∀n,(∀i,i<n->f i=1)->prd f n=1
 |0,_=>rfl
 |n+1,h=>by
  show prd f n*f n=1
  rw[Ks f n fun i hi=>h i (by omega),h n (by omega)]
theorem Rz (f:Nat->Nat)(n:Nat):prd f (n+1)=prd f n*f n:=rfl
theorem Nj (b p q:Nat->Nat)(s:Nat): ∀n,prd (fun i=>b i^p i) n^s*prd (fun i=>b i^q i) n=prd (fun i=>b i^(p i*s+q i)) n
 |0=>by simp[prd]
 |n+1=>by
  rw[Rz,Rz,Rz,<-Nj b p q s n,Nat.mul_pow,<-iL0,Z_];generalize prd (fun i=>b i^p i) n^s=x;generalize prd (fun i=>b i^q i) n=y;generalize b n^(p n*s)=z;rw[x_,x_,eH0 z]
def xo (b e:Nat->Nat)(n c t:Nat):Nat:=prd (fun i=>b i^(e i/2^(4*(c-t)))) n
def xi (b e:Nat->Nat)(n c t k:Nat):Nat:=xo b e n c t^16*prd (fun i=>b i^(e i/2^(4*(c-1-t))%16)) k
theorem Kt (b e:Nat->Nat)(n c t:Nat):xi b e n c t 0=xo b e n c t^16:=M_ _
theorem Ku (b e:Nat->Nat)(n c t k:Nat):xi b e n c t (k+1)=xi b e n c t k*b k^(e k/2^(4*(c-1-t))%16):=(x_ _ _ _).symm
theorem Kv (b e:Nat->Nat)(n c t:Nat)(h:t<c):xi b e n c t n=xo b e n c (t+1):=by
 unfold xi xo;rw[Nj];refine TC _ _ n fun i _=>?_
 have h1:4*(c-t)=4*(c-1-t)+4:=by omega
 have h2:c-(t+1)=c-1-t:=by omega
 show b i^_=b i^_
 rw[h1,h2,Z_ 2,<-v_,show 2^4=16 from rfl,t_,I_]
theorem Nk (b e:Nat->Nat)(n c:Nat)(h: ∀i,i<n->e i<2^(4*c)):xo b e n c 0=1:=by
 refine Ks _ n fun i hi=>?_
 show b i^_=1
 rw[Nat.sub_zero,F_ (h i hi),W_]
theorem Cy (b e:Nat->Nat)(n c:Nat):xo b e n c c=prd (fun i=>b i^e i) n:=by
 refine TC _ _ n fun i _=>?_
 show b i^_=b i^_
 rw[fR0,bE0,W_,bR0]
theorem Cz (M X j:Nat)(h:M%2=1)(h2:2<=M):mt (fm M (X^2^j)) (fm M (X^2^j)) M=fm M (X^2^(j+1)):=by
 rw[Cw M _ _ h h2,<-Z_,<-Nat.two_mul,t_ 2,<-cN0]
theorem Kw (e:Nat->Nat)(n:Nat)(i:Nat)(h:i<n):e i<2^(4*((mxL e n+3)/4)):=
 Vb _ _ (f_ (EF e n i h) (by omega))
def ex2 (a b:Nat):Nat:=a+b/256*18446744073709551616
end Go.Proofs.YtnagnkhbamhfmaaGreatDoor
