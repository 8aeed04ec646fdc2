import Derived.Test.YtcdahmommonnfaaGreatDoorGH
namespace Go.Proofs.YtcdahmommonnfaaGreatDoor
set_option linter.all false
open Go.Proofs.Tryz
theorem GT (M n:Nat)(h:M%2=1):Nat.gcd (2^n) M=1:=by
 have h2:Nat.Coprime 2 M:=by
  unfold Nat.Coprime;rw[Nat.gcd_rec,h];rfl
 exact Nat.Coprime.pow_left n h2
def ri (M:Nat):Nat:=E2 (2^256) M
theorem Bh (M:Nat)(h:M%2=1)(h2:2<=M):ri M*2^256%M=1:=(E3 (2^256) M h2 (GT M 256 h)).2
def mt (A B M:Nat):Nat:=A*B*ri M%M
theorem Uh (A B M t:Nat)(h:M%2=1)(h2:2<=M)(ht:t<M)(he:t*2^256%M=A*B%M):t=mt A B M:=by
 unfold mt;rw[Nat.mul_mod (A*B),<-he,<-Nat.mul_mod,Nat.mul_assoc,Nat.mul_comm (2^256),Nat.mul_mod,Bh M h h2,Nat.mul_one,Nat.mod_mod,Nat.mod_eq_of_lt ht]
theorem Bi (A B M:Nat)(h2:2<=M):mt A B M<M:=Nat.mod_lt _ (by omega)
theorem Ui (A B M:Nat)(h:M%2=1)(h2:2<=M):mt A (B*2^256%M) M=A*B%M:=by
 refine(Uh A (B*2^256%M) M (A*B%M) h h2 (Nat.mod_lt _ (by omega)) ?_).symm;rw[Nat.mod_mul_mod,Nat.mul_mod A (B*2^256%M),Nat.mod_mod,<-Nat.mul_mod,Nat.mul_assoc]
def Mi (A B M k L v:Nat):Prop:=L<2^256/\ ∃q,q<2^(64*k)/\(L+2^256*v)*2^(64*k)=A%2^(64*k)*B+q*M
theorem Jd (A B M:Nat):Mi A B M 0 0 0:=⟨by decide,0,by decide,by rw[Nat.mul_zero,Nat.pow_zero,Nat.mod_one];simp⟩
theorem GU (A B M k L v:Nat)(hB:B<2^256)(hM:M<2^256)(h:Mi A B M k L v):v<=1:=by
 obtain⟨_,q,hq,e⟩:=h;have hP:=Nat.two_pow_pos (64*k);have ha:=Nat.mod_lt A hP;generalize 2^(64*k)=P at*;have h1:A%P*B<=P*B:=Nat.mul_le_mul_right _ (by omega);have h2:q*M<=P*M:=Nat.mul_le_mul_right _ (by omega)
 have h3:(L+2^256*v)*P<=(B+M)*P:=by rw[e,Nat.add_mul,Nat.mul_comm B,Nat.mul_comm M];omega
 have h4:=Nat.le_of_mul_le_mul_right h3 hP;omega
theorem GV (A B M k L v a S L' c v' ov o X c2 l3 ov2:Nat)(h:Mi A B M k L v)(ha:a=lm A k)(hS:S=B*a+L)(hL':L'=S%2^256)(hc:c=S/2^256)
  (hv':v'=(v+c)%18446744073709551616)(hov:ov=(v+c)/18446744073709551616)(ho:o<18446744073709551616)(hX:X=M*o+L')(hX0:X%18446744073709551616=0)(hc2:c2=X/2^256)
  (hl3:l3=(v'+c2)%18446744073709551616)(hov2:ov2=(v'+c2)/18446744073709551616):
  Mi A B M (k+1) (X/18446744073709551616%2^192+2^192*l3) (ov+ov2):=by
 obtain⟨_,q,hq,e⟩:=h
 have hx2:X/18446744073709551616=X/18446744073709551616%2^192+2^192*c2:=by
  rw[hc2,show 2^256=18446744073709551616*2^192 from rfl,<-Nat.div_div_eq_div_mul];have:=Nat.mod_add_div (X/18446744073709551616) (2^192);omega
 refine⟨?_,q+o*2^(64*k),?_,?_⟩
 ·have:X/18446744073709551616%2^192<2^192:=Nat.mod_lt _ (by decide)
  have:l3<18446744073709551616:=by rw[hl3];exact Nat.mod_lt _ (by decide)
  omega
 ·rw[Y5];generalize 2^(64*k)=P at*;have:(o+1)*P<=18446744073709551616*P:=Nat.mul_le_mul_right _ (by omega);rw[Nat.add_mul,Nat.one_mul]at this;rw[Nat.mul_comm P];omega
 ·have key:(X/18446744073709551616%2^192+2^192*l3+2^256*(ov+ov2))*18446744073709551616=L+2^256*v+B*a+M*o:=by
   generalize X/18446744073709551616%2^192=y at*;omega
  rw[XT,Y5,Nat.mul_comm (2^(64*k)) 18446744073709551616,<-Nat.mul_assoc,key,<-ha,Nat.add_mul,Nat.add_mul,e,Nat.add_mul,Nat.add_mul];generalize 2^(64*k)=P at*;have e1:P*a*B=B*a*P:=by rw[Nat.mul_comm,<-Nat.mul_assoc,Nat.mul_comm (B*P),Nat.mul_left_comm,<-Nat.mul_assoc]
  have e2:o*P*M=M*o*P:=by rw[Nat.mul_comm (o*P),Nat.mul_assoc]
  rw[e1,e2];omega
theorem GW (A B M L v:Nat)(h:M%2=1)(h2:2<=M)(hM:M<2^256)(hA:A<2^256)(hB:B<2^256)(hAB:A<M∨B<M)(hI:Mi A B M 4 L v):
  (v=0/\L<M->L=mt A B M)/\(¬(v=0/\L<M)->WU L M%2^256=mt A B M):=by
 obtain⟨hL,q,hq,e⟩:=hI;rw[show 64*4=256 from rfl,Nat.mod_eq_of_lt hA]at e;rw[show 64*4=256 from rfl]at hq
 have hab:A*B<2^256*M:=by
  rcases hAB with h1|h1
  ·rw[Nat.mul_comm A];rcases Nat.eq_zero_or_pos A with h0|h0
   ·rw[h0,Nat.mul_zero];exact Nat.mul_pos (by decide) (by omega)
   ·exact Nat.mul_lt_mul_of_lt_of_lt hB h1
  ·rcases Nat.eq_zero_or_pos B with h0|h0
   ·rw[h0,Nat.mul_zero];exact Nat.mul_pos (by decide) (by omega)
   ·exact Nat.mul_lt_mul_of_lt_of_lt hA h1
 have hqm:q*M<=(2^256-1)*M:=Nat.mul_le_mul_right _ (by omega)
 have hT:L+2^256*v<2*M:=by
  have h3:(L+2^256*v)*2^256<2*M*2^256:=by
   rw[e,Nat.mul_comm (2*M)]
   have:(2^256-1)*M+M=2^256*M:=by
    rw[<-Nat.succ_mul]
   omega
  exact Nat.lt_of_mul_lt_mul_right h3
 have hmod: ∀t z,t+z*M=L+2^256*v->t*2^256%M=A*B%M:=fun t z hz=>by
  have h4:t*2^256+z*2^256*M=A*B+q*M:=by
   rw[<-e,<-hz,Nat.add_mul,Nat.mul_assoc z,Nat.mul_assoc z,Nat.mul_comm M]
  have h5:(t*2^256+z*2^256*M)%M=t*2^256%M:=Nat.add_mul_mod_self_right _ _ _;have h6:(A*B+q*M)%M=A*B%M:=Nat.add_mul_mod_self_right _ _ _;rw[<-h5,h4,h6]
 refine⟨fun⟨h0,hl⟩=>?_,fun hn=>?_⟩
 ·exact Uh A B M L h h2 hl (hmod L 0 (by rw[h0];omega))
 ·have hge:M<=L+2^256*v:=by
   rcases Nat.eq_zero_or_pos v with h0|h0
   ·have: ¬L<M:=fun hl=>hn ⟨h0,hl⟩
    omega
   ·omega
  have hless:WU L M%2^256=L+2^256*v-M:=by
   unfold WU;rcases Nat.eq_zero_or_pos v with h0|h0
   ·subst h0;rw[show L+(2^256-M)=L+2^256*0-M+2^256*1 by omega,Nat.add_mul_mod_self_left,Nat.mod_eq_of_lt (by omega)]
   ·have:v=1:=by omega
    subst this;rw[show L+(2^256-M)=L+2^256*1-M by omega,Nat.mod_eq_of_lt (by omega)]
  rw[hless];exact Uh A B M _ h h2 (by omega) (hmod _ 1 (by omega))
def TL (S L j:Nat):Nat:=S%2^(64*j)+2^(64*j)*(L/2^(64*j))
theorem SL (S L:Nat):TL S L 0=L:=by unfold TL;rw[Nat.mul_zero,Nat.pow_zero,Nat.mod_one,Nat.div_one];omega
theorem W6 (S L j i:Nat):lm (TL S L j) i=if i<j then lm S i else lm L i:=by
 unfold TL;have hlt:=Nat.mod_lt S (Nat.two_pow_pos (64*j));rw[Nat.add_comm,Nat.two_pow_add_eq_or_of_lt hlt];apply Nat.eq_of_testBit_eq;intro b;rw[ZW,Nat.testBit_or,Nat.testBit_two_pow_mul,Nat.testBit_mod_two_pow,Nat.testBit_div_two_pow];by_cases hb:b<64
 ·by_cases hi:i<j
  ·rw[if_pos hi,ZW];simp[hb,show 64*i+b<64*j by omega,show ¬64*j<=64*i+b by omega]
  ·rw[if_neg hi,ZW];simp[hb,show ¬64*i+b<64*j by omega,show 64*j<=64*i+b by omega]
 ·split<;>rw[ZW]<;>simp[hb]
theorem SM (S L j v:Nat)(hj:j<4)(hv:v=lm S j):(Zc (TL S L j)).setIfInBounds j (.int .u64 v)=Zc (TL S L (j+1)):=by
 subst hv;refine Vg _ _ _ _ hj ?_ ?_
 ·rw[W6,if_pos (by omega)]
 ·intro i _ hne;rw[W6,W6];by_cases h:i<j
  ·rw[if_pos (by omega),if_pos h]
  ·rw[if_neg (by omega),if_neg h]
theorem NX (S L:Nat)(hL:L<2^256):TL S L 4=S%2^256:=by
 unfold TL;rw[show 64*4=256 from rfl,Nat.div_eq_of_lt hL,Nat.mul_zero,Nat.add_zero]
theorem Je (X j:Nat):lm (X/18446744073709551616) j=lm X (j+1):=by
 unfold lm;rw[Nat.div_div_eq_div_mul,show 18446744073709551616=2^64 from rfl,<-Nat.pow_add,show 64+64*j=64*(j+1) by omega]
theorem Jf (S L l3:Nat)(h3:l3<18446744073709551616):(Zc (TL S L 3)).setIfInBounds 3 (.int .u64 l3)=Zc (S%2^192+2^192*l3):=by
 have hl: ∀i,lm (S%2^192+2^192*l3) i=if i<3 then lm S i else lm (2^192*l3) i:=fun i=>by
  have:=W6 S (2^192*l3) 3 i;unfold TL at this;rw[show 64*3=192 from rfl,Nat.mul_div_cancel_left _ (by decide)]at this;exact this
 refine Vg _ _ _ _ (by decide) ?_ ?_
 ·rw[hl,if_neg (by decide)];unfold lm;rw[show 64*3=192 from rfl,Nat.mul_div_cancel_left _ (by decide),Nat.mod_eq_of_lt h3]
 ·intro i hi hne;rw[hl,W6,if_pos (by omega),if_pos (by omega)]
theorem Jg (M L mi:Nat)(hmi:mi*M%18446744073709551616=18446744073709551615):(M*(lm L 0*mi%18446744073709551616)+L)%18446744073709551616=0:=by
 have hl:lm L 0=L%18446744073709551616:=by unfold lm;rw[Nat.mul_zero,Nat.pow_zero,Nat.div_one]
 rw[hl,Nat.add_mod,Nat.mul_mod,Nat.mod_mod,<-Nat.mul_mod,Nat.mul_comm M,Nat.mul_assoc,Nat.mul_mod,hmi,Nat.mod_mod];omega
open Go.RowKit
theorem NY:(prog.info? 38).map (fun i=>(i.zero,i.size))=some (some (.agg (Zc 0)),4):=by kernel_rfl
theorem GX (w:World):(zeroValue 38).run prog w= .ok (.agg (Zc 0)) w:=(zero_of_info NY).1 w
theorem NZ:(prog.info? 38).map (·.size)=some 4:=(zero_of_info NY).2
def rgC (M mi one sq:Nat):Array Value:=#[.int .u64 (lm M 0),.int .u64 (lm M 1),.int .u64 (lm M 2),.int .u64 (lm M 3),.int .u64 mi,.int .u64 (lm one 0),.int .u64 (lm one 1),.int .u64 (lm one 2),.int .u64 (lm one 3),.int .u64 (lm sq 0),.int .u64 (lm sq 1),.int .u64 (lm sq 2),.int .u64 (lm sq 3)]
theorem SN (N:Nat):(Zc N).toList=[.int .u64 (lm N 0),.int .u64 (lm N 1),.int .u64 (lm N 2),.int .u64 (lm N 3)]:=rfl
theorem Uj {cs:Array Value}{off N:Nat}(h0:cs[off+0]?=some (.int .u64 (lm N 0)))(h1:cs[off+1]?=some (.int .u64 (lm N 1)))(h2:cs[off+2]?=some (.int .u64 (lm N 2)))(h3:cs[off+3]?=some (.int .u64 (lm N 3))):
  ∀j v,(Zc N).toList[j]?=some v->cs[off+j]?=some v:=by
 intro j v hv;rw[SN]at hv
 match j,hv with
 |0,hv=>rw[h0];exact hv
 |1,hv=>rw[h1];exact hv
 |2,hv=>rw[h2];exact hv
 |3,hv=>rw[h3];exact hv
 |j+4,hv=>simp at hv
theorem E4 (M mi one sq:Nat): ∀j v,(Zc M).toList[j]?=some v->(rgC M mi one sq)[0+j]?=some v:=Uj rfl rfl rfl rfl
theorem E5 (M mi one sq:Nat): ∀j v,(Zc one).toList[j]?=some v->(rgC M mi one sq)[5+j]?=some v:=Uj rfl rfl rfl rfl
theorem Bj (M mi one sq:Nat): ∀j v,(Zc sq).toList[j]?=some v->(rgC M mi one sq)[9+j]?=some v:=Uj rfl rfl rfl rfl
theorem N0 (M mi one sq j:Nat)(hj:j<4):(rgC M mi one sq)[j]?=some (.int .u64 (lm M j)):=by
 match j,hj with
 |0,_=>rfl
 |1,_=>rfl
 |2,_=>rfl
 |3,_=>rfl
theorem W7 {P:Program}{o:Oper}{ρ:Operand->Value}(t:TypeId)(x y:Operand)(u:TypeId)(ho:o.op= .binOp .add t x y u)(n m:Nat)(hx:ρ x= .int .u64 n)(hy:ρ y= .int .u64 m)(h:n+m<18446744073709551616)(w:World):
  (execOp ρ o).run P w= .ok (.value (.int .u64 ((n+m:Nat):Int))) w:=by
 unfold execOp;simp only[ho,hx,hy];simp[go_sem];rw[IntKind.wrap_u64];omega
theorem R4 {P:Program}{o:Oper}{ρ:Operand->Value}(t:TypeId)(x y:Operand)(u:TypeId)(ho:o.op= .binOp .mul t x y u)(n m:Nat)(hx:ρ x= .int .u64 n)(hy:ρ y= .int .u64 m)(w:World):
  (execOp ρ o).run P w= .ok (.value (.int .u64 ((n*m%18446744073709551616:Nat):Int))) w:=by
 unfold execOp;simp only[ho,hx,hy];simp[go_sem];rw[IntKind.wrap_u64]
set_option maxRecDepth 100000 in
set_option maxHeartbeats 1000000 in
theorem Ov (a b m c hi lo x1 y1 x2 y2:Nat)(w:World)(hb1:hi+y1<18446744073709551616)(hb2:hi+y1+y2<18446744073709551616)(e1:x1=U1 lo m 0)(e2:y1=RI lo m 0)(e3:x2=U1 x1 c 0)(e4:y2=RI x1 c 0)
  (hmu: ∀w',Calls prog 208 #[.int .u64 a,.int .u64 b] w' (Rt (.tuple #[.int .u64 hi,.int .u64 lo]) w')):
  Calls prog 182 #[.int .u64 a,.int .u64 b,.int .u64 m,.int .u64 c] w fun e w'=>e= .returned (.tuple #[.int .u64 x2,.int .u64 ((hi+y1+y2:Nat):Int)])/\Below w.heap.size w w':=by
 go_enter func182,ntmps182
 iterate 2 go_step
 apply Yc [] [_,_] trivial List.nodup_nil rfl;intro p;refine Zg (.int .u64 0) (fun _=>rfl) ?_;simp only[pv];refine Zg (.int .u64 0) (fun _=>rfl) ?_;simp only[pv];refine Zi ?_;intro vw1 hkw hrw hnew hdis;have sb:=k_b hkw;clear hkw hrw hnew hdis;iterate 3 go_step
 apply Yc [] [_,_,_,_,_,_,_,_] trivial List.nodup_nil rfl;intro p;refine m_m ?_;refine m_m ?_;simp only[pv];refine m_c 208 func208 #[.int .u64 a,.int .u64 b] hmu ?_;refine m_m ?_;refine m_e ?_;refine m_e ?_;refine m_a ?_;simp only[pv];refine m_a ?_;simp only[pv];refine Zi ?_;intro vw2 hkw hrw hnew hdis;replace sb:=kk sb hkw;clear hkw hrw hnew hdis;iterate 3 go_step
 apply Yc [] [_,_,_,_,_,_,_,_] trivial List.nodup_nil rfl;intro p;refine m_m ?_;refine m_m ?_;simp only[pv];refine Zg (.tuple #[.int .u64 x1,.int .u64 y1]) (fun w'=>(Wm 183 _ _ rfl func183 (by kernel_rfl) (by kernel_rfl) Xn Xm #[.int .u64 lo,.int .u64 m,.int .u64 (0:Nat)] rfl _ (YH _ _ _ (by omega) _)).trans (by rw[e1,e2])) ?_;refine m_m ?_;refine m_e ?_;refine m_e ?_;refine m_a ?_;simp only[pv];refine m_a ?_;simp only[pv];refine Zi ?_;intro vw3 hkw hrw hnew hdis;replace sb:=kk sb hkw;clear hkw hrw hnew hdis;iterate 3 go_step
 apply Yc [] [_,_,_,_] trivial List.nodup_nil rfl;intro p;refine m_m ?_;refine m_m ?_;simp only[pv];refine Zg _ (W7 _ _ _ _ rfl hi y1 rfl rfl hb1) ?_;refine m_a ?_;simp only[pv];refine Zi ?_;intro vw4 hkw hrw hnew hdis;replace sb:=kk sb hkw;clear hkw hrw hnew hdis;iterate 3 go_step
 apply Yc [] [_,_,_,_,_,_,_,_] trivial List.nodup_nil rfl;intro p;refine m_m ?_;refine m_m ?_;simp only[pv];refine Zg (.tuple #[.int .u64 x2,.int .u64 y2]) (fun w'=>(Wm 183 _ _ rfl func183 (by kernel_rfl) (by kernel_rfl) Xn Xm #[.int .u64 x1,.int .u64 c,.int .u64 (0:Nat)] rfl _ (YH _ _ _ (by omega) _)).trans (by rw[e3,e4])) ?_;refine m_m ?_;refine m_e ?_;refine m_e ?_;refine m_a ?_;simp only[pv];refine m_a ?_;simp only[pv];refine Zi ?_;intro vw5 hkw hrw hnew hdis;replace sb:=kk sb hkw;clear hkw hrw hnew hdis;iterate 3 go_step
 apply Yc [] [_,_,_,_,_,_] trivial List.nodup_nil rfl;intro p;refine m_m ?_;refine m_m ?_;refine m_m ?_;simp only[pv];refine Zg _ (W7 _ _ _ _ rfl (hi+y1) y2 rfl rfl hb2) ?_;refine m_a ?_;refine m_a ?_;simp only[pv];refine Zi ?_;intro vw6 hkw hrw hnew hdis;replace sb:=kk sb hkw;clear hkw hrw hnew hdis
 -- the rows that stand: 
 go_wp2;go_ret2;exact⟨rfl,sb⟩
theorem Uk (a b m c:Nat)(w:World)(ha:a<18446744073709551616)(hb:b<18446744073709551616)(hm:m<18446744073709551616)(hc:c<18446744073709551616):
  Calls prog 182 #[.int .u64 a,.int .u64 b,.int .u64 m,.int .u64 c] w (Rt (.tuple #[.int .u64 ((a*b+m+c)%18446744073709551616:Nat),.int .u64 ((a*b+m+c)/18446744073709551616:Nat)]) w):=by
 obtain⟨t1,t2,t3,t4⟩:=NE (a*b) m c (WC a b ha hb) hm hc;have:=Ov a b m c (a*b/18446744073709551616) (a*b%18446744073709551616) _ _ _ _ w t2 (by rw[t3];exact t4) rfl rfl rfl rfl (SG a b ha hb);rw[t1,t3]at this;exact this
theorem YJ {P:Program}{o:Oper}{ρ:Operand->Value}(t:TypeId)(x y:Operand)(u:TypeId)(ho:o.op= .binOp .add t x y u)(n m:Nat)(hx:ρ x= .int .i64 n)(hy:ρ y= .int .i64 m)(h:n+m<9223372036854775808)(w:World):
  (execOp ρ o).run P w= .ok (.value (.int .i64 ((n+m:Nat):Int))) w:=by
 unfold execOp;simp only[ho,hx,hy];simp[go_sem];rw[IntKind.wrap_i64];omega
theorem x_a {P:Program}{o:Oper}{ρ:Operand->Value}{t:TypeId}{x y:Operand}{u:TypeId}(n m:Nat)(h:n+m<9223372036854775808:=by omega)(ho:o.op= .binOp .add t x y u:=by exact rfl)(hx:ρ x= .int .i64 n:=by exact rfl)(hy:ρ y= .int .i64 m:=by exact rfl): ∀w,(execOp ρ o).run P w= .ok (.value (.int .i64 ((n+m:Nat):Int))) w:=YJ t x y u ho n m hx hy h
theorem Zq {P:Program}{o:Oper}{ρ:Operand->Value}(k:IntKind)(t:TypeId)(x y:Operand)(u:TypeId)(ho:o.op= .binOp .eql t x y u)(n m:Int)(hx:ρ x= .int k n)(hy:ρ y= .int k m)(b:Bool)(hb:decide (n=m)=b)(w:World):
  (execOp ρ o).run P w= .ok (.value (.bool b)) w:=by
 subst hb;unfold execOp;simp only[ho,hx,hy];simp[eqGuard,go_sem];rfl
theorem Yv {P:Program}{o:Oper}{ρ:Operand->Value}(t:TypeId)(x y:Operand)(u:TypeId)(ho:o.op= .binOp .lss t x y u)(n m:Int)(hx:ρ x= .int .i64 n)(hy:ρ y= .int .i64 m)(w:World):
  (execOp ρ o).run P w= .ok (.value (.bool (decide (n<m)))) w:=by
 unfold execOp;simp only[ho,hx,hy];simp[go_sem]
structure TH (wr w:World)(g0 g4 g5 g6 g7 A B M mi one sq L:Nat):Prop where
 r:Row wr g0 (rgC M mi one sq) 157
 a:Row wr g4 (Zc A) 39
 b:Row wr g5 (Zc B) 39
 z:Row wr g6 (Zc 0) 39
 l:Row wr g7 (Zc L) 38
 below:Below w.heap.size w wr
theorem TH.on {wr w w2:World}{g0 g4 g5 g6 g7 A B M mi one sq L:Nat}(h:TH wr w g0 g4 g5 g6 g7 A B M mi one sq L)(k:Kept [] wr w2):TH w2 w g0 g4 g5 g6 g7 A B M mi one sq L:=
 ⟨k.row h.r (by simp),k.row h.a (by simp),k.row h.b (by simp),k.row h.z (by simp),k.row h.l (by simp),h.below.trans (k.below w.heap.size h.below.size (by simp))⟩
theorem TH.put {wr w w2:World}{g0 g4 g5 g6 g7 A B M mi one sq L L':Nat}(h:TH wr w g0 g4 g5 g6 g7 A B M mi one sq L)(k:Kept [g7] wr w2)(r:Row w2 g7 (Zc L') 38)
  (h0:g0≠g7)(h4:g4≠g7)(h5:g5≠g7)(h6:g6≠g7)(h7:w.heap.size<=g7):TH w2 w g0 g4 g5 g6 g7 A B M mi one sq L':=
 ⟨k.row h.r (by simpa using h0),k.row h.a (by simpa using h4),k.row h.b (by simpa using h5),k.row h.z (by simpa using h6),r,h.below.trans (k.below w.heap.size h.below.size (by simpa using h7))⟩
set_option maxRecDepth 100000 in
set_option maxHeartbeats 4000000 in
theorem Xa (A B M mi one sq g0:Nat)(w:World)(hA:A<2^256)(hB:B<2^256)(hM:M<2^256)(ho:M%2=1)(h2:2<=M)(hmi:mi*M%18446744073709551616=18446744073709551615)(hml:mi<18446744073709551616)(hAB:A<M∨B<M)
  (r0:Row w g0 (rgC M mi one sq) 157):
  Calls prog 134 #[.pointer (some ⟨g0,0,none⟩),.agg (Zc A),.agg (Zc B)] w fun e w'=>e= .returned (.agg (Zc (mt A B M)))/\Below w.heap.size w w':=by
 have HH:Hid (A<2^256/\B<2^256/\M<2^256/\M%2=1/\2<=M/\mi*M%18446744073709551616=18446744073709551615/\mi<18446744073709551616/\(A<M∨B<M)):=⟨hA,hB,hM,ho,h2,hmi,hml,hAB⟩;clear hA hB hM ho h2 hmi hml hAB
 go_enter func134,ntmps134
 iterate 2 go_step
 apply Yc [] [_,_,_] trivial List.nodup_nil rfl;intro p;refine YD 39 _ rfl _ rfl ?_;simp only[pv];refine YD 39 _ rfl _ rfl ?_;simp only[pv];refine m_n ?_;simp only[pv];refine Zi ?_;intro vw1 hkw hrw hnew hdis;have n6:=hnew 2 rfl;have zr4:Row vw1 (p 0) (Zc A) 39:=hrw 1 (39,Zc A) rfl;have zr5:Row vw1 (p 1) (Zc B) 39:=hrw 3 (39,Zc B) rfl;have zr6:Row vw1 (p 2) (Zc 0) 39:=hrw 5 (39,Zc 0) rfl;have d0x6:=l_l r0.lt n6;replace r0:=hkw.ro r0;have sb:=k_b hkw;have b6:w.heap.size<=p 2:=n6;clear hkw hrw hnew hdis n6;generalize p 0=g4 at*;generalize p 1=g5 at*;generalize p 2=g6 at*;have r4:=zr4;clear zr4;have r5:=zr5;clear zr5;have r6:=zr6;clear zr6;iterate 3 go_step
 apply Yc [] [_] trivial List.nodup_nil rfl;intro p;refine U3 38 rfl _ GX ?_;simp only[pv];refine Zi ?_;intro vw2 hkw hrw hnew hdis;have n7:=hnew 0 rfl;have zr7:Row vw2 (p 0) (Zc 0) 38:=hrw 1 (38,Zc 0) rfl;have d0x7:=l_l r0.lt n7;have d4x7:=l_l r4.lt n7;have d5x7:=l_l r5.lt n7;have d6x7:=l_l r6.lt n7;replace r0:=hkw.ro r0;replace r4:=hkw.ro r4;replace r5:=hkw.ro r5;replace r6:=hkw.ro r6;have b7:=Nat.le_trans sb.size n7;replace sb:=kk sb hkw;clear hkw hrw hnew hdis n7;generalize p 0=g7 at*;have r7:=zr7;clear zr7
 -- the rows that stand: r0: rgC M mi one sq, r4: Zc A, r5: Zc B, r6: Zc 0, r7: Zc 0
 have H0:TH vw2 w g0 g4 g5 g6 g7 A B M mi one sq 0:=⟨r0,r4,r5,r6,r7,sb⟩;have HX:Hid (g0≠g7/\g4≠g7/\g5≠g7/\g6≠g7/\w.heap.size<=g7/\w.heap.size<=g6/\g0≠g6):=⟨by omega,by omega,by omega,by omega,b7,b6,by omega⟩;clear r0 r4 r5 r6 r7 sb b6 b7 d0x6 d0x7 d4x7 d5x7 d6x7
 go_wp2_with fail
 go_loopg [8,18] 4 (fun g s8 s18 wr=> ∃k L v:Nat,k+g=4/\s8= .int .u64 v/\s18= .int .i64 k/\Mi A B M k L v/\TH wr w g0 g4 g5 g6 g7 A B M mi one sq L)
 case atStart=>exact⟨0,0,0,by omega,rfl,rfl,Jd A B M,H0⟩
 case round=>
  obtain⟨k,L,v,hk,rfl,rfl,hI,hH⟩:=hrel;obtain⟨x0,x4,x5,x6,x7,x8,x9⟩:=HX.out;obtain⟨hA,hB,hM,ho,h2,hmi,hml,hAB⟩:=HH.out;clear H0
  cases gk with
  |zero=>
   obtain rfl:k=4:=by omega
   have HL:Hid ((v=0/\L<M->L=mt A B M)/\(¬(v=0/\L<M)->WU L M%2^256=mt A B M)):=GW A B M L v ho h2 hM hA hB hAB hI
   have HB:Hid (bN L M 256=if L<M then 1 else 0):=by
    show _=_
    unfold bN;rw[Nat.mod_eq_of_lt hI.1,Nat.mod_eq_of_lt hM]
   have hv1:=GU A B M 4 L v hB hM hI;have hsu:=fun w'=>Wk L M w' hM
   clear hk hI hA hB hM ho h2 hmi hml hAB HH;have hx: ¬((4:Int)<4):=by omega
   go_wp2;apply Zo (by kernel_rfl) [] [_,_,_,_,_,_,_,_,_,_,_,_] trivial List.nodup_nil
   ·intro p;refine RS 38 _ rfl _ rfl hH.l (by simp<;>omega) 4 _ underlying38 NZ ?_;refine m_m ?_;simp only[pv];refine Zg (.pointer (some ⟨g0,0,none⟩)) (Zl _ rfl g0 0 rfl) ?_;simp only[pv];refine Zg _ (Zb 157 _ 0 rfl g0 0 rfl _ underlying157 _ rfl 3 sizeOf39) ?_;simp only[pv];refine Xe 39 _ rfl _ (0) rfl hH.r (by simp<;>omega) (Zc M) (E4 M mi one sq) _ underlying39 rfl Ze ?_;simp only[pv];refine m_c 127 func127 #[.agg (Zc L),.agg (Zc M)] hsu ?_;refine m_m ?_;refine m_e ?_;refine m_e ?_;simp only[pv];refine m_n ?_;simp only[pv];refine m_p 19 (WU L M) ?_;simp only[Act.put];refine m_a ?_;simp only[pv];refine Zi ?_;intro w5 hkw hrw hnew _;have r16:Row w5 (p 9) (Zc (WU L M)) 39:=hrw 19 (39,Zc (WU L M)) rfl;have n16:=hnew 9 rfl;have r6:=hkw.row hH.z (by simp);have r7:=hkw.row hH.l (by simp);have d6:=l_l hH.z.lt n16;have sb:=hH.below.trans (hkw.below w.heap.size hH.below.size (by simp));clear hkw hrw hnew hH hsu n16;generalize p 9=g16 at*;by_cases hv0:v=0
    ·subst hv0;by_cases hlt:L<M
     ·have e1:Zc (mt A B M)=Zc L:=by rw[<-HL.out.1 ⟨rfl,hlt⟩]
      have eb:bN L M 256=1:=by rw[HB.out,if_pos hlt]
      rw[eb];clear HL HB hlt eb;iterate 4 go_step
      refine ZQ ?_;refine q_m ?_;simp only[pv];refine q_v _ (Zq .u64 _ _ _ _ rfl 0 0 rfl rfl true rfl) ?_;refine q_m ?_;refine q_m ?_;simp only[pv];refine q_v _ (Zq .i64 _ _ _ _ rfl 1 1 rfl rfl true rfl) ?_;refine q_p true (.bool true) ?_;simp only[pv];refine Z2 ?_;intro w6 hqb;replace r6:=r6.belowAll hqb;replace r7:=r7.belowAll hqb;replace sb:=b_o sb hqb;clear hqb;iterate 4 go_step
      apply Zd [(g6,39,Zc 0)] [_,_] ⟨r6,trivial⟩ (by simp<;>omega)
      ·intro p;refine RS 38 _ rfl _ rfl r7 (by simp<;>omega) 4 _ underlying38 NZ ?_;simp only[pv];refine m_p 0 L ?_;simp only[Act.put];refine Zi ?_;intro w7 hkw hrw hnew hdis;have zr6:Row w7 (g6) (Zc L) 39:=hrw 0 (39,Zc L) rfl;replace sb:=kk sb hkw;clear hkw hrw hnew hdis r6;have r6:=zr6;clear zr6;go_wp2;exact ZX rfl _ rfl r6 4 _ underlying39 (by exact Ze) rfl ⟨by rw[e1],sb⟩
      ·rfl
     ·have e1:Zc (mt A B M)=Zc (WU L M):=by rw[<-HL.out.2 (fun h=>hlt h.2),Yu]
      have eb:bN L M 256=0:=by rw[HB.out,if_neg hlt]
      rw[eb];clear HL HB hlt eb;iterate 4 go_step
      refine ZQ ?_;refine q_m ?_;simp only[pv];refine q_v _ (Zq .u64 _ _ _ _ rfl 0 0 rfl rfl true rfl) ?_;refine q_m ?_;refine q_m ?_;simp only[pv];refine q_v _ (Zq .i64 _ _ _ _ rfl 0 1 rfl rfl false rfl) ?_;refine q_p true (.bool false) ?_;simp only[pv];refine Z2 ?_;intro w6 hqb;replace r6:=r6.belowAll hqb;replace r16:=r16.belowAll hqb;replace sb:=b_o sb hqb;clear hqb;iterate 7 go_step
      apply Zd [(g6,39,Zc 0)] [_,_] ⟨r6,trivial⟩ (by simp<;>omega)
      ·intro p;refine m_l r16 ?_;simp only[pv];refine m_p 0 (WU L M) ?_;simp only[Act.put];refine Zi ?_;intro w7 hkw hrw hnew hdis;have zr6:Row w7 (g6) (Zc (WU L M)) 39:=hrw 0 (39,Zc (WU L M)) rfl;replace sb:=kk sb hkw;clear hkw hrw hnew hdis r6;have r6:=zr6;clear zr6;go_wp2;exact ZX rfl _ rfl r6 4 _ underlying39 (by exact Ze) rfl ⟨by rw[e1],sb⟩
      ·rfl
    ·have e1:Zc (mt A B M)=Zc (WU L M):=by rw[<-HL.out.2 (fun h=>hv0 h.1),Yu]
     have ev:v=1:=by omega
     subst ev;clear HL HB hv0;iterate 4 go_step
     refine ZQ ?_;refine q_m ?_;simp only[pv];refine q_v _ (Zq .u64 _ _ _ _ rfl 1 0 rfl rfl false rfl) ?_;refine q_m ?_;simp only[pv];refine ZI (by rfl) ?_;simp only[pv];refine ZI (by rfl) ?_;refine q_p false (.bool false) ?_;simp only[pv];refine Z2 ?_;intro w6 hqb;replace r6:=r6.belowAll hqb;replace r16:=r16.belowAll hqb;replace sb:=b_o sb hqb;clear hqb;iterate 7 go_step
     apply Zd [(g6,39,Zc 0)] [_,_] ⟨r6,trivial⟩ (by simp<;>omega)
     ·intro p;refine m_l r16 ?_;simp only[pv];refine m_p 0 (WU L M) ?_;simp only[Act.put];refine Zi ?_;intro w7 hkw hrw hnew hdis;have zr6:Row w7 (g6) (Zc (WU L M)) 39:=hrw 0 (39,Zc (WU L M)) rfl;replace sb:=kk sb hkw;clear hkw hrw hnew hdis r6;have r6:=zr6;clear zr6;go_wp2;exact ZX rfl _ rfl r6 4 _ underlying39 (by exact Ze) rfl ⟨by rw[e1],sb⟩
     ·rfl
   ·kernel_rfl
  |succ g=>
   have hlt:(k:Int)<4:=by omega
   have hk4:k<4:=by omega
   have HN:Hid (∀o X:Nat,o<18446744073709551616->X=M*o+(B*lm A k+L)%2^256->X%18446744073709551616=0->
     Mi A B M (k+1) (X/18446744073709551616%2^192+2^192*(((v+(B*lm A k+L)/2^256)%18446744073709551616+X/2^256)%18446744073709551616)) ((v+(B*lm A k+L)/2^256)/18446744073709551616+((v+(B*lm A k+L)/2^256)%18446744073709551616+X/2^256)/18446744073709551616)):=
    fun o X ho hX hX0=>GV A B M k L v _ _ _ _ _ _ o X _ _ _ hI rfl rfl rfl rfl rfl rfl ho hX hX0 rfl rfl rfl
   have hL:=hI.1;have hv1:=GU A B M k L v hB hM hI;have ha:=Xz A k;have HK:Hid (k+(g+1)=4):=hk;have HC:Hid (tlC B (lm A k) L 4=(B*lm A k+L)/2^256):=TA B (lm A k) L hB hL;have hca:=Yi A k hk4;clear hI hk;generalize lm A k=a at*;go_wp2
   go_loopg [10,21] 4 (fun g s10 s21 wr=> ∃j:Nat,j+g=4/\s10= .int .u64 (tlC B a L j:Nat)/\s21= .int .i64 j/\TH wr w g0 g4 g5 g6 g7 A B M mi one sq (TL (B*a+L) L j))
   case atStart=>exact⟨0,by omega,by rw[Tz];rfl,rfl,by rw[SL];exact hH⟩
   case round=>
    obtain⟨j,hj,rfl,rfl,hJ⟩:=hrel;clear hH
    cases gk with
    |zero=>
     obtain rfl:j=4:=by omega
     rw[NX _ _ hL]at hJ;rw[HC.out];have hx: ¬((4:Int)<4):=by omega
     have hcb:(B*a+L)/2^256<18446744073709551616:=by rw[<-HC.out];exact Q5 _ _ _ _ ha
     have hL':(B*a+L)%2^256<2^256:=Nat.mod_lt _ (by decide);clear hj HC hL;generalize (B*a+L)%2^256=L' at*;generalize (B*a+L)/2^256=c at*;have hX0:=Jg M L' mi hmi;have hoL:lm L' 0*mi%18446744073709551616<18446744073709551616:=Nat.mod_lt _ (by decide);have HN':=HN.out (lm L' 0*mi%18446744073709551616) _ hoL rfl hX0;have hbd:=GU A B M (k+1) _ _ hB hM HN';have hm0:=Xz M 0;have hl0:=Xz L' 0;have ht0:=fun w'=>Uk (lm L' 0*mi%18446744073709551616) (lm M 0) (lm L' 0) 0 w' hoL hm0 hl0 (by decide)
     have HC2:Hid (tlC M (lm L' 0*mi%18446744073709551616) L' 4=(M*(lm L' 0*mi%18446744073709551616)+L')/2^256):=TA M _ L' hM hL'
     have HC1:Hid ((lm L' 0*mi%18446744073709551616*lm M 0+lm L' 0+0)/18446744073709551616=tlC M (lm L' 0*mi%18446744073709551616) L' 1):=by
      show _=_
      rw[VW,Tz,Nat.mul_comm (lm M 0)]
     have hcl':=Yi L' 0 (by decide);have hcm':=N0 M mi one sq 0 (by decide);clear HN hmi hX0 hm0 hA hB ho h2 hAB HH hM hml;generalize hol:lm L' 0*mi%18446744073709551616=o at*;generalize hx0:o*lm M 0+lm L' 0+0=z0 at*
     go_step
     apply Zd [] [_] trivial List.nodup_nil
     ·intro p;refine Zg (.bool false) (fun w'=>(Yv _ _ _ _ rfl 4 4 rfl rfl w').trans rfl) ?_;simp only[pv];refine Zi ?_;intro w5 hkw _ _ _;replace hJ:=hJ.on hkw;clear hkw;iterate 8 go_step
      apply Zd [] [_,_,_,_,_,_,_,_] trivial List.nodup_nil
      ·intro p;refine m_m ?_;refine m_m ?_;simp only[pv];refine Zg (.tuple #[.int .u64 ((v+c)%18446744073709551616:Nat),.int .u64 ((v+c)/18446744073709551616:Nat)]) (fun w'=>Wm 183 _ _ rfl func183 (by kernel_rfl) (by kernel_rfl) Xn Xm #[.int .u64 v,.int .u64 c,.int .u64 (0:Nat)] rfl _ (YH _ _ _ (by omega) _)) ?_;refine m_m ?_;refine m_e ?_;refine m_e ?_;refine m_a ?_;simp only[pv];refine m_a ?_;simp only[pv];refine Zi ?_;intro w6 hkw _ _ _;replace hJ:=hJ.on hkw;clear hkw;generalize (v+c)%18446744073709551616=v' at*;generalize (v+c)/18446744073709551616=ov at*;iterate 3 go_step
       apply Zo (by kernel_rfl) [] [_,_,_,_,_,_,_,_] trivial List.nodup_nil
       ·intro p;refine Zg _ (Ya 38 _ _ rfl (g7) rfl (0) 4 rfl (by omega) _ underlying38 sizeOf37) ?_;simp only[pv];refine ZB 37 _ rfl _ (0) rfl hJ.l (by simp<;>omega) (.int .u64 (lm L' 0:Nat)) hcl' isAgg37 ?_;refine m_m ?_;simp only[pv];refine Zg (.pointer (some ⟨g0,0,none⟩)) (Zl _ rfl g0 0 rfl) ?_;simp only[pv];refine Zg _ (Zb 157 _ 1 rfl g0 0 rfl _ underlying157 _ rfl 0 sizeOf37) ?_;simp only[pv];refine ZB 37 _ rfl _ (4) rfl hJ.r (by simp<;>omega) (.int .u64 mi) rfl isAgg37 ?_;simp only[pv];refine Zg (.int .u64 o) (fun w'=>(R4 _ _ _ _ rfl (lm L' 0) mi rfl rfl w').trans (by rw[hol])) ?_;refine m_a ?_;simp only[pv];refine Zi ?_;intro w7 hkw _ _ _;replace hJ:=hJ.on hkw;clear hkw;iterate 3 go_step
        apply Zo (by kernel_rfl) [] [_,_,_,_,_,_,_,_,_,_,_,_,_] trivial List.nodup_nil
        ·intro p;refine m_m ?_;refine m_m ?_;simp only[pv];refine Zg (.pointer (some ⟨g0,0,none⟩)) (Zl _ rfl g0 0 rfl) ?_;simp only[pv];refine Zg _ (Zb 157 _ 0 rfl g0 0 rfl _ underlying157 _ rfl 3 sizeOf39) ?_;simp only[pv];refine Zg _ (Ya 39 _ _ rfl (g0) rfl (0) 4 rfl (by omega) _ underlying39 sizeOf37) ?_;simp only[pv];refine ZB 37 _ rfl _ (0) rfl hJ.r (by simp<;>omega) (.int .u64 (lm M 0:Nat)) hcm' isAgg37 ?_;simp only[pv];refine Zg _ (Ya 38 _ _ rfl (g7) rfl (0) 4 rfl (by omega) _ underlying38 sizeOf37) ?_;simp only[pv];refine ZB 37 _ rfl _ (0) rfl hJ.l (by simp<;>omega) (.int .u64 (lm L' 0:Nat)) hcl' isAgg37 ?_;simp only[pv];refine m_c 182 func182 #[.int .u64 o,.int .u64 (lm M 0:Nat),.int .u64 (lm L' 0:Nat),.int .u64 (0:Nat)] ht0 ?_;refine m_m ?_;refine m_e ?_;refine m_e ?_;refine m_a ?_;simp only[pv];refine Zi ?_;intro w8 hkw _ _ _;replace hJ:=hJ.on hkw;clear hkw ht0 hcl' hcm';rw[HC1.out];clear HC1 hx0 hol
         go_wp2_with fail
         go_loopg [10,66] 3 (fun g s10 s66 wr=> ∃j:Nat,j+g=3/\s10= .int .u64 (tlC M o L' (j+1):Nat)/\s66= .int .i64 j/\TH wr w g0 g4 g5 g6 g7 A B M mi one sq (TL ((M*o+L')/18446744073709551616) L' j))
         case atStart=>exact⟨0,by omega,rfl,rfl,by rw[SL];exact hJ⟩
         case round=>
          obtain⟨i,hi,rfl,rfl,hK⟩:=hrel;clear hJ
          cases gk with
          |zero=>
           obtain rfl:i=3:=by omega
           rw[show tlC M o L' (3+1)=(M*o+L')/2^256 from HC2.out];have hl3:(v'+(M*o+L')/2^256)%18446744073709551616<18446744073709551616:=Nat.mod_lt _ (by decide);have htop:=Jf ((M*o+L')/18446744073709551616) L' _ hl3;clear hi HC2 hl3;generalize TL ((M*o+L')/18446744073709551616) L' 3=Lm at*;generalize (M*o+L')/2^256=c2 at*;generalize (M*o+L')/18446744073709551616%2^192+2^192*((v'+c2)%18446744073709551616)=Ln at*
           go_step
           apply Zd [] [_] trivial List.nodup_nil
           ·intro p;refine Zg (.bool false) (fun w'=>(Yv _ _ _ _ rfl 3 3 rfl rfl w').trans rfl) ?_;simp only[pv];refine Zi ?_;intro w9 hkw _ _ _;replace hK:=hK.on hkw;clear hkw;iterate 8 go_step
            apply Zd [(g7,38,Zc Lm)] [_,_,_,_,_,_,_,_,_] ⟨hK.l,trivial⟩ (by simp<;>omega)
            ·intro p;refine m_m ?_;refine m_m ?_;simp only[pv];refine Zg (.tuple #[.int .u64 ((v'+c2)%18446744073709551616:Nat),.int .u64 ((v'+c2)/18446744073709551616:Nat)]) (fun w'=>Wm 183 _ _ rfl func183 (by kernel_rfl) (by kernel_rfl) Xn Xm #[.int .u64 v',.int .u64 c2,.int .u64 (0:Nat)] rfl _ (YH _ _ _ (by omega) _)) ?_;refine m_m ?_;refine m_e ?_;refine m_e ?_;simp only[pv];refine Zg _ (Ya 38 _ _ rfl (g7) rfl (3) 4 rfl (by omega) _ underlying38 sizeOf37) ?_;simp only[pv];refine W3 0 37 _ _ rfl (3) rfl rfl .u64 (((v'+c2)%18446744073709551616:Nat)) rfl sizeOf37 (by rw[Zt];omega) (Zc Ln) htop ?_;simp only[Act.put];refine m_a ?_;simp only[pv];refine Zi ?_;intro w10 hkw hrw _ _;have e7:Row w10 g7 (Zc Ln) 38:=hrw 0 (38,Zc Ln) rfl;have hK':=hK.put hkw e7 x0 x4 x5 x6 x7;clear hkw hrw e7 hK htop;generalize (v'+c2)/18446744073709551616=ov2 at*;iterate 2 go_step
             apply Zd [] [_,_,_,_] trivial List.nodup_nil
             ·intro p;refine m_m ?_;refine m_m ?_;simp only[pv];refine Zg _ (W7 _ _ _ _ rfl ov ov2 rfl rfl (by omega)) ?_;refine m_a ?_;simp only[pv];refine Zi ?_;intro w11 hkw _ _ _;replace hK':=hK'.on hkw;clear hkw;go_wp2
              go_roundg g
              case measure=>omega
              case rel=>
               have:=HK.out;exact⟨k+1,Ln,ov+ov2,by omega,rfl,by go_num,HN',hK'⟩
             ·rfl
            ·rfl
           ·rfl
          |succ g'=>
           have hil:(i:Int)<3:=by omega
           have hb:=Xz M (i+1);have hl:=Xz L' (i+1);have hc:=Q5 M o L' (i+1) hoL;have htm:=fun w'=>Uk o (lm M (i+1)) (lm L' (i+1)) (tlC M o L' (i+1)) w' hoL hb hl hc
           have hset:=SM ((M*o+L')/18446744073709551616) L' i _ (by omega) rfl;rw[Je,RV]at hset;have HC':Hid (tlC M o L' (i+1+1)=(lm M (i+1)*o+lm L' (i+1)+tlC M o L' (i+1))/18446744073709551616):=VW M o L' (i+1);rw[Nat.mul_comm (lm M (i+1))]at hset HC';have hcl:=Yi (TL ((M*o+L')/18446744073709551616) L' i) (i+1) (by omega);rw[W6,if_neg (by omega)]at hcl;have hcm:=N0 M mi one sq (i+1) (by omega);have HJ:Hid (i+(g'+1)=3):=hi;clear hi HN' HC2 hL' hv1 HK hcb hca;generalize TL ((M*o+L')/18446744073709551616) L' i=Lj at*;obtain⟨Lk,HLk⟩: ∃Lk,Hid (Lk=TL ((M*o+L')/18446744073709551616) L' (i+1)):=⟨_,rfl⟩
           rw[<-HLk.out]at hset;generalize tlC M o L' (i+1)=cc at*;generalize lm M (i+1)=b at*;generalize lm L' (i+1)=l at*;generalize (o*b+l+cc)%18446744073709551616=lo at*;generalize (o*b+l+cc)/18446744073709551616=hi at*;go_wp2;apply Zo (by kernel_rfl) [(g7,38,Zc Lj)] [_,_,_,_,_,_,_,_,_,_,_,_,_,_,_,_,_,_,_,_,_] ⟨hK.l,trivial⟩ (by simp<;>omega)
           ·intro p;refine m_m ?_;refine m_m ?_;refine m_m ?_;refine m_m ?_;simp only[pv];refine Zg _ (x_a i 1) ?_;simp only[pv];refine Zg (.pointer (some ⟨g0,0,none⟩)) (Zl _ rfl g0 0 rfl) ?_;simp only[pv];refine Zg _ (Zb 157 _ 0 rfl g0 0 rfl _ underlying157 _ rfl 3 sizeOf39) ?_;simp only[pv];refine Zg _ (Ya 39 _ _ rfl (g0) rfl ((i+1)) 4 rfl (by omega) _ underlying39 sizeOf37) ?_;simp only[pv];refine ZB 37 _ rfl _ ((i+1)) rfl hK.r (by simp<;>omega) (.int .u64 b) hcm isAgg37 ?_;refine m_m ?_;simp only[pv];refine Zg _ (x_a i 1) ?_;simp only[pv];refine Zg _ (Ya 38 _ _ rfl (g7) rfl ((i+1)) 4 rfl (by omega) _ underlying38 sizeOf37) ?_;simp only[pv];refine Vj 0 37 _ rfl ((i+1)) rfl rfl (.int .u64 l) hcl isAgg37 ?_;refine m_m ?_;simp only[pv];refine m_c 182 func182 #[.int .u64 o,.int .u64 b,.int .u64 l,.int .u64 cc] htm ?_;refine m_m ?_;refine m_e ?_;refine m_e ?_;simp only[pv];refine Zg _ (Ya 38 _ _ rfl (g7) rfl (i) 4 rfl (by omega) _ underlying38 sizeOf37) ?_;simp only[pv];refine W3 0 37 _ _ rfl (i) rfl rfl .u64 ((lo:Nat)) rfl sizeOf37 (by rw[Zt];omega) (Zc Lk) hset ?_;simp only[Act.put];refine m_a ?_;simp only[pv];refine Zi ?_;intro w9 hkw hrw _ _;have e7:Row w9 g7 (Zc Lk) 38:=hrw 0 (38,Zc Lk) rfl;have hK':=hK.put hkw e7 x0 x4 x5 x6 x7;clear hkw hrw e7 hK;go_wp2
            go_roundg g'
            case measure=>omega
            case rel=>
             have:=HJ.out;exact⟨i+1,by omega,by rw[HC'.out],by go_num,by rw[<-HLk.out];exact hK'⟩
           ·kernel_rfl
        ·kernel_rfl
       ·kernel_rfl
      ·rfl
     ·rfl
    |succ g'=>
     have hjl:(j:Int)<4:=by omega
     have hj4:j<4:=by omega
     have hb:=Xz B j;have hl:=Xz L j;have hc:=Q5 B a L j ha;have htm:=fun w'=>Uk a (lm B j) (lm L j) (tlC B a L j) w' ha hb hl hc
     have hset:=SM (B*a+L) L j _ hj4 rfl;rw[RV]at hset;have HC':Hid (tlC B a L (j+1)=(lm B j*a+lm L j+tlC B a L j)/18446744073709551616):=VW B a L j;rw[Nat.mul_comm (lm B j)]at hset HC';have hcl:=Yi (TL (B*a+L) L j) j hj4;rw[W6,if_neg (Nat.lt_irrefl j)]at hcl;have hcb:=Yi B j hj4;have HJ:Hid (j+(g'+1)=4):=hj;clear hj HN HC hL hA hB hM ho h2 hmi hml hAB HH hv1;generalize TL (B*a+L) L j=Lj at*;obtain⟨Lk,HLk⟩: ∃Lk,Hid (Lk=TL (B*a+L) L (j+1)):=⟨_,rfl⟩
     rw[<-HLk.out]at hset;generalize tlC B a L j=c at*;generalize lm B j=b at*;generalize lm L j=l at*;generalize (a*b+l+c)%18446744073709551616=lo at*;generalize (a*b+l+c)/18446744073709551616=hi at*;go_wp2;apply Zo (by kernel_rfl) [(g7,38,Zc Lj)] [_,_,_,_,_,_,_,_,_,_,_,_,_,_,_,_,_,_] ⟨hJ.l,trivial⟩ (by simp<;>omega)
     ·intro p;refine m_m ?_;refine m_m ?_;simp only[pv];refine Zg _ (Ya 39 _ _ rfl (g4) rfl (k) 4 rfl hk4 _ underlying39 sizeOf37) ?_;simp only[pv];refine ZB 37 _ rfl _ (k) rfl hJ.a (by simp<;>omega) (.int .u64 a) hca isAgg37 ?_;refine m_m ?_;simp only[pv];refine Zg _ (Ya 39 _ _ rfl (g5) rfl (j) 4 rfl hj4 _ underlying39 sizeOf37) ?_;simp only[pv];refine ZB 37 _ rfl _ (j) rfl hJ.b (by simp<;>omega) (.int .u64 b) hcb isAgg37 ?_;refine m_m ?_;simp only[pv];refine Zg _ (Ya 38 _ _ rfl (g7) rfl (j) 4 rfl hj4 _ underlying38 sizeOf37) ?_;simp only[pv];refine Vj 0 37 _ rfl (j) rfl rfl (.int .u64 l) hcl isAgg37 ?_;refine m_m ?_;simp only[pv];refine m_c 182 func182 #[.int .u64 a,.int .u64 b,.int .u64 l,.int .u64 c] htm ?_;refine m_m ?_;refine m_e ?_;refine m_e ?_;simp only[pv];refine Zg _ (Ya 38 _ _ rfl (g7) rfl (j) 4 rfl hj4 _ underlying38 sizeOf37) ?_;simp only[pv];refine W3 0 37 _ _ rfl (j) rfl rfl .u64 ((lo:Nat)) rfl sizeOf37 (by rw[Zt];omega) (Zc Lk) hset ?_;simp only[Act.put];refine m_a ?_;simp only[pv];refine Zi ?_;intro w5 hkw hrw _ _;have e7:Row w5 g7 (Zc Lk) 38:=hrw 0 (38,Zc Lk) rfl;have hJ':=hJ.put hkw e7 x0 x4 x5 x6 x7;clear hkw hrw e7 hJ;go_wp2
      go_roundg g'
      case measure=>omega
      case rel=>
       have:=HJ.out;exact⟨j+1,by omega,by rw[HC'.out],by go_num,by rw[<-HLk.out];exact hJ'⟩
     ·kernel_rfl
end Go.Proofs.YtcdahmommonnfaaGreatDoor
