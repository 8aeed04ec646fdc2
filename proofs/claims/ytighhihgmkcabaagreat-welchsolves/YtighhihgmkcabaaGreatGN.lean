import Derived.Test.YtighhihgmkcabaaGreatGM
import Derived.Test.YtighhihgmkcabaaGreatGH
namespace Go.Proofs.YtighhihgmkcabaaGreat
set_option linter.unusedVariables false
open Go.RowKit
set_option maxRecDepth 100000 in
set_option maxHeartbeats 1000000 in
theorem nats_any (N:Nat)(w:World):
  Calls Tryz.prog 87 #[.agg (digC N)] w fun e w'=>e= .returned (.tuple #[.agg (natC N),.agg (natC (N/2^256))])/\Below w.heap.size w w':=by
 have H:Hid (∀k,dg N (16+k)=dg (N/2^256) k):=high_mod N
 generalize N/2^256=T at*
 have s0:Row (((((w.alloc (.cells (digC N) 119)).alloc (.cells (natC 0) 43)).alloc (.cells (natC 0) 43)).alloc (.cells (natC 0) 43)).alloc (.cells (natC 0) 43)) w.heap.size (digC N) 119:=(((((Row.here (by first|rfl|simp only[alloc_size])).alloc _).alloc _).alloc _).alloc _)
 have s1:Row (((((w.alloc (.cells (digC N) 119)).alloc (.cells (natC 0) 43)).alloc (.cells (natC 0) 43)).alloc (.cells (natC 0) 43)).alloc (.cells (natC 0) 43)) (w.heap.size+1) (natC 0) 43:=((((Row.here (by first|rfl|simp only[alloc_size])).alloc _).alloc _).alloc _)
 have s2:Row (((((w.alloc (.cells (digC N) 119)).alloc (.cells (natC 0) 43)).alloc (.cells (natC 0) 43)).alloc (.cells (natC 0) 43)).alloc (.cells (natC 0) 43)) (w.heap.size+1+1) (natC 0) 43:=(((Row.here (by first|rfl|simp only[alloc_size])).alloc _).alloc _)
 have s3:Row (((((w.alloc (.cells (digC N) 119)).alloc (.cells (natC 0) 43)).alloc (.cells (natC 0) 43)).alloc (.cells (natC 0) 43)).alloc (.cells (natC 0) 43)) (w.heap.size+1+1+1) (natC 0) 43:=((Row.here (by first|rfl|simp only[alloc_size])).alloc _)
 have s4:Row (((((w.alloc (.cells (digC N) 119)).alloc (.cells (natC 0) 43)).alloc (.cells (natC 0) 43)).alloc (.cells (natC 0) 43)).alloc (.cells (natC 0) 43)) (w.heap.size+1+1+1+1) (natC 0) 43:=(Row.here (by first|rfl|simp only[alloc_size]))
 have s4':=s4.setRow_far (w.heap.size+1+1+1) (natC 0) (by omega)
 have sb:Below w.heap.size w (((((w.alloc (.cells (digC N) 119)).alloc (.cells (natC 0) 43)).alloc (.cells (natC 0) 43)).alloc (.cells (natC 0) 43)).alloc (.cells (natC 0) 43)):=(by repeat(first|exact Below.refl _ _|refine Below.alloc ?_ (by simp<;>omega) _))
 go_enter Tryz.func87,Tryz.ntmps87
 go_wp2_with (first
  |refine wpList_box_row rfl 119 _ rfl _ rfl ?_
  |refine wpList_alloc_row rfl 43 rfl _ zero_nat ?_
  |refine wpList_build_zero rfl 43 rfl _ built_nat ?_
  |refine wpList_storeR rfl 43 _ _ rfl (w.heap.size+1+1+1) _ (by first|rfl|(unfold Act.eval Act.put;simp;done)|(unfold Act.eval;simp;done)) rfl s3 (by exact size_nat) (by simp only[natC_size]) (natC_one _) ?_
  |refine wpList_storeR rfl 43 _ _ rfl (w.heap.size+1+1+1+1) _ (by first|rfl|(unfold Act.eval Act.put;simp;done)|(unfold Act.eval;simp;done)) rfl s4' (by exact size_nat) (by simp only[natC_size]) (natC_one _) ?_)
 have t0:=(s0.setRow_far (w.heap.size+1+1+1) (natC 0) (by omega)).setRow_far (w.heap.size+1+1+1+1) (natC 0) (by omega)
 have t1:=(s1.setRow_far (w.heap.size+1+1+1) (natC 0) (by omega)).setRow_far (w.heap.size+1+1+1+1) (natC 0) (by omega)
 have t2:=(s2.setRow_far (w.heap.size+1+1+1) (natC 0) (by omega)).setRow_far (w.heap.size+1+1+1+1) (natC 0) (by omega)
 have t3:=(s3.setRow (natC 0)).setRow_far (w.heap.size+1+1+1+1) (natC 0) (by omega)
 have t4:=s4'.setRow (natC 0)
 have tb:=below_setRow (below_setRow sb (g:=w.heap.size+1+1+1) (by omega) (natC 0)) (g:=w.heap.size+1+1+1+1) (by omega) (natC 0)
 clear s0 s1 s2 s3 s4 s4' sb
 generalize (World.setRow (World.setRow (((((w.alloc (.cells (digC N) 119)).alloc (.cells (natC 0) 43)).alloc (.cells (natC 0) 43)).alloc (.cells (natC 0) 43)).alloc (.cells (natC 0) 43)) (w.heap.size+1+1+1) (natC 0)) (w.heap.size+1+1+1+1) (natC 0))=W at*
 go_loopg [6] 16 (fun g s6 wr=> ∃k:Nat,k+g=16/\s6= .int .i64 k/\Row wr w.heap.size (digC N) 119/\Row wr (w.heap.size+1) (natC 0) 43/\Row wr (w.heap.size+1+1) (natC 0) 43/\Row wr (w.heap.size+1+1+1) (natC (N%2^(16*k))) 43/\Row wr (w.heap.size+1+1+1+1) (natC (T%2^(16*k))) 43/\Below w.heap.size w wr)
 case atStart=>exact⟨0,by omega,rfl,t0,t1,t2,by rw[Nat.mul_zero,Nat.pow_zero,Nat.mod_one];exact t3,by rw[Nat.mul_zero,Nat.pow_zero,Nat.mod_one];exact t4,tb⟩
 case round=>
  obtain⟨k,hk,rfl,r0,r1,r2,r3,r4,hb⟩:=hrel
  clear t0 t1 t2 t3 t4 tb
  cases gk with
  |zero=>
   obtain rfl:k=16:=by omega
   rw[show 16*16=256 from rfl,natC_full]at r3 r4
   clear hk H
   have hx: ¬((16:Int)<16):=by omega
   go_wp2
   apply wp_region_mix (by kernel_rfl) [(w.heap.size+1,43,natC 0),(w.heap.size+1+1,43,natC 0)] [_,_,_,_] ⟨r1,r2,trivial⟩ (by simp<;>omega)
   ·intro p;refine m_l r3 ?_;simp only[pv];refine m_l r4 ?_;simp only[pv];refine m_p 0 N ?_;simp only[Act.put];refine m_p 2 T ?_;simp only[Act.put];refine mx_end ?_;intro w7 hkw hrw _ _
    have e1:Row w7 (w.heap.size+1) (natC N) 43:=hrw 0 _ rfl
    have e2:Row w7 (w.heap.size+1+1) (natC T) 43:=hrw 2 _ rfl
    have b7:=hb.trans (hkw.below w.heap.size hb.size (by simp<;>omega))
    go_wp2
    exact ret_rows2 rfl _ rfl e1 _ rfl e2 4 _ Tryz.underlying43 (by exact size_nat) (by exact size_nat) rfl ⟨rfl,b7⟩
   ·kernel_rfl
  |succ g=>
   have hlt:(k:Int)<16:=by omega
   have hc0:=cell_dig r0 k (by omega)
   have hc0':=cell_dig r0 (16+k) (by omega)
   rw[H.out]at hc0'
   have hc3:=cell_nat r3 (k/4) (by omega)
   have hf3:=r3.frozen (k/4)
   have hc4:=cell_nat r4 (k/4) (by omega)
   have hf4:=r4.frozen (k/4)
   have h3:=lm_lt (N%2^(16*k)) (k/4)
   have h4:=lm_lt (T%2^(16*k)) (k/4)
   have d1:=dg_lt N k
   have d2:=dg_lt T k
   have R:Aside (Row wr w.heap.size (digC N) 119/\Row wr (w.heap.size+1) (natC 0) 43/\Row wr (w.heap.size+1+1) (natC 0) 43/\Row wr (w.heap.size+1+1+1) (natC (N%2^(16*k))) 43/\Row wr (w.heap.size+1+1+1+1) (natC (T%2^(16*k))) 43/\Below w.heap.size w wr):=⟨r0,r1,r2,r3,r4,hb⟩
   clear r0 r1 r2 r3 r4 hb
   go_wp2
   go_region
   go_wp2
   go_region
   go_wp2
   obtain⟨r0,r1,r2,r3,r4,hb⟩:=R.out
   go_roundg g
   case measure=>omega
   case rel=>
    rw[or_digit _ _ _ h3 d1 (by omega),or_digit _ _ _ h4 d2 (by omega)]
    refine⟨k+1,by omega,by go_num,((r0.setCell_far _ _ _ (by omega)).setCell_far _ _ _ (by omega)).drew.drew,((r1.setCell_far _ _ _ (by omega)).setCell_far _ _ _ (by omega)).drew.drew,((r2.setCell_far _ _ _ (by omega)).setCell_far _ _ _ (by omega)).drew.drew,?_,?_,(below_setCell (below_setCell hb (by omega) _ _) (by omega) _ _).drew.drew⟩
    ·have:=r3.setCell (k/4) (.int .u64 ((lm (N%2^(16*k)) (k/4)|||dg N k*2^(16*(k%4)):Nat):Int))
     rw[natC_digit N k (by omega)]at this
     exact(this.setCell_far _ _ _ (by omega)).drew.drew
    ·have:=(r4.setCell_far (w.heap.size+1+1+1) (k/4) (.int .u64 ((lm (N%2^(16*k)) (k/4)|||dg N k*2^(16*(k%4)):Nat):Int)) (by omega)).setCell (k/4) (.int .u64 ((lm (T%2^(16*k)) (k/4)|||dg T k*2^(16*(k%4)):Nat):Int))
     rw[natC_digit T k (by omega)]at this
     exact this.drew.drew
def putD (U m d:Nat):Nat:=U%2^(16*m)+2^(16*m)*(d+65536*(U/2^(16*m)/65536))
def Sm (A B i k U c:Nat):Prop:=U+2^(16*(i+k))*c=A%2^(16*i)*B+dg A i*(B%2^(16*k))*2^(16*i)/\U<2^(16*(i+16))/\c<65536
structure MulH (wr w:World)(g6 g7 g8 A B V:Nat):Prop where
 r4:Row wr (w.heap.size+1+1) (natC 0) 43
 r5:Row wr (w.heap.size+1+1+1) (natC 0) 43
 x:Row wr g6 (digC A) 119
 y:Row wr g7 (digC B) 119
 o:Row wr g8 (digC V) 119
 below:Below w.heap.size w wr
theorem MulH.set {wr w:World}{g6 g7 g8 A B V V':Nat}(h:MulH wr w g6 g7 g8 A B V)(i:Nat)(v:Value)(hv:(digC V).setIfInBounds i v=digC V')(h6:g6≠g8)(h7:g7≠g8)(h8:w.heap.size+1+1+1<g8):
  MulH (wr.setCell ⟨g8,i,none⟩ v) w g6 g7 g8 A B V':=
 ⟨h.r4.setCell_far _ _ _ (by omega),h.r5.setCell_far _ _ _ (by omega),h.x.setCell_far _ _ _ h6,h.y.setCell_far _ _ _ h7,hv▸h.o.setCell i v,below_setCell h.below (by omega) _ _⟩
def pR (A M g:Nat):Nat:=A/2^g%M
def pQ (A M g:Nat):Nat:=2^g*(A/2^g/M)
def pB (A g:Nat):Nat:=A/2^g%2
theorem pB_le (A g:Nat):pB A g<=1:=by unfold pB;omega
theorem pR_zero (A M g:Nat)(h:A/2^g=0):pR A M g=0:=by unfold pR;rw[h,Nat.zero_mod]
theorem pQ_zero (A M g:Nat)(h:A/2^g=0):pQ A M g=0:=by unfold pQ;rw[h,Nat.zero_div,Nat.mul_zero]
theorem pR_far (A M:Nat)(h:A<2^256*2^256):pR A M 512=0:=pR_zero A M 512 (far_any A 256 256 512 rfl h)
theorem pQ_far (A M:Nat)(h:A<2^256*2^256):pQ A M 512=0:=pQ_zero A M 512 (far_any A 256 256 512 rfl h)
theorem pR_end (A M:Nat):pR A M 0=A%M:=by unfold pR;rw[Nat.pow_zero,Nat.div_one]
theorem pQ_end (A M:Nat):pQ A M 0=A/M:=by unfold pQ;rw[Nat.pow_zero,Nat.div_one,Nat.one_mul]
theorem p_half (A g:Nat):A/2^g=2*(A/2^(g+1))+pB A g:=by
 unfold pB
 rw[Nat.pow_succ,<-Nat.div_div_eq_div_mul];omega
theorem pB_go (A g:Nat):bits .and .i64 ((dg A (g/16)/2^(g%16):Nat):Int) 1=(pB A g:Int):=by
 have hd:=dg_lt A (g/16)
 have h2:dg A (g/16)/2^(g%16)<=dg A (g/16):=Nat.div_le_self _ _
 rw[show(1:Int)=((1:Nat):Int)from rfl,i64_and_nat _ _ (by omega) (by decide),Nat.and_one_is_mod]
 congr 1
 have h3:(dg A (g/16)).testBit (g%16)=A.testBit g:=by
  rw[dg_testBit,show 16*(g/16)+g%16=g by omega]
  simp[Nat.mod_lt]
 rw[Nat.testBit_eq_decide_div_mod_eq,Nat.testBit_eq_decide_div_mod_eq]at h3
 unfold pB
 have h4:=decide_eq_decide.1 h3
 omega
theorem p_less (A M g r:Nat)(hM:0<M)(hr:r=2*pR A M (g+1)+pB A g)(h:r<M):pR A M g=r/\pQ A M g=pQ A M (g+1):=by
 subst hr
 unfold pR pQ at*
 rw[p_half A g]
 have hd:=Nat.div_add_mod (A/2^(g+1)) M
 generalize A/2^(g+1)=X at*
 generalize pB A g=b at*
 have e:2*X+b=M*(2*(X/M))+(2*(X%M)+b):=by rw[<-Nat.mul_assoc,Nat.mul_comm M 2,Nat.mul_assoc];omega
 refine⟨?_,?_⟩
 ·rw[e,Nat.mul_add_mod,Nat.mod_eq_of_lt h]
 ·rw[e,Nat.mul_add_div hM,Nat.div_eq_of_lt h,Nat.add_zero,Nat.pow_succ,Nat.mul_assoc]
theorem p_more (A M g r:Nat)(hM:0<M)(hr:r=2*pR A M (g+1)+pB A g)(h:M<=r):pR A M g=r-M/\pQ A M g=pQ A M (g+1)+2^g:=by
 subst hr
 have hb:=pB_le A g
 unfold pR pQ at*
 rw[p_half A g]
 have hd:=Nat.div_add_mod (A/2^(g+1)) M
 have hm:=Nat.mod_lt (A/2^(g+1)) hM
 generalize A/2^(g+1)=X at*
 generalize pB A g=b at*
 have e:2*X+b=M*(2*(X/M)+1)+(2*(X%M)+b-M):=by rw[Nat.mul_add,<-Nat.mul_assoc,Nat.mul_comm M 2,Nat.mul_assoc];omega
 have hl:2*(X%M)+b-M<M:=by omega
 refine⟨?_,?_⟩
 ·rw[e,Nat.mul_add_mod,Nat.mod_eq_of_lt hl]
 ·rw[e,Nat.mul_add_div hM,Nat.div_eq_of_lt hl,Nat.add_zero,Nat.mul_add,Nat.mul_one,Nat.pow_succ,Nat.mul_assoc]
theorem p_bound (A M g:Nat)(hM:0<M)(h2:M<2^256):2*pR A M (g+1)+pB A g<2^256*2^256:=by
 have hb:=pB_le A g
 have hm:pR A M (g+1)<M:=Nat.mod_lt _ hM
 have:(2:Nat)^256*2<=2^256*2^256:=Nat.mul_le_mul_left _ (by decide)
 omega
theorem p_set (X g:Nat):(digC (2^(g+1)*X)).setIfInBounds (g/16) (.int .i64 ((dg (2^(g+1)*X) (g/16)|||2^(g%16):Nat):Int))=digC (2^(g+1)*X+2^g):=by
 refine digF_set _ _ _ _ fun i _=>?_
 have hlt:2^g<2^(g+1):=Nat.pow_lt_pow_of_lt (by decide) (by omega)
 have hor:=Nat.two_pow_add_eq_or_of_lt hlt X
 apply Nat.eq_of_testBit_eq
 intro j
 rw[hor]
 by_cases h1:i=g/16
 ·subst h1
  rw[if_pos rfl,dg_testBit,Nat.testBit_or,Nat.testBit_or,dg_testBit,Nat.testBit_two_pow,Nat.testBit_two_pow]
  by_cases hj:j<16
  ·simp only[hj,decide_true,Bool.true_and]
   congr 1
   exact decide_eq_decide.2 (by omega)
  ·simp[hj,show ¬g%16=j by omega]
 ·rw[if_neg h1,dg_testBit,Nat.testBit_or,dg_testBit,Nat.testBit_two_pow]
  by_cases hj:j<16
  ·simp[show ¬g=16*i+j by omega]
  ·simp[hj]
theorem p_or (L g:Nat)(hL:L<65536):bits .or .i64 (L:Int) (IntKind.i64.wrap (((1:Nat):Int)*2^(g%16)))=((L|||2^(g%16):Nat):Int):=by
 rw[show(((1:Nat):Int)*2^(g%16))=2^(g%16) by simp]
 exact or_bit_i L (g%16) (by omega) (by omega)
def divZ (A B:Nat):Nat:=if B=0 then 0 else A/B
set_option maxRecDepth 100000 in
set_option maxHeartbeats 1000000 in
theorem wdiv_any (A B:Nat)(w:World)(hA:A<2^256)(hB:B<2^256):
  Calls Tryz.prog 134 #[.agg (natC A),.agg (natC B)] w fun e w'=>e= .returned (.tuple #[.agg (natC (divZ A B)),.agg (natC (modZ A B)),.int .i64 (errI B)])/\Below w.heap.size w w':=by
 have r2:Row ((((w.alloc (.cells (natC A) 43)).alloc (.cells (natC B) 43)).alloc (.cells (natC 0) 43)).alloc (.cells (natC 0) 43)) w.heap.size (natC A) 43:=(by repeat(first|(refine Row.here ?_;first|(with_reducible rfl)|(simp;done))|refine Row.alloc ?_ _))
 have r3:Row ((((w.alloc (.cells (natC A) 43)).alloc (.cells (natC B) 43)).alloc (.cells (natC 0) 43)).alloc (.cells (natC 0) 43)) (w.heap.size+1) (natC B) 43:=(by repeat(first|(refine Row.here ?_;first|(with_reducible rfl)|(simp;done))|refine Row.alloc ?_ _))
 have r4:Row ((((w.alloc (.cells (natC A) 43)).alloc (.cells (natC B) 43)).alloc (.cells (natC 0) 43)).alloc (.cells (natC 0) 43)) (w.heap.size+1+1) (natC 0) 43:=(by repeat(first|(refine Row.here ?_;first|(with_reducible rfl)|(simp;done))|refine Row.alloc ?_ _))
 have r5:Row ((((w.alloc (.cells (natC A) 43)).alloc (.cells (natC B) 43)).alloc (.cells (natC 0) 43)).alloc (.cells (natC 0) 43)) (w.heap.size+1+1+1) (natC 0) 43:=(by repeat(first|(refine Row.here ?_;first|(with_reducible rfl)|(simp;done))|refine Row.alloc ?_ _))
 have bW:Below w.heap.size w ((((w.alloc (.cells (natC A) 43)).alloc (.cells (natC B) 43)).alloc (.cells (natC 0) 43)).alloc (.cells (natC 0) 43)):=(by repeat(first|exact Below.refl _ _|refine Below.alloc ?_ (by simp<;>omega) _))
 by_cases h0:B=0
 ·have HZ:Hid (divZ A B=0/\modZ A B=0/\errI B=1):=⟨if_pos h0,if_pos h0,if_pos h0⟩
  have HV:Hid (decide (B%2^256=0%2^256)=true):=by show _=_;rw[h0];rfl
  clear h0 hA hB
  have r5':=r5.setRow_far (w.heap.size+1+1) (natC 0) (by omega)
  go_enter Tryz.func134,Tryz.ntmps134
  go_wp2_with (first
   |refine wpList_box_row rfl 43 _ rfl _ rfl ?_
   |refine wpList_alloc_row rfl 43 rfl _ zero_nat ?_
   |refine wpList_build_zero rfl 43 rfl _ built_nat ?_
   |refine wpList_loadR rfl 43 _ rfl (w.heap.size+1) (by first|rfl|(unfold Act.eval Act.put;simp;done)|(unfold Act.eval;simp;done)) r3 4 _ Tryz.underlying43 (by exact size_nat) ?_
   |refine wpList_value rfl (.bool true) ((exec_eql_nat _ _ _ rfl B 0 rfl rfl _).trans (by rw[HV.out])) ?_
   |refine wpList_storeR rfl 43 _ _ rfl _ _ rfl rfl r4 (by exact size_nat) (by simp only[natC_size]) (natC_one _) ?_
   |refine wpList_storeR rfl 43 _ _ rfl (w.heap.size+1+1+1) _ (by first|rfl|(unfold Act.eval Act.put;simp;done)|(unfold Act.eval;simp;done)) rfl r5' (by exact size_nat) (by simp only[natC_size]) (natC_one _) ?_)
  exact ret_rows2_val rfl _ rfl ((r4.setRow (natC 0)).setRow_far _ (natC 0) (by omega)) _ rfl (r5'.setRow (natC 0)) _ rfl 4 _ Tryz.underlying43 (by exact size_nat) (by exact size_nat) rfl ⟨by rw[HZ.out.1,HZ.out.2.1,HZ.out.2.2];rfl,below_setRow (below_setRow bW (by omega) _) (by omega) _⟩
 ·have HZ:Hid (divZ A B=A/B/\modZ A B=A%B/\errI B=0):=⟨if_neg h0,if_neg h0,if_neg h0⟩
  have HV:Hid (decide (B%2^256=0%2^256)=false):=by
   show _=_
   rw[Nat.mod_eq_of_lt hB]
   exact decide_eq_false h0
  have hdi:=fun w'=>divide_any A 0 B w' hA (by omega) hB
  rw[Nat.zero_mul,Nat.zero_add]at hdi
  rw[HZ.out.1,HZ.out.2.1,HZ.out.2.2]
  clear h0 hA hB HZ
  generalize A/B=dq at*
  generalize A%B=dr at*
  go_enter Tryz.func134,Tryz.ntmps134
  go_wp2_with (first
   |refine wpList_box_row rfl 43 _ rfl _ rfl ?_
   |refine wpList_alloc_row rfl 43 rfl _ zero_nat ?_
   |refine wpList_build_zero rfl 43 rfl _ built_nat ?_
   |refine wpList_loadR rfl 43 _ rfl _ rfl r2 4 _ Tryz.underlying43 (by exact size_nat) ?_
   |refine wpList_loadR rfl 43 _ rfl (w.heap.size+1) (by first|rfl|(unfold Act.eval Act.put;simp;done)|(unfold Act.eval;simp;done)) r3 4 _ Tryz.underlying43 (by exact size_nat) ?_
   |refine wpList_value rfl (.bool false) ((exec_eql_nat _ _ _ rfl B 0 rfl rfl _).trans (by rw[HV.out])) ?_)
  generalize (((w.alloc (.cells (natC A) 43)).alloc (.cells (natC B) 43)).alloc (.cells (natC 0) 43)).alloc (.cells (natC 0) 43)=w1 at*
  refine(hdi _).mono ?_
  rintro e w3 ⟨rfl,hb2⟩
  have hz:=(r5.belowAll hb2).lt
  have a5:Row ((w3.alloc (.cells (natC 0) 43)).alloc (.cells (natC 0) 43)) w3.heap.size (natC 0) 43:=(by repeat(first|(refine Row.here ?_;first|(with_reducible rfl)|(simp;done))|refine Row.alloc ?_ _))
  have a6':Row ((w3.alloc (.cells (natC 0) 43)).alloc (.cells (natC 0) 43)) (w3.heap.size+1) (natC 0) 43:=(by repeat(first|(refine Row.here ?_;first|(with_reducible rfl)|(simp;done))|refine Row.alloc ?_ _))
  have a6:=a6'.setRow_far w3.heap.size (natC dq) (by omega)
  have a9:=a6.setRow (natC dr)
  have a8:=(a5.setRow (natC dq)).setRow_far (w3.heap.size+1) (natC dr) (by omega)
  have q4:=((((r4.belowAll hb2).alloc (.cells (natC 0) 43)).alloc (.cells (natC 0) 43)).setRow_far w3.heap.size (natC dq) (by omega)).setRow_far (w3.heap.size+1) (natC dr) (by omega)
  have q5:=((((r5.belowAll hb2).alloc (.cells (natC 0) 43)).alloc (.cells (natC 0) 43)).setRow_far w3.heap.size (natC dq) (by omega)).setRow_far (w3.heap.size+1) (natC dr) (by omega)
  have b3:=below_on bW (Nat.le_refl _) hb2
  have b5:=below_setRow (below_setRow ((b3.alloc b3.size (.cells (natC 0) 43)).alloc (by have:=b3.size;simp;omega) (.cells (natC 0) 43)) (g:=w3.heap.size) (by omega) (natC dq)) (g:=w3.heap.size+1) (by omega) (natC dr)
  clear r2 r3 r4 r5 bW hb2 a6' b3 hdi
  go_wp2_with (first
   |refine wpList_alloc_row rfl 43 rfl _ zero_nat ?_
   |refine wpList_storeR rfl 43 _ _ rfl _ _ rfl rfl a5 (by exact size_nat) (by simp only[natC_size]) (natC_one _) ?_
   |refine wpList_storeR rfl 43 _ _ rfl (w3.heap.size+1) _ (by first|rfl|(unfold Act.eval Act.put;simp;done)|(unfold Act.eval;simp;done)) rfl a6 (by exact size_nat) (by simp only[natC_size]) (natC_one _) ?_)
  simp only[alloc_size]
  generalize (((w3.alloc (.cells (natC 0) 43)).alloc (.cells (natC 0) 43)).setRow w3.heap.size (natC dq)).setRow (w3.heap.size+1) (natC dr)=w4 at*
  clear a5 a6
  generalize w3.heap.size=g7 at*
  apply wp_region_mix (by kernel_rfl) [(w.heap.size+1+1,43,natC 0),(w.heap.size+1+1+1,43,natC 0)] [_,_,_,_,_] ⟨q4,q5,trivial⟩ (by simp<;>omega)
  ·intro p;refine m_l a8 ?_;simp only[pv];refine m_l a9 ?_;simp only[pv];refine m_p 0 dq ?_;simp only[Act.put];refine m_p 2 dr ?_;simp only[Act.put];refine mx_val (.int .i64 0) (fun _=>rfl) ?_;simp only[pv];refine mx_end ?_;intro w5 hkw hrw _ _
   have s4:Row w5 (w.heap.size+1+1) (natC dq) 43:=hrw 0 _ rfl
   have s5:Row w5 (w.heap.size+1+1+1) (natC dr) 43:=hrw 2 _ rfl
   have hb1:=b5.trans (hkw.below w.heap.size b5.size (by simp<;>omega))
   go_wp2_with fail
   exact ret_rows2_val rfl _ rfl s4 _ rfl s5 _ rfl 4 _ Tryz.underlying43 (by exact size_nat) (by exact size_nat) rfl ⟨rfl,hb1⟩
  ·kernel_rfl
end Go.Proofs.YtighhihgmkcabaaGreat
