import Derived.Laws.Bits64b
import Derived.Test.YtighhihgmkcabaaGreatGE
set_option maxRecDepth 100000
set_option maxHeartbeats 2000000
namespace Go.Proofs.YtighhihgmkcabaaGreat
set_option linter.unusedVariables false
def dg (N i:Nat):Nat:=N/2^(16*i)%65536
def digF (f:Nat->Nat):Array Value:=Array.ofFn (n:=32) fun i=>.int .i64 (f i:Nat)
def digC (N:Nat):Array Value:=digF (dg N)
theorem dg_lt (N i:Nat):dg N i<65536:=Nat.mod_lt _ (by decide)
theorem digF_size (f:Nat->Nat):(digF f).size=32:=by simp[digF]
theorem digC_size (N:Nat):(digC N).size=32:=digF_size _
theorem digF_get (f:Nat->Nat)(i:Nat)(h:i<32):(digF f)[i]?=some (.int .i64 (f i:Nat)):=by simp[digF,h]
theorem digC_get (N i:Nat)(h:i<32):(digC N)[i]?=some (.int .i64 (dg N i:Nat)):=digF_get _ i h
theorem digF_one (f:Nat->Nat):(digF f).all (·.oneCell')=true:=by
 rw[Array.all_eq_true_iff_forall_mem]
 intro v hv
 simp only[digF,Array.mem_ofFn]at hv
 obtain⟨i,rfl⟩:=hv
 rfl
theorem digC_one (N:Nat):(digC N).all (·.oneCell')=true:=digF_one _
theorem digF_congr (f g:Nat->Nat)(h: ∀i,i<32->f i=g i):digF f=digF g:=by
 apply Array.ext_getElem?
 intro i
 by_cases hi:i<32
 ·rw[digF_get f i hi,digF_get g i hi,h i hi]
 ·rw[Array.getElem?_eq_none (by rw[digF_size];omega),Array.getElem?_eq_none (by rw[digF_size];omega)]
theorem digF_set (f g:Nat->Nat)(k v:Nat)(h: ∀i,i<32->g i=if i=k then v else f i):(digF f).setIfInBounds k (.int .i64 (v:Nat))=digF g:=by
 apply Array.ext_getElem?
 intro i
 by_cases hi:i<32
 ·rw[Array.getElem?_setIfInBounds,digF_get g i hi,h i hi]
  by_cases hk:k=i
  ·subst hk;simp[digF_size,hi]
  ·rw[if_neg hk,digF_get f i hi,if_neg (fun e=>hk e.symm)]
 ·rw[Array.getElem?_eq_none (by simp[digF_size];omega),Array.getElem?_eq_none (by rw[digF_size];omega)]
theorem dg_zero (i:Nat):dg 0 i=0:=by simp[dg]
theorem digC_zero:digC 0=Array.replicate 32 (.int .i64 0):=by
 apply Array.ext_getElem?
 intro i
 by_cases h:i<32
 ·rw[digC_get 0 i h,dg_zero];simp[h]
 ·rw[Array.getElem?_eq_none (by rw[digC_size];omega),Array.getElem?_eq_none (by simp;omega)]
theorem dg_testBit (N i j:Nat):(dg N i).testBit j=(decide (j<16)&&N.testBit (16*i+j)):=by
 unfold dg
 rw[show 65536=2^16 from rfl,Nat.testBit_mod_two_pow,Nat.testBit_div_two_pow,Nat.add_comm]
theorem dg_mod (N k i:Nat):dg (N%2^(16*k)) i=if i<k then dg N i else 0:=by
 apply Nat.eq_of_testBit_eq
 intro j
 rw[dg_testBit,Nat.testBit_mod_two_pow]
 split
 ·rw[dg_testBit]
  by_cases hj:j<16
  ·simp[hj,show 16*i+j<16*k by omega]
  ·simp[hj]
 ·rw[Nat.zero_testBit]
  by_cases hj:j<16
  ·simp[show ¬16*i+j<16*k by omega]
  ·simp[hj]
theorem digC_snoc (N k v:Nat)(hv:v=dg N k):(digC (N%2^(16*k))).setIfInBounds k (.int .i64 (v:Nat))=digC (N%2^(16*(k+1))):=by
 subst hv
 refine digF_set _ _ _ _ fun i _=>?_
 rw[dg_mod,dg_mod]
 by_cases e:i=k
 ·subst e;rw[if_pos (by omega),if_pos rfl]
 ·rw[if_neg e]
  by_cases h:i<k
  ·rw[if_pos (by omega),if_pos h]
  ·rw[if_neg (by omega),if_neg h]
theorem digC_full (N:Nat):digC (N%2^(16*32))=digC N:=
 digF_congr _ _ fun i hi=>by rw[dg_mod N 32 i,if_pos hi]
theorem dg_low (L H i:Nat)(hL:L<2^256)(hi:i<16):dg (L+2^256*H) i=dg L i:=by
 have h:=dg_mod (L+2^256*H) 16 i
 rw[if_pos hi,show 16*16=256 from rfl,Nat.add_mul_mod_self_left,Nat.mod_eq_of_lt hL]at h
 exact h.symm
theorem dg_high (L H i:Nat)(hL:L<2^256):dg (L+2^256*H) (16+i)=dg H i:=by
 unfold dg
 rw[show 16*(16+i)=256+16*i by omega,Nat.pow_add,<-Nat.div_div_eq_div_mul,Nat.add_mul_div_left _ _ (by decide),Nat.div_eq_of_lt hL,Nat.zero_add]
theorem digC_parts (L H:Nat)(hL:L<2^256)(f:Nat->Nat)(h1: ∀i,i<16->f i=dg L i)(h2: ∀i,i<16->f (16+i)=dg H i):digF f=digC (L+2^256*H):=
 digF_congr _ _ fun i hi=>by
  by_cases h:i<16
  ·rw[h1 i h,dg_low L H i hL h]
  ·rw[show i=16+(i-16) by omega,h2 _ (by omega),dg_high L H _ hL]
theorem lm_dg (N k:Nat):lm N (k/4)/2^(16*(k%4))%65536=dg N k:=by
 apply Nat.eq_of_testBit_eq
 intro j
 rw[dg_testBit,show 65536=2^16 from rfl,Nat.testBit_mod_two_pow,Nat.testBit_div_two_pow,lm_testBit]
 by_cases hj:j<16
 ·simp only[hj,decide_true,Bool.true_and,show j+16*(k%4)<64 by omega]
  congr 1;omega
 ·simp[hj]
theorem and_digit (x:Nat)(h:x<18446744073709551616):bits .and .u64 (x:Int) 65535=((x%65536:Nat):Int):=by
 rw[show(65535:Int)=((65535:Nat):Int)from rfl,u64_and_nat _ _ h (by decide),show 65535=2^16-1 from rfl,Nat.and_two_pow_sub_one_eq_mod]
theorem and_digit_i (x:Nat)(h:x<9223372036854775808):bits .and .i64 (x:Int) 65535=((x%65536:Nat):Int):=by
 rw[show(65535:Int)=((65535:Nat):Int)from rfl,i64_and_nat _ _ h (by decide),show 65535=2^16-1 from rfl,Nat.and_two_pow_sub_one_eq_mod]
theorem limb_digit (N k:Nat):bits .and .u64 ((lm N (k/4):Int)/2^(16*(k%4))) 65535=(dg N k:Int):=by
 have h1:((lm N (k/4):Int)/2^(16*(k%4)))=((lm N (k/4)/2^(16*(k%4)):Nat):Int):=by simp
 have h2:=lm_lt N (k/4)
 rw[h1,and_digit _ (Nat.lt_of_le_of_lt (Nat.div_le_self _ _) h2),lm_dg]
theorem mod_digit (A k:Nat):A%2^(16*(k+1))=A%2^(16*k)+2^(16*k)*dg A k:=by
 rw[show 16*(k+1)=16*k+16 by omega,Nat.pow_add,Nat.mod_mul];rfl
theorem pow_digit (k:Nat):2^(16*(k+1))=2^(16*k)*65536:=by
 rw[show 16*(k+1)=16*k+16 by omega,Nat.pow_add]
theorem natC_digit (N k:Nat)(hk:k<16):(natC (N%2^(16*k))).setIfInBounds (k/4) (.int .u64 ((lm (N%2^(16*k)) (k/4)|||dg N k*2^(16*(k%4)):Nat):Int))=natC (N%2^(16*(k+1))):=by
 refine natC_set _ _ _ _ (by omega) ?_ ?_
 ·apply Nat.eq_of_testBit_eq
  intro j
  rw[Nat.testBit_or,Nat.testBit_mul_two_pow,lm_testBit,lm_testBit,dg_testBit,Nat.testBit_mod_two_pow,Nat.testBit_mod_two_pow]
  by_cases hj:j<64
  ·by_cases h1:16*(k%4)<=j
   ·by_cases h2:j-16*(k%4)<16
    ·have e2:64*(k/4)+j=16*k+(j-16*(k%4)):=by omega
     rw[e2]
     simp[hj,h1,h2,show ¬(16*k+(j-16*(k%4))<16*k) by omega,show 16*k+(j-16*(k%4))<16*(k+1) by omega]
    ·simp[hj,h1,h2,show ¬64*(k/4)+j<16*k by omega,show ¬64*(k/4)+j<16*(k+1) by omega]
   ·simp[hj,h1,show 64*(k/4)+j<16*k by omega,show 64*(k/4)+j<16*(k+1) by omega]
  ·simp[hj,show ¬j-16*(k%4)<16 by omega]
 ·intro i hi hne
  apply Nat.eq_of_testBit_eq
  intro j
  rw[lm_testBit,lm_testBit,Nat.testBit_mod_two_pow,Nat.testBit_mod_two_pow]
  by_cases hj:j<64
  ·by_cases h1:64*i+j<16*k
   ·simp[h1,show 64*i+j<16*(k+1) by omega]
   ·simp[h1,show ¬64*i+j<16*(k+1) by omega]
  ·simp[hj]
theorem or_digit (L d s:Nat)(hL:L<18446744073709551616)(hd:d<65536)(hs:s<4):bits .or .u64 (L:Int) (IntKind.u64.wrap ((d:Int)*2^(16*s)))=((L|||d*2^(16*s):Nat):Int):=by
 have h2:d*2^(16*s)<18446744073709551616:=by
  have h3:2^(16*s)<=2^48:=Nat.pow_le_pow_right (by decide) (by omega)
  have h4:d*2^(16*s)<=d*2^48:=Nat.mul_le_mul_left _ h3
  omega
 rw[show((d:Int)*2^(16*s))=((d*2^(16*s):Nat):Int) by simp,wrap_u64 _ h2,u64_or_nat _ _ hL h2]
theorem high_mod (N k:Nat):dg N (16+k)=dg (N/2^256) k:=by
 unfold dg
 rw[show 16*(16+k)=256+16*k by omega,Nat.pow_add,<-Nat.div_div_eq_div_mul]
open Go.RowKit
theorem info_dig:(Tryz.prog.info? 119).map (fun i=>(i.zero,i.size))=some (some (.agg (Array.replicate 32 (.int .i64 0))),32):=by kernel_rfl
theorem zero_dig (w:World):(zeroValue 119).run Tryz.prog w= .ok (.agg (digC 0)) w:=by rw[digC_zero];exact(zero_of_info info_dig).1 w
theorem size_dig:(Tryz.prog.info? 119).map (·.size)=some 32:=(zero_of_info info_dig).2
theorem built_dig:Tryz.prog.built 119 []=some (digC 0):=by rw[digC_zero];kernel_rfl
theorem cell_dig {w:World}{b N:Nat}(h:Row w b (digC N) 119)(i:Nat)(hi:i<32):w.cell? ⟨b,i,none⟩=some (.int .i64 (dg N i:Nat)):=by rw[h.cell];exact digC_get _ _ hi
theorem cell_digF {w:World}{b:Nat}{f:Nat->Nat}(h:Row w b (digF f) 119)(i:Nat)(hi:i<32):w.cell? ⟨b,i,none⟩=some (.int .i64 (f i:Nat)):=by rw[h.cell];exact digF_get _ _ hi
theorem below_dn {B:Nat}{a w:World}(h:Below B a w)(n:Nat):Below B a (w.drewN n):=h.trans ⟨rfl,rfl,rfl,Nat.le_refl _,fun _ _=>rfl⟩
def ofF (L H k i:Nat):Nat:=if i<k then dg L i else if 16<=i/\i<16+k then dg H (i-16)else 0
theorem ofF_zero (L H:Nat):digF (ofF L H 0)=digC 0:=digF_congr _ _ fun i _=>by rw[dg_zero];unfold ofF;rw[if_neg (by omega),if_neg (by omega)]
theorem ofF_full (L H:Nat)(hL:L<2^256):digF (ofF L H 16)=digC (L+2^256*H):=
 digC_parts L H hL _ (fun i hi=>by unfold ofF;rw[if_pos hi]) (fun i hi=>by unfold ofF;rw[if_neg (by omega),if_pos (by omega),show 16+i-16=i by omega])
theorem ofF_step (L H k:Nat)(hk:k<16):((digF (ofF L H k)).setIfInBounds k (.int .i64 (dg L k:Nat))).setIfInBounds (16+k) (.int .i64 (dg H k:Nat))=digF (ofF L H (k+1)):=by
 rw[digF_set (ofF L H k) (fun i=>if i=k then dg L k else ofF L H k i) k _ (fun i _=>rfl)]
 refine digF_set _ _ _ _ fun i hi=>?_
 unfold ofF
 by_cases h1:i=16+k
 ·subst h1
  rw[if_pos rfl,if_neg (by omega),if_pos (by omega),show 16+k-16=k by omega]
 ·rw[if_neg h1]
  by_cases h2:i=k
  ·subst h2;rw[if_pos rfl,if_pos (by omega)]
  ·rw[if_neg h2]
   by_cases h3:i<k
   ·rw[if_pos h3,if_pos (by omega)]
   ·rw[if_neg h3,if_neg (by omega)]
    by_cases h4:16<=i/\i<16+k
    ·rw[if_pos h4,if_pos (by omega)]
    ·rw[if_neg h4,if_neg (by omega)]
theorem dof_any (L H:Nat)(w:World)(hL:L<2^256):
  Calls Tryz.prog 86 #[.agg (natC L),.agg (natC H)] w fun e w'=>e= .returned (.agg (digC (L+2^256*H)))/\Below w.heap.size w w':=by
 have HL:Hid (L<2^256):=hL
 clear hL
 go_enter Tryz.func86,Tryz.ntmps86
 go_wp2_with (first
  |refine wpList_box_row rfl 43 _ rfl _ rfl ?_
  |refine wpList_alloc_row rfl 119 rfl _ zero_dig ?_
  |refine wpList_build_zero rfl 119 rfl _ built_dig ?_
  |refine wpList_store_new rfl 119 _ _ rfl _ rfl rfl _ _ (by rw[digC_size];exact size_dig) (by simp only[digC_size]) (digC_one _) ?_)
 have s0:Row ((((w.alloc (.cells (natC L) 43)).alloc (.cells (natC H) 43)).alloc (.cells (digC 0) 119)).alloc (.cells (digC 0) 119)) w.heap.size (natC L) 43:=(by repeat(first|(refine Row.here ?_;first|(with_reducible rfl)|(simp;done))|refine Row.alloc ?_ _))
 have s1:Row ((((w.alloc (.cells (natC L) 43)).alloc (.cells (natC H) 43)).alloc (.cells (digC 0) 119)).alloc (.cells (digC 0) 119)) (w.heap.size+1) (natC H) 43:=(by repeat(first|(refine Row.here ?_;first|(with_reducible rfl)|(simp;done))|refine Row.alloc ?_ _))
 have s2:Row ((((w.alloc (.cells (natC L) 43)).alloc (.cells (natC H) 43)).alloc (.cells (digC 0) 119)).alloc (.cells (digC 0) 119)) (w.heap.size+1+1) (digC 0) 119:=(by repeat(first|(refine Row.here ?_;first|(with_reducible rfl)|(simp;done))|refine Row.alloc ?_ _))
 have s3:Row ((((w.alloc (.cells (natC L) 43)).alloc (.cells (natC H) 43)).alloc (.cells (digC 0) 119)).alloc (.cells (digC 0) 119)) (w.heap.size+1+1+1) (digC 0) 119:=(by repeat(first|(refine Row.here ?_;first|(with_reducible rfl)|(simp;done))|refine Row.alloc ?_ _))
 have s4:Below w.heap.size w ((((w.alloc (.cells (natC L) 43)).alloc (.cells (natC H) 43)).alloc (.cells (digC 0) 119)).alloc (.cells (digC 0) 119)):=(by repeat(first|exact Below.refl _ _|refine Below.alloc ?_ (by simp<;>omega) _))
 generalize ((((w.alloc (.cells (natC L) 43)).alloc (.cells (natC H) 43)).alloc (.cells (digC 0) 119)).alloc (.cells (digC 0) 119))=W at*
 go_loopg [6] 16 (fun g s6 wr=> ∃k:Nat,k+g=16/\s6= .int .i64 k/\Row wr w.heap.size (natC L) 43/\Row wr (w.heap.size+1) (natC H) 43/\Row wr (w.heap.size+1+1) (digC 0) 119/\Row wr (w.heap.size+1+1+1) (digF (ofF L H k)) 119/\Below w.heap.size w wr)
 case atStart=>exact⟨0,by omega,rfl,s0,s1,s2,by rw[ofF_zero];exact s3,s4⟩
 case round=>
  obtain⟨k,hk,rfl,r0,r1,r2,r3,hb⟩:=hrel
  clear s0 s1 s2 s3 s4
  cases gk with
  |zero=>
   obtain rfl:k=16:=by omega
   rw[ofF_full L H HL.out]at r3
   clear hk
   have hx: ¬((16:Int)<16):=by omega
   go_wp2_with (first
    |refine wpList_loadR rfl 119 _ rfl _ rfl r3 32 _ Tryz.underlying119 (by rw[digC_size];exact size_dig) ?_
    |refine wpList_storeR rfl 119 _ _ rfl _ _ rfl rfl r2 (by rw[digC_size];exact size_dig) (by simp only[digC_size]) (digC_one _) ?_)
   exact ret_row rfl _ rfl (r2.setRow _) 32 _ Tryz.underlying119 (by rw[digC_size];exact size_dig) rfl ⟨rfl,below_setRow hb (by omega) _⟩
  |succ g=>
   have hlt:(k:Int)<16:=by omega
   have hc0:=cell_nat r0 (k/4) (by omega)
   have hc1:=cell_nat r1 (k/4) (by omega)
   have hc3:=cell_digF r3 k (by omega)
   have hc4:=cell_digF r3 (16+k) (by omega)
   have hf3:=r3.frozen k
   have hf4:=r3.frozen (16+k)
   have hl:=lm_lt L (k/4)
   have hh:=lm_lt H (k/4)
   have R:Aside (Row wr w.heap.size (natC L) 43/\Row wr (w.heap.size+1) (natC H) 43/\Row wr (w.heap.size+1+1) (digC 0) 119/\Row wr (w.heap.size+1+1+1) (digF (ofF L H k)) 119/\Below w.heap.size w wr):=⟨r0,r1,r2,r3,hb⟩
   have e1:=limb_digit L k
   have e2:=limb_digit H k
   have d1:=dg_lt L k
   have d2:=dg_lt H k
   clear r0 r1 r2 r3 hb
   go_wp2
   obtain⟨r0,r1,r2,r3,hb⟩:=R.out
   go_roundg g
   case measure=>omega
   case rel=>
    refine⟨k+1,by omega,by go_num,(r0.setCell_far _ _ _ (by omega)).setCell_far _ _ _ (by omega),(r1.setCell_far _ _ _ (by omega)).setCell_far _ _ _ (by omega),(r2.setCell_far _ _ _ (by omega)).setCell_far _ _ _ (by omega),?_,below_setCell (below_setCell hb (by omega) _ _) (by omega) _ _⟩
    have:=(r3.setCell k (.int .i64 (dg L k:Nat))).setCell (16+k) (.int .i64 (dg H k:Nat))
    rw[ofF_step L H k (by omega)]at this
    exact this
def tw (A c k:Nat):Nat:=(2*(A%2^(16*k))+c)/2^(16*k)
theorem tw_zero (A c:Nat):tw A c 0=c:=by unfold tw;rw[Nat.mul_zero,Nat.pow_zero,Nat.mod_one,Nat.div_one];omega
theorem tw_le (A c k:Nat)(hc:c<=1):tw A c k<=1:=by
 unfold tw
 have hP:=Nat.two_pow_pos (16*k)
 have h:=Nat.mod_lt A hP
 generalize 2^(16*k)=P at*
 have:(2*(A%P)+c)/P<2:=(Nat.div_lt_iff_lt_mul hP).2 (by omega)
 omega
theorem tw_core (A c P:Nat)(hP:0<P):(2*A+c)/P=2*(A/P)+(2*(A%P)+c)/P:=by
 have h:=Nat.div_add_mod A P
 have e:2*A+c=P*(2*(A/P))+(2*(A%P)+c):=by
  rw[<-Nat.mul_assoc,Nat.mul_comm P 2,Nat.mul_assoc];omega
 rw[e,Nat.mul_add_div hP]
theorem tw_digit (A c k:Nat):dg (2*A+c) k=(2*dg A k+tw A c k)%65536:=by
 unfold dg tw
 rw[tw_core A c _ (Nat.two_pow_pos _)]
 omega
theorem tw_next (A c k:Nat):tw A c (k+1)=(2*dg A k+tw A c k)/65536:=by
 unfold tw
 rw[mod_digit,pow_digit,<-Nat.div_div_eq_div_mul]
 have hP:=Nat.two_pow_pos (16*k)
 generalize 2^(16*k)=P at*
 generalize A%P=a at*
 generalize dg A k=d at*
 rw[show 2*(a+P*d)+c=P*(2*d)+(2*a+c) by rw[<-Nat.mul_assoc,Nat.mul_comm P 2,Nat.mul_assoc];omega,Nat.mul_add_div hP]
theorem twice_any (A c:Nat)(w:World)(hc:c<=1):
  Calls Tryz.prog 115 #[.agg (digC A),.int .i64 c] w fun e w'=>e= .returned (.agg (digC (2*A+c)))/\Below w.heap.size w w':=by
 go_enter Tryz.func115,Tryz.ntmps115
 go_wp2_with (first
  |refine wpList_box_row rfl 119 _ rfl _ rfl ?_
  |refine wpList_alloc_row rfl 119 rfl _ zero_dig ?_
  |refine wpList_build_zero rfl 119 rfl _ built_dig ?_
  |refine wpList_store_new rfl 119 _ _ rfl _ rfl rfl _ _ (by rw[digC_size];exact size_dig) (by simp only[digC_size]) (digC_one _) ?_)
 have s0:Row (((w.alloc (.cells (digC A) 119)).alloc (.cells (digC 0) 119)).alloc (.cells (digC 0) 119)) w.heap.size (digC A) 119:=(((Row.here (by first|rfl|simp only[alloc_size])).alloc _).alloc _)
 have s1:Row (((w.alloc (.cells (digC A) 119)).alloc (.cells (digC 0) 119)).alloc (.cells (digC 0) 119)) (w.heap.size+1) (digC 0) 119:=((Row.here (by first|rfl|simp only[alloc_size])).alloc _)
 have s2:Row (((w.alloc (.cells (digC A) 119)).alloc (.cells (digC 0) 119)).alloc (.cells (digC 0) 119)) (w.heap.size+1+1) (digC 0) 119:=(Row.here (by first|rfl|simp only[alloc_size]))
 have s3:=below_alloc3 (w:=w) (.cells (digC A) 119) (.cells (digC 0) 119) (.cells (digC 0) 119)
 generalize (((w.alloc (.cells (digC A) 119)).alloc (.cells (digC 0) 119)).alloc (.cells (digC 0) 119))=W at*
 go_loopg [6,7] 32 (fun g s6 s7 wr=> ∃k:Nat,k+g=32/\s6= .int .i64 (tw A c k:Nat)/\s7= .int .i64 k/\Row wr w.heap.size (digC A) 119/\Row wr (w.heap.size+1) (digC 0) 119/\Row wr (w.heap.size+1+1) (digC ((2*A+c)%2^(16*k))) 119/\Below w.heap.size w wr)
 case atStart=>exact⟨0,by omega,by rw[tw_zero],rfl,s0,s1,by rw[Nat.mul_zero,Nat.pow_zero,Nat.mod_one];exact s2,s3⟩
 case round=>
  obtain⟨k,hk,rfl,rfl,r0,r1,r2,hb⟩:=hrel
  clear s0 s1 s2 s3
  cases gk with
  |zero=>
   obtain rfl:k=32:=by omega
   rw[digC_full]at r2
   clear hk
   have hx: ¬((32:Int)<32):=by omega
   go_wp2_with (first
    |refine wpList_loadR rfl 119 _ rfl _ rfl r2 32 _ Tryz.underlying119 (by rw[digC_size];exact size_dig) ?_
    |refine wpList_storeR rfl 119 _ _ rfl _ _ rfl rfl r1 (by rw[digC_size];exact size_dig) (by simp only[digC_size]) (digC_one _) ?_)
   exact ret_row rfl _ rfl (r1.setRow _) 32 _ Tryz.underlying119 (by rw[digC_size];exact size_dig) rfl ⟨rfl,below_setRow hb (by omega) _⟩
  |succ g=>
   have hlt:(k:Int)<32:=by omega
   have hc0:=cell_dig r0 k (by omega)
   have hc2:=cell_dig r2 k (by omega)
   have hf2:=r2.frozen k
   have R:Aside (Row wr w.heap.size (digC A) 119/\Row wr (w.heap.size+1) (digC 0) 119/\Row wr (w.heap.size+1+1) (digC ((2*A+c)%2^(16*k))) 119/\Below w.heap.size w wr):=⟨r0,r1,r2,hb⟩
   have D:Aside (dg (2*A+c) k=(2*dg A k+tw A c k)%65536/\tw A c (k+1)=(2*dg A k+tw A c k)/65536):=⟨tw_digit A c k,tw_next A c k⟩
   have d0:=dg_lt A k
   have d1:=tw_le A c k hc
   clear r0 r1 r2 hb
   generalize dg A k=d at*
   generalize tw A c k=t at*
   have e1:=and_digit_i (2*d+t) (by omega)
   rw[show((2*d+t:Nat):Int)=2*(d:Int)+t by omega]at e1
   go_wp2
   obtain⟨r0,r1,r2,hb⟩:=R.out
   obtain⟨h1,h2⟩:=D.out
   go_roundg g
   case measure=>omega
   case rel=>
    refine⟨k+1,by omega,?_,by go_num,r0.setCell_far _ _ _ (by omega),r1.setCell_far _ _ _ (by omega),?_,below_setCell hb (by omega) _ _⟩
    ·rw[h2];go_num
    ·have:=r2.setCell k (.int .i64 ((2*d+t)%65536:Nat))
     rw[digC_snoc (2*A+c) k _ h1.symm]at this
     exact this
theorem less_core (A B P:Nat)(hP:0<P)(h:B<=A):(A-B)/P=A/P-B/P-if A%P<B%P then 1 else 0:=by
 have ha:=Nat.div_add_mod A P
 have hb:=Nat.div_add_mod B P
 have ma:=Nat.mod_lt A hP
 have mb:=Nat.mod_lt B hP
 have hle:B/P<=A/P:=Nat.div_le_div_right h
 generalize A/P=x at*
 generalize B/P=y at*
 generalize A%P=a at*
 generalize B%P=b at*
 obtain⟨z,rfl⟩: ∃z,x=y+z:=⟨x-y,by omega⟩
 have e:P*(y+z)=P*y+P*z:=Nat.mul_add _ _ _
 split
 ·cases z with
  |zero=>rw[Nat.mul_zero]at e;omega
  |succ z=>
   have e2:P*(z+1)=P*z+P:=by rw[Nat.mul_add,Nat.mul_one]
   rw[show A-B=P*z+(P+a-b) by omega,Nat.mul_add_div hP,Nat.div_eq_of_lt (by omega)]
   omega
 ·rw[show A-B=P*z+(a-b) by omega,Nat.mul_add_div hP,Nat.div_eq_of_lt (by omega)]
  omega
theorem ls_digit (A B k:Nat)(h:B<=A):dg (A-B) k=(dg A k+65536-dg B k-bN A B (16*k))%65536:=by
 unfold dg bN
 rw[less_core A B _ (Nat.two_pow_pos _) h]
 have hle:B/2^(16*k)<=A/2^(16*k):=Nat.div_le_div_right h
 have hs:A%2^(16*k)<B%2^(16*k)->B/2^(16*k)<A/2^(16*k):=fun hm=>by
  have ha:=Nat.div_add_mod A (2^(16*k))
  have hb:=Nat.div_add_mod B (2^(16*k))
  rcases Nat.lt_or_eq_of_le hle with h1|h1
  ·exact h1
  ·rw[h1]at hb;omega
 generalize A/2^(16*k)=x at*
 generalize B/2^(16*k)=y at*
 split
 ·have:=hs (by assumption);omega
 ·omega
theorem ls_borrow (A B k:Nat):bN A B (16*(k+1))=if dg A k<dg B k+bN A B (16*k)then 1 else 0:=by
 have hP:=Nat.two_pow_pos (16*k)
 have ha:=Nat.mod_lt A hP
 have hb:=Nat.mod_lt B hP
 unfold bN
 rw[mod_digit,mod_digit]
 generalize dg A k=x at*
 generalize dg B k=y at*
 generalize 2^(16*k)=P at*
 generalize A%P=a at*
 generalize B%P=b at*
 have key: ∀u v:Nat,u<=v->P*u<=P*v:=fun u v h=>Nat.mul_le_mul_left P h
 obtain⟨c,hc,e⟩: ∃c,(if a<b then 1 else 0)=c/\((a<b/\c=1)∨(¬a<b/\c=0)):=⟨_,rfl,by
  by_cases hc:a<b
  ·exact .inl ⟨hc,if_pos hc⟩
  ·exact .inr ⟨hc,if_neg hc⟩⟩
 rw[hc]
 rcases Nat.lt_trichotomy x y with h|h|h
 ·have:=key (x+1) y h
  rw[Nat.mul_add,Nat.mul_one]at this
  rw[if_pos (by omega),if_pos (by omega)]
 ·subst h
  rcases e with ⟨e1,e2⟩|⟨e1,e2⟩
  ·rw[if_pos (by omega),if_pos (by omega)]
  ·rw[if_neg (by omega),if_neg (by omega)]
 ·have:=key (y+1) x h
  rw[Nat.mul_add,Nat.mul_one]at this
  rw[if_neg (by omega),if_neg (by omega)]
theorem less_any (A B:Nat)(w:World)(h:B<=A):
  Calls Tryz.prog 117 #[.agg (digC A),.agg (digC B)] w fun e w'=>e= .returned (.agg (digC (A-B)))/\Below w.heap.size w w':=by
 have HL:Hid (B<=A):=h
 clear h
 go_enter Tryz.func117,Tryz.ntmps117
 go_wp2_with (first
  |refine wpList_box_row rfl 119 _ rfl _ rfl ?_
  |refine wpList_alloc_row rfl 119 rfl _ zero_dig ?_
  |refine wpList_build_zero rfl 119 rfl _ built_dig ?_
  |refine wpList_store_new rfl 119 _ _ rfl _ rfl rfl _ _ (by rw[digC_size];exact size_dig) (by simp only[digC_size]) (digC_one _) ?_)
 have s0:Row ((((w.alloc (.cells (digC A) 119)).alloc (.cells (digC B) 119)).alloc (.cells (digC 0) 119)).alloc (.cells (digC 0) 119)) w.heap.size (digC A) 119:=((((Row.here (by first|rfl|simp only[alloc_size])).alloc _).alloc _).alloc _)
 have s1:Row ((((w.alloc (.cells (digC A) 119)).alloc (.cells (digC B) 119)).alloc (.cells (digC 0) 119)).alloc (.cells (digC 0) 119)) (w.heap.size+1) (digC B) 119:=(((Row.here (by first|rfl|simp only[alloc_size])).alloc _).alloc _)
 have s2:Row ((((w.alloc (.cells (digC A) 119)).alloc (.cells (digC B) 119)).alloc (.cells (digC 0) 119)).alloc (.cells (digC 0) 119)) (w.heap.size+1+1) (digC 0) 119:=((Row.here (by first|rfl|simp only[alloc_size])).alloc _)
 have s3:Row ((((w.alloc (.cells (digC A) 119)).alloc (.cells (digC B) 119)).alloc (.cells (digC 0) 119)).alloc (.cells (digC 0) 119)) (w.heap.size+1+1+1) (digC 0) 119:=(Row.here (by first|rfl|simp only[alloc_size]))
 have s4:Below w.heap.size w ((((w.alloc (.cells (digC A) 119)).alloc (.cells (digC B) 119)).alloc (.cells (digC 0) 119)).alloc (.cells (digC 0) 119)):=(by repeat(first|exact Below.refl _ _|refine Below.alloc ?_ (by simp<;>omega) _))
 generalize ((((w.alloc (.cells (digC A) 119)).alloc (.cells (digC B) 119)).alloc (.cells (digC 0) 119)).alloc (.cells (digC 0) 119))=W at*
 go_loopg [5,7] 32 (fun g s5 s7 wr=> ∃k:Nat,k+g=32/\s5= .int .i64 (bN A B (16*k):Nat)/\s7= .int .i64 k/\Row wr w.heap.size (digC A) 119/\Row wr (w.heap.size+1) (digC B) 119/\Row wr (w.heap.size+1+1) (digC 0) 119/\Row wr (w.heap.size+1+1+1) (digC ((A-B)%2^(16*k))) 119/\Below w.heap.size w wr)
 case atStart=>exact⟨0,by omega,by simp[bN,Nat.mod_one],rfl,s0,s1,s2,by rw[Nat.mul_zero,Nat.pow_zero,Nat.mod_one];exact s3,s4⟩
 case round=>
  obtain⟨k,hk,rfl,rfl,r0,r1,r2,r3,hb⟩:=hrel
  clear s0 s1 s2 s3 s4
  cases gk with
  |zero=>
   obtain rfl:k=32:=by omega
   rw[digC_full]at r3
   clear hk
   have hx: ¬((32:Int)<32):=by omega
   go_wp2_with (first
    |refine wpList_loadR rfl 119 _ rfl _ rfl r3 32 _ Tryz.underlying119 (by rw[digC_size];exact size_dig) ?_
    |refine wpList_storeR rfl 119 _ _ rfl _ _ rfl rfl r2 (by rw[digC_size];exact size_dig) (by simp only[digC_size]) (digC_one _) ?_)
   exact ret_row rfl _ rfl (r2.setRow _) 32 _ Tryz.underlying119 (by rw[digC_size];exact size_dig) rfl ⟨rfl,below_setRow hb (by omega) _⟩
  |succ g=>
   have hlt:(k:Int)<32:=by omega
   have hc0:=cell_dig r0 k (by omega)
   have hc1:=cell_dig r1 k (by omega)
   have hc3:=cell_dig r3 k (by omega)
   have hf3:=r3.frozen k
   have R:Aside (Row wr w.heap.size (digC A) 119/\Row wr (w.heap.size+1) (digC B) 119/\Row wr (w.heap.size+1+1) (digC 0) 119/\Row wr (w.heap.size+1+1+1) (digC ((A-B)%2^(16*k))) 119/\Below w.heap.size w wr):=⟨r0,r1,r2,r3,hb⟩
   have D:Aside (dg (A-B) k=(dg A k+65536-dg B k-bN A B (16*k))%65536/\bN A B (16*(k+1))=if dg A k<dg B k+bN A B (16*k)then 1 else 0):=⟨ls_digit A B k HL.out,ls_borrow A B k⟩
   have d0:=dg_lt A k
   have d1:=dg_lt B k
   have d2:=bN_le A B (16*k)
   clear r0 r1 r2 r3 hb
   generalize dg A k=x at*
   generalize dg B k=y at*
   generalize bN A B (16*k)=b at*
   by_cases hneg:(x:Int)-y-b<0
   ·go_wp2
    go_quiet (fail)
    go_wp2
    obtain⟨r0,r1,r2,r3,hb⟩:=R.out
    obtain⟨h1,h2⟩:=D.out
    go_roundg g
    case measure=>omega
    case rel=>
     refine⟨k+1,by omega,?_,by go_num,r0.setCell_far _ _ _ (by omega),r1.setCell_far _ _ _ (by omega),r2.setCell_far _ _ _ (by omega),?_,below_setCell (below_dn hb nq) (by omega) _ _⟩
     ·rw[h2,if_pos (by omega)];rfl
     ·have:=r3.setCell k (.int .i64 ((x+65536-y-b)%65536:Nat))
      rw[digC_snoc (A-B) k _ h1.symm]at this
      rw[show(x:Int)-y-b+65536=(((x+65536-y-b)%65536:Nat):Int) by omega]
      exact this
   ·go_wp2
    go_quiet (fail)
    go_wp2
    obtain⟨r0,r1,r2,r3,hb⟩:=R.out
    obtain⟨h1,h2⟩:=D.out
    go_roundg g
    case measure=>omega
    case rel=>
     refine⟨k+1,by omega,?_,by go_num,r0.setCell_far _ _ _ (by omega),r1.setCell_far _ _ _ (by omega),r2.setCell_far _ _ _ (by omega),?_,below_setCell (below_dn hb nq) (by omega) _ _⟩
     ·rw[h2,if_neg (by omega)];rfl
     ·have:=r3.setCell k (.int .i64 ((x+65536-y-b)%65536:Nat))
      rw[digC_snoc (A-B) k _ h1.symm]at this
      rw[show(x:Int)-y-b=(((x+65536-y-b)%65536:Nat):Int) by omega]
      exact this
theorem div_digit (A k:Nat):A/2^(16*k)=65536*(A/2^(16*(k+1)))+dg A k:=by
 rw[pow_digit,<-Nat.div_div_eq_div_mul]
 unfold dg
 omega
theorem far_any (A n m k:Nat)(hk:k=n+m)(h:A<2^n*2^m):A/2^k=0:=by
 subst hk
 rw[Nat.pow_add]
 exact Nat.div_eq_of_lt h
theorem lt_of_div {A B P:Nat}(h:A/P<B/P):A<B:=by
 rcases Nat.lt_or_ge A B with h1|h1
 ·exact h1
 ·have:=Nat.div_le_div_right (c:=P) h1;omega
theorem below_any (A B:Nat)(w:World)(hA:A<2^256*2^256)(hB:B<2^256*2^256):
  Calls Tryz.prog 116 #[.agg (digC A),.agg (digC B)] w fun e w'=>e= .returned (.bool (decide (A<B)))/\Below w.heap.size w w':=by
 have h0:Hid (A/2^(16*32)=B/2^(16*32)):=(far_any A 256 256 (16*32) rfl hA).trans (far_any B 256 256 (16*32) rfl hB).symm
 clear hA hB
 go_enter Tryz.func116,Tryz.ntmps116
 go_wp2_with (first
  |refine wpList_box_row rfl 119 _ rfl _ rfl ?_)
 have s0:Row ((w.alloc (.cells (digC A) 119)).alloc (.cells (digC B) 119)) w.heap.size (digC A) 119:=((Row.here (by first|rfl|simp only[alloc_size])).alloc _)
 have s1:Row ((w.alloc (.cells (digC A) 119)).alloc (.cells (digC B) 119)) (w.heap.size+1) (digC B) 119:=(Row.here (by first|rfl|simp only[alloc_size]))
 have s2:=below_alloc2 (w:=w) (.cells (digC A) 119) (.cells (digC B) 119)
 generalize (w.alloc (.cells (digC A) 119)).alloc (.cells (digC B) 119)=W at*
 go_loopg [5] 32 (fun g s5 wr=>s5= .int .i64 ((g:Int)-1)/\g<=32/\A/2^(16*g)=B/2^(16*g)/\Row wr w.heap.size (digC A) 119/\Row wr (w.heap.size+1) (digC B) 119/\Below w.heap.size w wr)
 case atStart=>exact⟨rfl,Nat.le_refl _,h0.out,s0,s1,s2⟩
 case round=>
  obtain⟨rfl,hle,hdiv,r0,r1,hb⟩:=hrel
  clear s0 s1 s2 h0
  cases gk with
  |zero=>
   rw[Nat.mul_zero,Nat.pow_zero,Nat.div_one,Nat.div_one]at hdiv
   subst hdiv
   clear hle
   have hx: ¬((0:Int)<= -1):=by omega
   go_wp2
   go_ret
   exact⟨by simp,hb⟩
  |succ g=>
   have dA:=div_digit A g
   have dB:=div_digit B g
   rw[hdiv]at dA
   have hc0:=cell_dig r0 g (by omega)
   have hc1:=cell_dig r1 g (by omega)
   rw[show((g+1:Nat):Int)-1=(g:Int) by omega]
   have hgl:(g:Int)<32:=by omega
   clear hdiv
   generalize dg A g=x at*
   generalize dg B g=y at*
   have R:Aside (A/2^(16*g)=65536*(B/2^(16*(g+1)))+x/\B/2^(16*g)=65536*(B/2^(16*(g+1)))+y/\Row wr w.heap.size (digC A) 119/\Row wr (w.heap.size+1) (digC B) 119/\Below w.heap.size w wr):=⟨dA,dB,r0,r1,hb⟩
   clear dA dB r0 r1 hb
   rcases Nat.lt_trichotomy x y with h|h|h
   ·have h1:(x:Int)<y:=by omega
    have h2: ¬((x:Int)=y):=by omega
    go_wp2
    go_quiet (fail)
    go_wp2
    go_quiet (fail)
    go_wp2
    obtain⟨e1,e2,r0,r1,hb⟩:=R.out
    go_ret
    have hlt:A<B:=lt_of_div (P:=2^(16*g)) (by omega)
    exact⟨by simp[hlt],below_dn (below_dn hb _) _⟩
   ·subst h
    go_wp2
    go_quiet (fail)
    go_wp2
    obtain⟨e1,e2,r0,r1,hb⟩:=R.out
    go_roundg g
    case measure=>omega
    case rel=>exact⟨rfl,by omega,by omega,r0,r1,below_dn hb _⟩
   ·have h1: ¬((x:Int)<y):=by omega
    have h2: ¬((x:Int)=y):=by omega
    go_wp2
    go_quiet (fail)
    go_wp2
    go_quiet (fail)
    go_wp2
    obtain⟨e1,e2,r0,r1,hb⟩:=R.out
    go_ret
    have hlt:B<A:=lt_of_div (P:=2^(16*g)) (by omega)
    exact⟨by simp;omega,below_dn (below_dn hb _) _⟩
end Go.Proofs.YtighhihgmkcabaaGreat
