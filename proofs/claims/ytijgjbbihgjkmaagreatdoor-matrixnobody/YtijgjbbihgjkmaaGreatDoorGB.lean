import Derived.Test.YtijgjbbihgjkmaaGreatDoorGA
import Derived.Deep.DeepCutAuto
import Derived.Deep.RegionLaw
set_option maxRecDepth 100000
set_option maxHeartbeats 2000000
namespace Go.Proofs.YtijgjbbihgjkmaaGreatDoor
set_option linter.unusedVariables false
open Go.RowKit
theorem rint_no (n:Int)(w:World)(h:n<=0):
  Calls Tryz.prog 57 #[.int .i64 n] w fun e w'=>e= .returned (.agg (natC n.toNat))/\Below w.heap.size w w':=by
 have hg: ¬(0<n):=by omega
 have hd:decide (0<n)=false:=by simpa using hg
 go_enter Tryz.func57,Tryz.ntmps57
 go_wp2_with (first
  |refine wpList_alloc_row rfl 62 rfl _ zero_nat ?_
  |refine wpList_alloc_row rfl 159 rfl _ zero_bits ?_
  |refine wpList_build_zero rfl 159 rfl _ built_bits ?_
  |refine wpList_store_new rfl 159 _ _ rfl _ rfl rfl _ _ (by rw[bitC_size];exact size_bits) (by simp only[bitC_size]) (bitC_one _) ?_)
 go_loopg [4] 0 (fun g s4 wr=>s4= .int .i64 0/\Row wr (w.heap.size+1) (bitC 0) 159/\Row wr w.heap.size (natC 0) 62/\Below w.heap.size w wr)
 case atStart=>exact⟨rfl,Row.here (by simp),Row.one rfl,below_alloc2 _ _⟩
 case round=>
  obtain⟨rfl,r0,r1,hb⟩:=hrel
  go_wp2_with (first
   |refine wpList_loadR rfl 159 _ rfl _ rfl r0 256 _ Tryz.underlying159 (by rw[bitC_size];exact size_bits) ?_
   |(go_at_call 113;refine(rnat_any _ _).mono ?_;rintro e w2 ⟨rfl,hb2⟩;have r5:=r1.belowAll hb2;have b5:=below_on hb (Nat.le_refl _) hb2)
   |refine wpList_storeR rfl 62 _ _ rfl _ _ rfl rfl r5 (by exact size_nat) (by simp only[natC_size]) (natC_one _) ?_)
  rw[show n.toNat=0 by omega]
  exact ret_row rfl _ rfl (r5.setRow _) 4 _ Tryz.underlying62 (by exact size_nat) rfl ⟨rfl,below_setRow b5 (by omega) _⟩
theorem rint_yes (N:Nat)(w:World)(h0:0<N)(h1:N<9223372036854775808):
  Calls Tryz.prog 57 #[.int .i64 N] w fun e w'=>e= .returned (.agg (natC N))/\Below w.heap.size w w':=by
 have hg:(0:Int)<N:=by omega
 have H1:Hid (N<9223372036854775808):=h1
 clear h1 h0
 go_enter Tryz.func57,Tryz.ntmps57
 go_wp2_with (first
  |refine wpList_alloc_row rfl 62 rfl _ zero_nat ?_
  |refine wpList_alloc_row rfl 159 rfl _ zero_bits ?_
  |refine wpList_build_zero rfl 159 rfl _ built_bits ?_
  |refine wpList_store_new rfl 159 _ _ rfl _ rfl rfl _ _ (by rw[bitC_size];exact size_bits) (by simp only[bitC_size]) (bitC_one _) ?_)
 go_loopg [4] 63 (fun g s4 wr=> ∃k:Nat,k+g=63/\s4= .int .i64 k/\Row wr (w.heap.size+1) (bitC (N%2^k)) 159/\Row wr w.heap.size (natC 0) 62/\Below w.heap.size w wr)
 case atStart=>exact⟨0,by omega,rfl,by rw[Nat.pow_zero,Nat.mod_one];exact Row.here (by simp),Row.one rfl,below_alloc2 _ _⟩
 case round=>
  obtain⟨k,hk,rfl,r0,r1,hb⟩:=hrel
  cases gk with
  |zero=>
   obtain rfl:k=63:=by omega
   rw[Nat.mod_eq_of_lt (show N<2^63 from H1.out)]at r0
   clear hk
   have hx: ¬((63:Int)<63):=by omega
   go_wp2_with (first
    |refine wpList_loadR rfl 159 _ rfl _ rfl r0 256 _ Tryz.underlying159 (by rw[bitC_size];exact size_bits) ?_
    |(go_at_call 113;refine(rnat_any _ _).mono ?_;rintro e w2 ⟨rfl,hb2⟩;have r5:=r1.belowAll hb2;have b5:=below_on hb (Nat.le_refl _) hb2)
    |refine wpList_storeR rfl 62 _ _ rfl _ _ rfl rfl r5 (by exact size_nat) (by simp only[natC_size]) (natC_one _) ?_)
   exact ret_row rfl _ rfl (r5.setRow _) 4 _ Tryz.underlying62 (by exact size_nat) rfl ⟨rfl,below_setRow b5 (by omega) _⟩
  |succ g=>
   have hlt:(k:Int)<63:=by omega
   have hlt':(k:Int)<256:=by omega
   have hc0:=cell_bits r0 k (by omega)
   have hf0:=r0.frozen k
   have R:Aside (Row wr (w.heap.size+1) (bitC (N%2^k)) 159/\Row wr w.heap.size (natC 0) 62/\Below w.heap.size w wr):=⟨r0,r1,hb⟩
   clear r0 r1 hb
   go_wp2
   obtain⟨r0,r1,hb⟩:=R.out
   go_roundg g
   case measure=>omega
   case rel=>
    refine⟨k+1,by omega,by go_num,?_,r1.setCell_far _ _ _ (by omega),below_setCell hb (by omega) _ _⟩
    have:=r0.setCell k (.bool (bits BinOp.and IntKind.i64 (↑N/2^k) 1==1))
    rw[bitC_snoc N k _ (bit_test_i _ _ H1.out)]at this
    exact this
theorem rint_any (n:Int)(w:World)(h:n<9223372036854775808):
  Calls Tryz.prog 57 #[.int .i64 n] w fun e w'=>e= .returned (.agg (natC n.toNat))/\Below w.heap.size w w':=by
 by_cases h0:n<=0
 ·exact rint_no n w h0
 ·obtain⟨N,rfl⟩:=Int.eq_ofNat_of_zero_le (show 0<=n by omega)
  rw[Int.toNat_natCast]
  exact rint_yes N w (by omega) (by omega)
def flip (N:Nat):Nat:=2^256-1-N%2^256
def flipTo (N k:Nat):Nat:=flip N%2^k+N/2^k*2^k
def cmpI (A B:Nat):Int:=if A<B then-1 else if B<A then 1 else 0
theorem bitLen_eq (A g:Nat)(h1:2^g<=A)(h2:A<2^(g+1)):bitLen A=g+1:=by
 have h0:A≠0:=by have:=Nat.two_pow_pos g;omega
 unfold bitLen
 rw[if_neg h0,(Nat.log2_eq_iff h0).2 ⟨h1,h2⟩]
theorem bit_top (A g:Nat)(h2:A<2^(g+1)):(A.testBit g=true->2^g<=A)/\(A.testBit g=false->A<2^g):=by
 constructor
 ·intro h
  exact Nat.ge_two_pow_of_testBit h
 ·intro h
  rcases bit_cases A g with ⟨_,_,h3⟩|⟨h3,_⟩
  ·rw[Nat.mod_eq_of_lt h2]at h3
   rw[h3]
   exact Nat.mod_lt _ (Nat.two_pow_pos g)
  ·rw[h]at h3;cases h3
def bitI (A:Nat)(k:Int):Int:=if 0<=k/\k<256/\A.testBit k.toNat=true then 1 else 0
theorem rlen_any (A:Nat)(w:World)(hA:A<2^256):
  Calls Tryz.prog 91 #[.agg (natC A)] w fun e w'=>e= .returned (.int .i64 (bitLen A))/\Below w.heap.size w w':=by
 have HA:Hid (A<2^256):=hA
 clear hA
 go_enter Tryz.func91,Tryz.ntmps91
 go_wp2_with (first
  |refine wpList_box_row rfl 62 _ rfl _ rfl ?_
  |refine wpList_loadR rfl 62 _ rfl _ rfl (by first|assumption|(refine Row.here ?_;first|(with_reducible rfl)|(simp;done))|(refine Row.one ?_;first|(with_reducible rfl)|(simp;done))|(refine Row.two ?_;first|(with_reducible rfl)|(simp;done))) 4 _ Tryz.underlying62 (by exact size_nat) ?_
  |(go_at_call 127;refine(rof_any _ _).mono ?_;rintro e w2 ⟨rfl,hb2⟩;have hs:=hb2.size;have b2:=below_on (below_alloc _) (Nat.le_refl _) hb2;clear hb2)
  |refine wpList_alloc_row rfl 159 rfl _ zero_bits ?_
  |refine wpList_store_new rfl 159 _ _ rfl _ rfl rfl _ _ (by rw[bitC_size];exact size_bits) (by simp only[bitC_size]) (bitC_one _) ?_)
 have r3:=Row.new w2 (bitC A) 159
 have b3:=b2.alloc b2.size (.cells (bitC A) 159)
 generalize w2.alloc (.cells (bitC A) 159)=w3 at*
 generalize w2.heap.size=r at*
 clear b2 hs
 go_loopg [4] 256 (fun g s4 wr=>s4= .int .i64 ((g:Int)-1)/\A<2^g/\g<=256/\Row wr r (bitC A) 159/\Below w.heap.size w wr)
 case atStart=>exact⟨rfl,HA.out,Nat.le_refl _,r3,b3⟩
 case round=>
  obtain⟨rfl,hlt,hle,r0,hb⟩:=hrel
  clear r3 b3 HA
  cases gk with
  |zero=>
   obtain rfl:A=0:=by simpa using hlt
   clear hlt hle
   go_wp2
   go_ret
   exact⟨rfl,hb⟩
  |succ g=>
   have ht:=bit_top A g hlt
   have hq:=bitLen_eq A g
   have hc0:=cell_bits r0 g (by omega)
   rw[show((g+1:Nat):Int)-1=(g:Int) by omega]
   have hgl:(g:Int)<256:=by omega
   cases hbit:A.testBit g
   ·rw[hbit]at hc0
    have R:Aside (A<2^g/\Row wr r (bitC A) 159/\Below w.heap.size w wr):=⟨ht.2 hbit,r0,hb⟩
    clear ht hq r0 hb hlt hbit
    go_wp2
    obtain⟨h1,r0,hb⟩:=R.out
    go_roundg g
    case measure=>omega
    case rel=>exact⟨rfl,h1,by omega,r0,hb⟩
   ·rw[hbit]at hc0
    have R:Aside (bitLen A=g+1/\Below w.heap.size w wr):=⟨hq (ht.1 hbit) hlt,hb⟩
    clear ht hq r0 hb hlt hbit
    go_wp2
    go_ret
    exact⟨by rw[R.out.1];rfl,R.out.2⟩
theorem rlow_no (A:Nat)(w:World)(hA:A<2^256)(h:63<bitLen A):
  Calls Tryz.prog 67 #[.agg (natC A)] w fun e w'=>e= .returned (.tuple #[.int .i64 0,.bool false])/\Below w.heap.size w w':=by
 have HA:Hid (A<2^256):=hA
 clear hA
 have h':(63:Int)<(bitLen A:Int):=by omega
 clear h
 go_enter Tryz.func67,Tryz.ntmps67
 go_wp2_with (first
  |refine wpList_box_row rfl 62 _ rfl _ rfl ?_
  |refine wpList_loadR rfl 62 _ rfl _ rfl (by first|assumption|(refine Row.here ?_;first|(with_reducible rfl)|(simp;done))|(refine Row.one ?_;first|(with_reducible rfl)|(simp;done))|(refine Row.two ?_;first|(with_reducible rfl)|(simp;done))) 4 _ Tryz.underlying62 (by exact size_nat) ?_
  |(go_at_call 91;refine(rlen_any _ _ HA.out).mono ?_;rintro e w2 ⟨rfl,hb2⟩;have b2:=below_on (below_alloc _) (Nat.le_refl _) hb2;clear hb2))
 go_ret2
 exact⟨rfl,b2⟩
theorem rlow_yes (A:Nat)(w:World)(hA:A<9223372036854775808)(h:bitLen A<=63):
  Calls Tryz.prog 67 #[.agg (natC A)] w fun e w'=>e= .returned (.tuple #[.int .i64 A,.bool true])/\Below w.heap.size w w':=by
 have HA:Hid (A<9223372036854775808):=hA
 clear hA
 have h': ¬(63:Int)<(bitLen A:Int):=by omega
 clear h
 go_enter Tryz.func67,Tryz.ntmps67
 go_wp2_with (first
  |refine wpList_box_row rfl 62 _ rfl _ rfl ?_
  |refine wpList_loadR rfl 62 _ rfl _ rfl (by first|assumption|(refine Row.here ?_;first|(with_reducible rfl)|(simp;done))|(refine Row.one ?_;first|(with_reducible rfl)|(simp;done))|(refine Row.two ?_;first|(with_reducible rfl)|(simp;done))) 4 _ Tryz.underlying62 (by exact size_nat) ?_
  |(go_at_call 91;refine(rlen_any _ _ (Nat.lt_trans HA.out (by decide))).mono ?_;rintro e w2 ⟨rfl,hb2⟩;have r2:=(Row.here (w:=w) (c:=natC A) (t:=62) (b:=w.heap.size) rfl).belowAll hb2;have b2:=below_on (below_alloc _) (Nat.le_refl _) hb2;clear hb2)
  |refine wpList_loadR rfl 62 _ rfl _ rfl r2 4 _ Tryz.underlying62 (by exact size_nat) ?_
  |(go_at_call 127;refine(rof_any _ _).mono ?_;rintro e w3 ⟨rfl,hb3⟩;have b3:=below_on b2 (Nat.le_refl _) hb3;clear hb3)
  |refine wpList_alloc_row rfl 159 rfl _ zero_bits ?_
  |refine wpList_store_new rfl 159 _ _ rfl _ rfl rfl _ _ (by rw[bitC_size];exact size_bits) (by simp only[bitC_size]) (bitC_one _) ?_)
 have r3:=Row.new w3 (bitC A) 159
 have b4:=b3.alloc b3.size (.cells (bitC A) 159)
 generalize w3.alloc (.cells (bitC A) 159)=w4 at*
 generalize w3.heap.size=r at*
 clear b2 b3 r2 h'
 go_loopg [4,6] 63 (fun g s4 s6 wr=> ∃k:Nat,k+g=63/\s4= .int .i64 ((A%2^k:Nat):Int)/\s6= .int .i64 k/\Row wr r (bitC A) 159/\Below w.heap.size w wr)
 case atStart=>exact⟨0,by omega,by rw[Nat.pow_zero,Nat.mod_one];rfl,rfl,r3,b4⟩
 case round=>
  obtain⟨k,hk,rfl,rfl,r0,hb⟩:=hrel
  clear r3 b4
  cases gk with
  |zero=>
   obtain rfl:k=63:=by omega
   rw[Nat.mod_eq_of_lt (show A<2^63 from HA.out)]
   clear hk
   have hx: ¬((63:Int)<63):=by omega
   go_wp2
   go_ret2
   exact⟨rfl,hb⟩
  |succ g=>
   have hlt:(k:Int)<63:=by omega
   have hlt':(k:Int)<256:=by omega
   have hc0:=cell_bits r0 k (by omega)
   have hm:A%2^k<9223372036854775808:=Nat.lt_of_le_of_lt (Nat.mod_le _ _) HA.out
   have hno:=mod_snoc_no A k
   have hor:=mod_snoc_or A k
   have HM:Hid (A%2^k<9223372036854775808):=hm
   cases hbit:A.testBit k
   ·rw[hbit]at hc0
    have R:Aside (A%2^(k+1)=A%2^k/\Row wr r (bitC A) 159/\Below w.heap.size w wr):=⟨hno hbit,r0,hb⟩
    clear hno hor r0 hb hbit hm
    go_wp2
    obtain⟨h1,r0,hb⟩:=R.out
    go_roundg g
    case measure=>omega
    case rel=>exact⟨k+1,by omega,by rw[h1],by go_num,r0,hb⟩
   ·rw[hbit]at hc0
    have R:Aside (A%2^k|||2^k=A%2^(k+1)/\Row wr r (bitC A) 159/\Below w.heap.size w wr):=⟨hor hbit,r0,hb⟩
    clear hno hor r0 hb hbit hm
    go_wp2
    obtain⟨h1,r0,hb⟩:=R.out
    go_roundg g
    case measure=>omega
    case rel=>exact⟨k+1,by omega,by rw[<-h1,<-or_bit_i _ _ HM.out (by omega),IntKind.wrap_i64,Int.natCast_emod];simp[wrap64],by go_num,r0,hb⟩
theorem find_add64:Extern.find Tryz.f218=some add64Entry:=by kernel_rfl
theorem next_add64:Extern.findNext Tryz.f218=none:=by kernel_rfl
theorem find_sub64:Extern.find Tryz.f211=some sub64Entry:=by kernel_rfl
theorem next_sub64:Extern.findNext Tryz.f211=none:=by kernel_rfl
theorem nadd_any (A B:Nat)(w:World):
  Calls Tryz.prog 204 #[.agg (natC A),.agg (natC B)] w fun e w'=>e= .returned (.tuple #[.agg (natC (A+B)),.int .i64 (cN A B 256:Nat)])/\Below w.heap.size w w':=by
 go_enter Tryz.func204,Tryz.ntmps204
 go_wp2_with (first
  |refine wpList_box_row rfl 62 _ rfl _ rfl ?_
  |refine wpList_alloc_row rfl 62 rfl _ zero_nat ?_)
 go_loopg [7,9] 4 (fun g s7 s9 wr=> ∃k:Nat,k+g=4/\s7= .int .u64 (cN A B (64*k))/\s9= .int .i64 k/\Row wr w.heap.size (natC A) 62/\Row wr (w.heap.size+1) (natC B) 62/\Row wr (w.heap.size+1+1) (natC 0) 62/\Row wr (w.heap.size+1+1+1) (natC ((A+B)%2^(64*k))) 62/\Below w.heap.size w wr)
 case atStart=>
  refine⟨0,by omega,by rw[show cN A B (64*0)=0 by unfold cN;rw[show carry A B (64*0)=false from carry_zero A B];rfl];rfl,rfl,(Row.two rfl).alloc _,Row.two (by simp),Row.one (by simp),?_,(below_alloc3 _ _ _).alloc (by simp;omega) _⟩
  rw[show(A+B)%2^(64*0)=0 by simp[Nat.mod_one]]
  exact Row.here (by simp)
 case round=>
  obtain⟨k,hk,rfl,rfl,r0,r1,r2,r3,hb⟩:=hrel
  cases gk with
  |zero=>
   obtain rfl:k=4:=by omega
   rw[show(A+B)%2^(64*4)=(A+B)%2^256 from rfl,natC_full]at r3
   clear hk
   have hx: ¬((4:Int)<4):=by omega
   have hcl:=cN_le A B (64*4)
   rw[show 64*4=256 from rfl]at hcl ⊢
   have HC:Hid (∃c,cN A B 256=c):=⟨_,rfl⟩
   obtain⟨c,hC⟩:=HC.out
   rw[hC]at hcl ⊢
   have HC:Hid (cN A B 256=c):=hC
   clear hC
   go_wp2_with (first
    |refine wpList_loadR rfl 62 _ rfl _ rfl r3 4 _ Tryz.underlying62 (by exact size_nat) ?_
    |refine wpList_storeR rfl 62 _ _ rfl _ _ rfl rfl r2 (by exact size_nat) (by simp only[natC_size]) (natC_one _) ?_)
   refine ret_row2 rfl _ rfl (r2.setRow _) 4 _ Tryz.underlying62 (by exact size_nat) rfl _ rfl ⟨by rw[HC.out];rfl,below_setRow hb (by omega) _⟩
  |succ g=>
   have hlt:(k:Int)<4:=by omega
   have hc0:=cell_nat r0 k (by omega)
   have hc1:=cell_nat r1 k (by omega)
   have hc3:=cell_nat r3 k (by omega)
   have hf3:=r3.frozen k
   have R:Aside (Row wr w.heap.size (natC A) 62/\Row wr (w.heap.size+1) (natC B) 62/\Row wr (w.heap.size+1+1) (natC 0) 62/\Row wr (w.heap.size+1+1+1) (natC ((A+B)%2^(64*k))) 62/\Below w.heap.size w wr):=⟨r0,r1,r2,r3,hb⟩
   clear r0 r1 r2 r3 hb
   have hcl:=cN_le A B (64*k)
   have hl:=add_limb A B k
   have hs:=add_carry A B k
   generalize cN A B (64*k)=c at*
   have S:Aside (lm (A+B) k=addV (lm A k) (lm B k) c/\cN A B (64*(k+1))=addC (lm A k) (lm B k) c):=⟨hl,hs⟩
   clear hl hs
   go_wp2
   go_region_law (refine step_extern (by rfl) 218 _ _ (by rfl) Tryz.func218 (by kernel_rfl) (by kernel_rfl) next_add64 find_add64 #[.int .u64 (lm A k),.int .u64 (lm B k),.int .u64 c] (by rfl) _ (run_add64_nat _ _ _ hcl _) ?_)
   all_goals
    go_wp2
    obtain⟨r0,r1,r2,r3,hb⟩:=R.out
    obtain⟨hl,hs⟩:=S.out
    go_roundg g
    case measure=>omega
    case rel=>
     refine⟨k+1,by omega,by rw[hs],by go_num,(r0.setCell_far _ _ _ (by omega)).drew,(r1.setCell_far _ _ _ (by omega)).drew,(r2.setCell_far _ _ _ (by omega)).drew,?_,(below_setCell hb (by omega) _ _).drew⟩
     have:=(r3.setCell k (.int .u64 (addV (lm A k) (lm B k) c:Nat))).drew
     rw[natC_limb (A+B) k _ (by omega) hl.symm]at this
     exact this
theorem nsub_any (A B:Nat)(w:World)(hB:B<2^256):
  Calls Tryz.prog 174 #[.agg (natC A),.agg (natC B)] w fun e w'=>e= .returned (.tuple #[.agg (natC (less A B)),.int .i64 (bN A B 256:Nat)])/\Below w.heap.size w w':=by
 have HB:Hid (B<2^256):=hB
 clear hB
 go_enter Tryz.func174,Tryz.ntmps174
 go_wp2_with (first
  |refine wpList_box_row rfl 62 _ rfl _ rfl ?_
  |refine wpList_alloc_row rfl 62 rfl _ zero_nat ?_)
 go_loopg [7,9] 4 (fun g s7 s9 wr=> ∃k:Nat,k+g=4/\s7= .int .u64 (bN A B (64*k))/\s9= .int .i64 k/\Row wr w.heap.size (natC A) 62/\Row wr (w.heap.size+1) (natC B) 62/\Row wr (w.heap.size+1+1) (natC 0) 62/\Row wr (w.heap.size+1+1+1) (natC ((less A B)%2^(64*k))) 62/\Below w.heap.size w wr)
 case atStart=>
  refine⟨0,by omega,by rw[show bN A B (64*0)=0 by simp[bN,Nat.mod_one]];rfl,rfl,(Row.two rfl).alloc _,Row.two (by simp),Row.one (by simp),?_,(below_alloc3 _ _ _).alloc (by simp;omega) _⟩
  rw[show(less A B)%2^(64*0)=0 by simp[Nat.mod_one]]
  exact Row.here (by simp)
 case round=>
  obtain⟨k,hk,rfl,rfl,r0,r1,r2,r3,hb⟩:=hrel
  cases gk with
  |zero=>
   obtain rfl:k=4:=by omega
   rw[show(less A B)%2^(64*4)=(less A B)%2^256 from rfl,natC_full]at r3
   clear hk
   have hx: ¬((4:Int)<4):=by omega
   have hcl:=bN_le A B (64*4)
   rw[show 64*4=256 from rfl]at hcl ⊢
   have HC:Hid (∃c,bN A B 256=c):=⟨_,rfl⟩
   obtain⟨c,hC⟩:=HC.out
   rw[hC]at hcl ⊢
   have HC:Hid (bN A B 256=c):=hC
   clear hC
   go_wp2_with (first
    |refine wpList_loadR rfl 62 _ rfl _ rfl r3 4 _ Tryz.underlying62 (by exact size_nat) ?_
    |refine wpList_storeR rfl 62 _ _ rfl _ _ rfl rfl r2 (by exact size_nat) (by simp only[natC_size]) (natC_one _) ?_)
   refine ret_row2 rfl _ rfl (r2.setRow _) 4 _ Tryz.underlying62 (by exact size_nat) rfl _ rfl ⟨by rw[HC.out];rfl,below_setRow hb (by omega) _⟩
  |succ g=>
   have hlt:(k:Int)<4:=by omega
   have hc0:=cell_nat r0 k (by omega)
   have hc1:=cell_nat r1 k (by omega)
   have hc3:=cell_nat r3 k (by omega)
   have hf3:=r3.frozen k
   have R:Aside (Row wr w.heap.size (natC A) 62/\Row wr (w.heap.size+1) (natC B) 62/\Row wr (w.heap.size+1+1) (natC 0) 62/\Row wr (w.heap.size+1+1+1) (natC ((less A B)%2^(64*k))) 62/\Below w.heap.size w wr):=⟨r0,r1,r2,r3,hb⟩
   clear r0 r1 r2 r3 hb
   have hcl:=bN_le A B (64*k)
   have hl:=sub_limb A B k (by omega) HB.out
   have hs:=sub_borrow A B k
   generalize bN A B (64*k)=c at*
   have S:Aside (lm (less A B) k=subV (lm A k) (lm B k) c/\bN A B (64*(k+1))=subB (lm A k) (lm B k) c):=⟨hl,hs⟩
   clear hl hs
   go_wp2
   go_region_law (refine step_extern (by rfl) 211 _ _ (by rfl) Tryz.func211 (by kernel_rfl) (by kernel_rfl) next_sub64 find_sub64 #[.int .u64 (lm A k),.int .u64 (lm B k),.int .u64 c] (by rfl) _ (run_sub64 _ _ _ hcl _) ?_)
   all_goals
    go_wp2
    obtain⟨r0,r1,r2,r3,hb⟩:=R.out
    obtain⟨hl,hs⟩:=S.out
    go_roundg g
    case measure=>omega
    case rel=>
     refine⟨k+1,by omega,by rw[hs],by go_num,(r0.setCell_far _ _ _ (by omega)).drew,(r1.setCell_far _ _ _ (by omega)).drew,(r2.setCell_far _ _ _ (by omega)).drew,?_,(below_setCell hb (by omega) _ _).drew⟩
     have:=(r3.setCell k (.int .u64 (subV (lm A k) (lm B k) c:Nat))).drew
     rw[natC_limb (less A B) k _ (by omega) hl.symm]at this
     exact this
theorem natC_eq (X Y:Nat):natC X=natC Y↔X%2^256=Y%2^256:=⟨natC_inj,fun h=>by rw[<-natC_full X,<-natC_full Y,h]⟩
theorem natC_lms (X Y:Nat):(lm X 0=lm Y 0/\lm X 1=lm Y 1/\lm X 2=lm Y 2/\lm X 3=lm Y 3)↔X%2^256=Y%2^256:=by
 rw[<-natC_eq]
 constructor
 ·rintro⟨h0,h1,h2,h3⟩
  unfold natC
  rw[h0,h1,h2,h3]
 ·intro h
  have hl: ∀i,i<4->lm X i=lm Y i:=fun i hi=>by
   have h1:=natC_get X i hi
   rw[h,natC_get Y i hi]at h1
   simp only[Option.some.injEq,Value.int.injEq,true_and]at h1
   omega
  exact⟨hl 0 (by omega),hl 1 (by omega),hl 2 (by omega),hl 3 (by omega)⟩
theorem equal_nat (X Y:Nat)(w:World):(Op.equalIn 10000 62 (.agg (natC X)) (.agg (natC Y))).run Tryz.prog w= .ok (decide (X%2^256=Y%2^256)) w:=by
 have h:=natC_lms X Y
 rw[show decide (X%2^256=Y%2^256)=decide (lm X 0=lm Y 0/\lm X 1=lm Y 1/\lm X 2=lm Y 2/\lm X 3=lm Y 3)from decide_eq_decide.2 h.symm]
 clear h
 have u3:=Tryz.underlying60
 have a3:=Tryz.isAgg60
 have z3:=Tryz.sizeOf60
 unfold natC
 rw[show(10000:Nat)=9999+1 from rfl,Op.equalIn]
 simp only[Sem.run_bind,run_underlying Tryz.underlying62,Result.andThen_ok];simp only[Std.Legacy.Range.forIn_eq_forIn_range',Std.Legacy.Range.size,Nat.sub_zero,Nat.add_sub_cancel,Nat.div_one,List.range'_succ,List.range'_zero,List.forIn_cons,List.forIn_nil]
 go_simp
 by_cases h1:lm X 0=lm Y 0<;>by_cases h2:lm X 1=lm Y 1<;>by_cases h3:lm X 2=lm Y 2<;>by_cases h4:lm X 3=lm Y 3<;>simp[h1,h2,h3,h4]<;>omega
theorem exec_eql_nat {o:Oper}{ρ:Operand->Value}(x y:Operand)(u:TypeId)(ho:o.op= .binOp .eql 62 x y u)(X Y:Nat)(hx:ρ x= .agg (natC X))(hy:ρ y= .agg (natC Y))(w:World):
  (execOp ρ o).run Tryz.prog w= .ok (.value (.bool (decide (X%2^256=Y%2^256)))) w:=by
 unfold execOp
 simp only[ho,hx,hy]
 simp[eqGuard,run_eql_struct,equal_nat]
theorem exec_neq_nat {o:Oper}{ρ:Operand->Value}(x y:Operand)(u:TypeId)(ho:o.op= .binOp .neq 62 x y u)(X Y:Nat)(hx:ρ x= .agg (natC X))(hy:ρ y= .agg (natC Y))(w:World):
  (execOp ρ o).run Tryz.prog w= .ok (.value (.bool (!decide (X%2^256=Y%2^256)))) w:=by
 unfold execOp
 simp only[ho,hx,hy]
 simp[eqGuard,run_neq_struct,equal_nat]
theorem wpList_value {P:Program}{ops:Array Oper}{rest:List Oper}{o:Oper}{a:Act}{w:World}{Q:Exit->Act->World->Prop}(hgd:o.guard=none)(v:Value)
  (hr:(execOp a.eval o).run P w= .ok (.value v) w)(h:wpList P ops Q rest (a.put o.dst v) w):wpList P ops Q (o::rest) a w:=
 wpList_plain hgd fun _ hK=>by unfold Oper.wp;rw[hr];exact hK _ _ h
theorem natC_low (n:Nat)(h:n<18446744073709551616):natC n=#[.int .u64 n,.int .u64 0,.int .u64 0,.int .u64 0]:=by
 unfold natC lm
 rw[show 64*0=0 from rfl,Nat.pow_zero,Nat.div_one,Nat.mod_eq_of_lt (show n<2^64 from h),Nat.div_eq_of_lt (Nat.lt_of_lt_of_le h (by decide)),Nat.div_eq_of_lt (Nat.lt_of_lt_of_le h (by decide)),Nat.div_eq_of_lt (Nat.lt_of_lt_of_le h (by decide))]
 rfl
theorem nof_any (n:Int)(w:World)(h1:n<9223372036854775808):
  Calls Tryz.prog 74 #[.int .i64 n] w fun e w'=>e= .returned (.agg (natC n.toNat))/\Below w.heap.size w w':=by
 rw[natC_low n.toNat (by omega)]
 by_cases h0:0<=n
 ·rw[Int.toNat_of_nonneg h0]
  have hm:max n 0=n:=by omega
  go_enter Tryz.func74,Tryz.ntmps74
  go_wp2
  exact ret_row rfl _ rfl (Row.here rfl) 4 _ Tryz.underlying62 (by exact size_nat) rfl ⟨rfl,below_alloc _⟩
 ·rw[show((n.toNat:Nat):Int)=0 by omega]
  have hm:max n 0=0:=by omega
  go_enter Tryz.func74,Tryz.ntmps74
  go_wp2
  exact ret_row rfl _ rfl (Row.here rfl) 4 _ Tryz.underlying62 (by exact size_nat) rfl ⟨rfl,below_alloc _⟩
theorem ncmp_any (A B:Nat)(w:World)(hA:A<2^256)(hB:B<2^256):
  Calls Tryz.prog 134 #[.agg (natC A),.agg (natC B)] w fun e w'=>e= .returned (.int .i64 (cmpI A B))/\Below w.heap.size w w':=by
 have rA:Row ((w.alloc (.cells (natC A) 62)).alloc (.cells (natC B) 62)) w.heap.size (natC A) 62:=Row.one rfl
 have rB:Row ((w.alloc (.cells (natC A) 62)).alloc (.cells (natC B) 62)) (w.heap.size+1) (natC B) 62:=Row.here (by simp)
 have HB:Hid (B<2^256):=hB
 have ma:=Nat.mod_eq_of_lt hA
 have mb:=Nat.mod_eq_of_lt hB
 by_cases heq:A=B
 ·subst heq
  clear ma mb hA hB
  go_enter Tryz.func134,Tryz.ntmps134
  go_wp2_with (first
   |refine wpList_box_row rfl 62 _ rfl _ rfl ?_
   |refine wpList_loadR rfl 62 _ rfl _ rfl rA 4 _ Tryz.underlying62 (by exact size_nat) ?_
   |refine wpList_loadR rfl 62 _ rfl _ rfl rB 4 _ Tryz.underlying62 (by exact size_nat) ?_
   |refine wpList_value rfl (.bool true) ((exec_eql_nat _ _ _ rfl A A rfl rfl _).trans (by rw[decide_eq_true rfl])) ?_)
  go_ret
  exact⟨by simp[cmpI],below_alloc2 _ _⟩
 ·have HD:Hid (decide (A%2^256=B%2^256)=false):=by show _=_;rw[ma,mb];exact decide_eq_false heq
  have HN:Hid (bN A B 256=if A<B then 1 else 0):=by show _=_;unfold bN;rw[ma,mb]
  by_cases hlt:A<B
  ·have HC:Hid (cmpI A B= -1):=by show _=_;unfold cmpI;rw[if_pos hlt]
   have hn:((bN A B 256:Nat):Int)=1:=by rw[HN.out,if_pos hlt];rfl
   clear HN hlt heq ma mb hA hB
   go_enter Tryz.func134,Tryz.ntmps134
   go_wp2_with (first
    |refine wpList_box_row rfl 62 _ rfl _ rfl ?_
    |refine wpList_loadR rfl 62 _ rfl _ rfl rA 4 _ Tryz.underlying62 (by exact size_nat) ?_
    |refine wpList_loadR rfl 62 _ rfl _ rfl rB 4 _ Tryz.underlying62 (by exact size_nat) ?_
    |refine wpList_value rfl (.bool false) ((exec_eql_nat _ _ _ rfl A B rfl rfl _).trans (by rw[HD.out])) ?_
    |(go_at_call 174;refine(nsub_any _ _ _ HB.out).mono ?_;rintro e w2 ⟨rfl,hb2⟩;have b2:=below_on (below_alloc2 _ _) (Nat.le_refl _) hb2;clear hb2)
    |refine wpList_alloc_row rfl 62 rfl _ zero_nat ?_
    |refine wpList_store_new rfl 62 _ _ rfl _ rfl rfl _ _ (by exact size_nat) (by simp only[natC_size]) (natC_one _) ?_)
   go_ret
   exact⟨by rw[HC.out];rfl,b2.alloc b2.size _⟩
  ·have HC:Hid (cmpI A B=1):=by show _=_;unfold cmpI;rw[if_neg hlt,if_pos (by omega)]
   have hn:((bN A B 256:Nat):Int)=0:=by rw[HN.out,if_neg hlt];rfl
   clear HN hlt heq ma mb hA hB
   go_enter Tryz.func134,Tryz.ntmps134
   go_wp2_with (first
    |refine wpList_box_row rfl 62 _ rfl _ rfl ?_
    |refine wpList_loadR rfl 62 _ rfl _ rfl rA 4 _ Tryz.underlying62 (by exact size_nat) ?_
    |refine wpList_loadR rfl 62 _ rfl _ rfl rB 4 _ Tryz.underlying62 (by exact size_nat) ?_
    |refine wpList_value rfl (.bool false) ((exec_eql_nat _ _ _ rfl A B rfl rfl _).trans (by rw[HD.out])) ?_
    |(go_at_call 174;refine(nsub_any _ _ _ HB.out).mono ?_;rintro e w2 ⟨rfl,hb2⟩;have b2:=below_on (below_alloc2 _ _) (Nat.le_refl _) hb2;clear hb2)
    |refine wpList_alloc_row rfl 62 rfl _ zero_nat ?_
    |refine wpList_store_new rfl 62 _ _ rfl _ rfl rfl _ _ (by exact size_nat) (by simp only[natC_size]) (natC_one _) ?_)
   go_ret
   exact⟨by rw[HC.out];rfl,b2.alloc b2.size _⟩
def lowI (A:Nat):Int:=if A<9223372036854775808 then A else 0
def lowB (A:Nat):Bool:=decide (A<9223372036854775808)
theorem lm_zero (A:Nat):lm A 0=A%18446744073709551616:=by unfold lm;simp
theorem nint_wide (A:Nat)(w:World)(hA:A<2^256)(h:18446744073709551616<=A):
  Calls Tryz.prog 170 #[.agg (natC A)] w fun e w'=>e= .returned (.tuple #[.int .i64 0,.bool false])/\Below w.heap.size w w':=by
 have rA:=Row.new w (natC A) 62
 have hc0:=cell_nat rA 0 (by omega)
 have HV:Hid ((!decide (A%2^256=lm A 0%2^256))=true):=by
  show _=_
  rw[lm_zero,Nat.mod_eq_of_lt hA,decide_eq_false];rfl
  intro e
  omega
 clear hA h
 go_enter Tryz.func170,Tryz.ntmps170
 go_wp2_with (first
  |refine wpList_box_row rfl 62 _ rfl _ rfl ?_
  |refine wpList_loadR rfl 62 _ rfl _ rfl rA 4 _ Tryz.underlying62 (by exact size_nat) ?_
  |refine wpList_value rfl (.bool true) ((exec_neq_nat _ _ _ rfl A (lm A 0) rfl (by rw[natC_low _ (lm_lt A 0)];rfl) _).trans (by rw[HV.out])) ?_)
 go_ret2
 exact⟨rfl,below_alloc _⟩
theorem nint_low (A:Nat)(w:World)(h:A<18446744073709551616):
  Calls Tryz.prog 170 #[.agg (natC A)] w fun e w'=>e= .returned (.tuple #[.int .i64 (lowI A),.bool (lowB A)])/\Below w.heap.size w w':=by
 have rA:=Row.new w (natC A) 62
 have hc0:=cell_nat rA 0 (by omega)
 rw[lm_zero,Nat.mod_eq_of_lt h]at hc0
 have HV:Hid ((!decide (A%2^256=A%2^256))=false):=by show _=_;simp
 have HL:Hid (natC A=#[.int .u64 A,.int .u64 0,.int .u64 0,.int .u64 0]):=natC_low A h
 by_cases h63:A<9223372036854775808
 ·have h1: ¬((9223372036854775807:Int)<A):=by omega
  have HI:Hid (lowI A=A/\lowB A=true):=⟨if_pos h63,decide_eq_true h63⟩
  clear h h63
  go_enter Tryz.func170,Tryz.ntmps170
  go_wp2_with (first
   |refine wpList_box_row rfl 62 _ rfl _ rfl ?_
   |refine wpList_loadR rfl 62 _ rfl _ rfl rA 4 _ Tryz.underlying62 (by exact size_nat) ?_
   |refine wpList_value rfl (.bool false) ((exec_neq_nat _ _ _ rfl A A rfl (by rw[HL.out];rfl) _).trans (by rw[HV.out])) ?_)
  go_ret2
  exact⟨by rw[HI.out.1,HI.out.2];rfl,below_alloc _⟩
 ·have h1:(9223372036854775807:Int)<A:=by omega
  have HI:Hid (lowI A=0/\lowB A=false):=⟨if_neg h63,decide_eq_false h63⟩
  clear h h63
  go_enter Tryz.func170,Tryz.ntmps170
  go_wp2_with (first
   |refine wpList_box_row rfl 62 _ rfl _ rfl ?_
   |refine wpList_loadR rfl 62 _ rfl _ rfl rA 4 _ Tryz.underlying62 (by exact size_nat) ?_
   |refine wpList_value rfl (.bool false) ((exec_neq_nat _ _ _ rfl A A rfl (by rw[HL.out];rfl) _).trans (by rw[HV.out])) ?_)
  go_ret2
  exact⟨by rw[HI.out.1,HI.out.2];rfl,below_alloc _⟩
theorem nint_any (A:Nat)(w:World)(hA:A<2^256):
  Calls Tryz.prog 170 #[.agg (natC A)] w fun e w'=>e= .returned (.tuple #[.int .i64 (lowI A),.bool (lowB A)])/\Below w.heap.size w w':=by
 by_cases h:A<18446744073709551616
 ·exact nint_low A w h
 ·rw[show lowI A=0 from if_neg (by omega),show lowB A=false from decide_eq_false (by omega)]
  exact nint_wide A w hA (by omega)
theorem bitLen_63 (A:Nat):bitLen A<=63↔A<9223372036854775808:=by
 have h:=bitLen_spec A
 constructor
 ·intro hl
  exact Nat.lt_of_lt_of_le h.1 (Nat.pow_le_pow_right (by decide) hl)
 ·intro hA
  unfold bitLen
  split
  ·omega
  ·rename_i h0
   have:=(Nat.log2_lt h0).2 (show A<2^63 from hA)
   omega
theorem rlow_any (A:Nat)(w:World)(hA:A<2^256):
  Calls Tryz.prog 67 #[.agg (natC A)] w fun e w'=>e= .returned (.tuple #[.int .i64 (lowI A),.bool (lowB A)])/\Below w.heap.size w w':=by
 by_cases h:A<9223372036854775808
 ·rw[show lowI A=A from if_pos h,show lowB A=true from decide_eq_true h]
  exact rlow_yes A w h ((bitLen_63 A).2 h)
 ·rw[show lowI A=0 from if_neg h,show lowB A=false from decide_eq_false h]
  refine rlow_no A w hA ?_
  have:=bitLen_63 A
  omega
theorem exec_index_tab {P:Program}{o:Oper}{ρ:Operand->Value}(t:TypeId)(x ix:Operand)(ho:o.op= .index t x ix)(hu:P.underlying t=some .string)(S:ByteArray)(hx:ρ x= .string S)
  (hS:S.data.toList.map UInt8.toNat=(List.range 256).map bitLen)(k:IntKind)(i:Int)(hi:ρ ix= .int k i)(h0:0<=i)(h1:i<256)(w:World):
  (execOp ρ o).run P w= .ok (.value (.int .u8 (bitLen i.toNat))) w:=by
 have hsz:S.size=256:=by
  have:=congrArg List.length hS
  simpa using this
 have hlt:i.toNat<S.size:=by omega
 have hget:(S[i.toNat]'hlt).toNat=bitLen i.toNat:=by
  have h2:=congrArg (fun l:List Nat=>l[i.toNat]?) hS
  simp only[List.getElem?_map]at h2
  rw[List.getElem?_range (by omega)]at h2
  have h3:S.data.toList[i.toNat]?=some (S[i.toNat]'hlt):=by
   rw[Array.getElem?_toList]
   exact Array.getElem?_eq_getElem hlt
  rw[h3]at h2
  simpa using h2
 unfold execOp
 simp only[ho,hx,hi,Sem.run_bind]
 rw[run_index_string w t S k i hu,dif_pos ⟨h0,by omega⟩,hget]
 rfl
theorem ret_int {k:IntKind}{a b:Int}(h:a=b):Ending.returned (.int k a)= .returned (.int k b):=by rw[h]
theorem wrap64_small (q n:Nat)(hq:q<=8)(hn:n<=56):wrap64 ((n:Int)+wrap64 (q:Int))=((n+q:Nat):Int):=by unfold wrap64;omega
theorem wrap64_small0 (q:Nat)(hq:q<=8):wrap64 (wrap64 (q:Int))=(q:Int):=by unfold wrap64;omega
set_option maxRecDepth 1000000 in
theorem len64_0 (x:Nat)(w:World)(h0:0<=x)(h1:x<256):
  Calls Tryz.prog 144 #[.int .u64 x] w fun e w'=>e= .returned (.int .i64 (bitLen x))/\w'=w:=by
 have t0: ¬(4294967296:Int)<=(x:Int):=by omega
 have t1: ¬(65536:Int)<=(x:Int):=by omega
 have t2: ¬(256:Int)<=(x:Int):=by omega
 have HX:Hid (0<=(x:Int)/\(x:Int)<256):=⟨by omega,by omega⟩
 have HB8:Hid (bitLen (x/1)<=8):=bitLen_le8 _ (by omega)
 have HB:Hid (bitLen x=0+bitLen (x/1)):=by
  show _=_
  rw[Nat.div_one];omega
 clear h0 h1
 go_enter Tryz.func144,Tryz.ntmps144
 go_wp2_with (first
  |(refine wpList_value rfl _ (exec_index_tab 9 _ _ rfl Tryz.underlying9 _ rfl ?_ _ _ rfl ?_ ?_ _) ?_;(· kernel_rfl);(· exact HX.out.1);(· exact HX.out.2)))
 go_ret
 have hb:=HB8.out
 rw[Nat.div_one]at hb
 exact⟨ret_int (wrap64_small0 _ hb),rfl⟩
set_option maxRecDepth 1000000 in
theorem len64_1 (x:Nat)(w:World)(h0:256<=x)(h1:x<65536):
  Calls Tryz.prog 144 #[.int .u64 x] w fun e w'=>e= .returned (.int .i64 (bitLen x))/\w'=w:=by
 have t0: ¬(4294967296:Int)<=(x:Int):=by omega
 have t1: ¬(65536:Int)<=(x:Int):=by omega
 have t2:(256:Int)<=(x:Int):=by omega
 have HX:Hid (0<=(x:Int)/256/\(x:Int)/256<256):=⟨by omega,by omega⟩
 have HB8:Hid (bitLen (x/256)<=8):=bitLen_le8 _ (by omega)
 have HB:Hid (bitLen x=8+bitLen (x/256)):=by
  show _=_
  exact bitLen_shift x 8 (show x/256≠0 by omega)
 clear h0 h1
 go_enter Tryz.func144,Tryz.ntmps144
 go_wp2_with (first
  |(refine wpList_value rfl _ (exec_index_tab 9 _ _ rfl Tryz.underlying9 _ rfl ?_ _ _ rfl ?_ ?_ _) ?_;(· kernel_rfl);(· exact HX.out.1);(· exact HX.out.2)))
 go_ret
 refine⟨ret_int ?_,rfl⟩
 rw[HB.out]
 exact wrap64_small _ 8 HB8.out (by decide)
set_option maxRecDepth 1000000 in
theorem len64_2 (x:Nat)(w:World)(h0:65536<=x)(h1:x<16777216):
  Calls Tryz.prog 144 #[.int .u64 x] w fun e w'=>e= .returned (.int .i64 (bitLen x))/\w'=w:=by
 have t0: ¬(4294967296:Int)<=(x:Int):=by omega
 have t1:(65536:Int)<=(x:Int):=by omega
 have t2: ¬(256:Int)<=(x:Int)/65536:=by omega
 have HX:Hid (0<=(x:Int)/65536/\(x:Int)/65536<256):=⟨by omega,by omega⟩
 have HB8:Hid (bitLen (x/65536)<=8):=bitLen_le8 _ (by omega)
 have HB:Hid (bitLen x=16+bitLen (x/65536)):=by
  show _=_
  exact bitLen_shift x 16 (show x/65536≠0 by omega)
 clear h0 h1
 go_enter Tryz.func144,Tryz.ntmps144
 go_wp2_with (first
  |(refine wpList_value rfl _ (exec_index_tab 9 _ _ rfl Tryz.underlying9 _ rfl ?_ _ _ rfl ?_ ?_ _) ?_;(· kernel_rfl);(· exact HX.out.1);(· exact HX.out.2)))
 go_ret
 refine⟨ret_int ?_,rfl⟩
 rw[HB.out]
 exact wrap64_small _ 16 HB8.out (by decide)
set_option maxRecDepth 1000000 in
theorem len64_3 (x:Nat)(w:World)(h0:16777216<=x)(h1:x<4294967296):
  Calls Tryz.prog 144 #[.int .u64 x] w fun e w'=>e= .returned (.int .i64 (bitLen x))/\w'=w:=by
 have t0: ¬(4294967296:Int)<=(x:Int):=by omega
 have t1:(65536:Int)<=(x:Int):=by omega
 have t2:(256:Int)<=(x:Int)/65536:=by omega
 have HX:Hid (0<=(x:Int)/65536/256/\(x:Int)/65536/256<256):=⟨by omega,by omega⟩
 have HE:Hid (x/65536/256=x/16777216):=by show _=_;omega
 have HB8:Hid (bitLen (x/16777216)<=8):=bitLen_le8 _ (by omega)
 have HB:Hid (bitLen x=24+bitLen (x/16777216)):=by
  show _=_
  exact bitLen_shift x 24 (show x/16777216≠0 by omega)
 clear h0 h1
 go_enter Tryz.func144,Tryz.ntmps144
 go_wp2_with (first
  |(refine wpList_value rfl _ (exec_index_tab 9 _ _ rfl Tryz.underlying9 _ rfl ?_ _ _ rfl ?_ ?_ _) ?_;(· kernel_rfl);(· exact HX.out.1);(· exact HX.out.2)))
 go_ret
 refine⟨ret_int ?_,rfl⟩
 have hb:=HB8.out
 rw[HB.out]
 rw[<-HE.out]at hb ⊢
 exact wrap64_small _ 24 hb (by decide)
set_option maxRecDepth 1000000 in
theorem len64_4 (x:Nat)(w:World)(h0:4294967296<=x)(h1:x<1099511627776):
  Calls Tryz.prog 144 #[.int .u64 x] w fun e w'=>e= .returned (.int .i64 (bitLen x))/\w'=w:=by
 have t0:(4294967296:Int)<=(x:Int):=by omega
 have t1: ¬(65536:Int)<=(x:Int)/4294967296:=by omega
 have t2: ¬(256:Int)<=(x:Int)/4294967296:=by omega
 have HX:Hid (0<=(x:Int)/4294967296/\(x:Int)/4294967296<256):=⟨by omega,by omega⟩
 have HB8:Hid (bitLen (x/4294967296)<=8):=bitLen_le8 _ (by omega)
 have HB:Hid (bitLen x=32+bitLen (x/4294967296)):=by
  show _=_
  exact bitLen_shift x 32 (show x/4294967296≠0 by omega)
 clear h0 h1
 go_enter Tryz.func144,Tryz.ntmps144
 go_wp2_with (first
  |(refine wpList_value rfl _ (exec_index_tab 9 _ _ rfl Tryz.underlying9 _ rfl ?_ _ _ rfl ?_ ?_ _) ?_;(· kernel_rfl);(· exact HX.out.1);(· exact HX.out.2)))
 go_ret
 refine⟨ret_int ?_,rfl⟩
 rw[HB.out]
 exact wrap64_small _ 32 HB8.out (by decide)
set_option maxRecDepth 1000000 in
theorem len64_5 (x:Nat)(w:World)(h0:1099511627776<=x)(h1:x<281474976710656):
  Calls Tryz.prog 144 #[.int .u64 x] w fun e w'=>e= .returned (.int .i64 (bitLen x))/\w'=w:=by
 have t0:(4294967296:Int)<=(x:Int):=by omega
 have t1: ¬(65536:Int)<=(x:Int)/4294967296:=by omega
 have t2:(256:Int)<=(x:Int)/4294967296:=by omega
 have HX:Hid (0<=(x:Int)/4294967296/256/\(x:Int)/4294967296/256<256):=⟨by omega,by omega⟩
 have HE:Hid (x/4294967296/256=x/1099511627776):=by show _=_;omega
 have HB8:Hid (bitLen (x/1099511627776)<=8):=bitLen_le8 _ (by omega)
 have HB:Hid (bitLen x=40+bitLen (x/1099511627776)):=by
  show _=_
  exact bitLen_shift x 40 (show x/1099511627776≠0 by omega)
 clear h0 h1
 go_enter Tryz.func144,Tryz.ntmps144
 go_wp2_with (first
  |(refine wpList_value rfl _ (exec_index_tab 9 _ _ rfl Tryz.underlying9 _ rfl ?_ _ _ rfl ?_ ?_ _) ?_;(· kernel_rfl);(· exact HX.out.1);(· exact HX.out.2)))
 go_ret
 refine⟨ret_int ?_,rfl⟩
 have hb:=HB8.out
 rw[HB.out]
 rw[<-HE.out]at hb ⊢
 exact wrap64_small _ 40 hb (by decide)
set_option maxRecDepth 1000000 in
theorem len64_6 (x:Nat)(w:World)(h0:281474976710656<=x)(h1:x<72057594037927936):
  Calls Tryz.prog 144 #[.int .u64 x] w fun e w'=>e= .returned (.int .i64 (bitLen x))/\w'=w:=by
 have t0:(4294967296:Int)<=(x:Int):=by omega
 have t1:(65536:Int)<=(x:Int)/4294967296:=by omega
 have t2: ¬(256:Int)<=(x:Int)/4294967296/65536:=by omega
 have HX:Hid (0<=(x:Int)/4294967296/65536/\(x:Int)/4294967296/65536<256):=⟨by omega,by omega⟩
 have HE:Hid (x/4294967296/65536=x/281474976710656):=by show _=_;omega
 have HB8:Hid (bitLen (x/281474976710656)<=8):=bitLen_le8 _ (by omega)
 have HB:Hid (bitLen x=48+bitLen (x/281474976710656)):=by
  show _=_
  exact bitLen_shift x 48 (show x/281474976710656≠0 by omega)
 clear h0 h1
 go_enter Tryz.func144,Tryz.ntmps144
 go_wp2_with (first
  |(refine wpList_value rfl _ (exec_index_tab 9 _ _ rfl Tryz.underlying9 _ rfl ?_ _ _ rfl ?_ ?_ _) ?_;(· kernel_rfl);(· exact HX.out.1);(· exact HX.out.2)))
 go_ret
 refine⟨ret_int ?_,rfl⟩
 have hb:=HB8.out
 rw[HB.out]
 rw[<-HE.out]at hb ⊢
 exact wrap64_small _ 48 hb (by decide)
set_option maxRecDepth 1000000 in
theorem len64_7 (x:Nat)(w:World)(h0:72057594037927936<=x)(h1:x<18446744073709551616):
  Calls Tryz.prog 144 #[.int .u64 x] w fun e w'=>e= .returned (.int .i64 (bitLen x))/\w'=w:=by
 have t0:(4294967296:Int)<=(x:Int):=by omega
 have t1:(65536:Int)<=(x:Int)/4294967296:=by omega
 have t2:(256:Int)<=(x:Int)/4294967296/65536:=by omega
 have HX:Hid (0<=(x:Int)/4294967296/65536/256%256/\(x:Int)/4294967296/65536/256%256<256):=⟨by omega,by omega⟩
 have HE:Hid (x/4294967296/65536/256%256=x/72057594037927936):=by show _=_;omega
 have HB8:Hid (bitLen (x/72057594037927936)<=8):=bitLen_le8 _ (by omega)
 have HB:Hid (bitLen x=56+bitLen (x/72057594037927936)):=by
  show _=_
  exact bitLen_shift x 56 (show x/72057594037927936≠0 by omega)
 clear h0 h1
 go_enter Tryz.func144,Tryz.ntmps144
 go_wp2_with (first
  |(refine wpList_value rfl _ (exec_index_tab 9 _ _ rfl Tryz.underlying9 _ rfl ?_ _ _ rfl ?_ ?_ _) ?_;(· kernel_rfl);(· exact HX.out.1);(· exact HX.out.2)))
 go_ret
 refine⟨ret_int ?_,rfl⟩
 have hb:=HB8.out
 rw[HB.out]
 rw[<-HE.out]at hb ⊢
 exact wrap64_small _ 56 hb (by decide)
theorem len64_any (x:Nat)(w:World)(h:x<18446744073709551616):
  Calls Tryz.prog 144 #[.int .u64 x] w fun e w'=>e= .returned (.int .i64 (bitLen x))/\w'=w:=by
 by_cases h0:x<256
 ·exact len64_0 x w (by omega) h0
 by_cases h1:x<65536
 ·exact len64_1 x w (by omega) h1
 by_cases h2:x<16777216
 ·exact len64_2 x w (by omega) h2
 by_cases h3:x<4294967296
 ·exact len64_3 x w (by omega) h3
 by_cases h4:x<1099511627776
 ·exact len64_4 x w (by omega) h4
 by_cases h5:x<281474976710656
 ·exact len64_5 x w (by omega) h5
 by_cases h6:x<72057594037927936
 ·exact len64_6 x w (by omega) h6
 exact len64_7 x w (by omega) h
theorem bitLen_64 (x:Nat)(h:x<18446744073709551616):bitLen x<=64:=by
 unfold bitLen
 split
 ·omega
 ·rename_i h0
  have:=(Nat.log2_lt h0).2 (show x<2^64 from h)
  omega
theorem lm_top (A k:Nat)(h:A<2^(64*(k+1))):lm A k=A/2^(64*k):=by
 unfold lm
 refine Nat.mod_eq_of_lt (Nat.div_lt_of_lt_mul ?_)
 rw[<-Nat.pow_add]
 exact h
theorem bitLen_lm (A k:Nat)(h:A<2^(64*(k+1)))(h0:lm A k≠0):bitLen A=64*k+bitLen (lm A k):=by
 rw[lm_top A k h]at h0 ⊢
 exact bitLen_shift A (64*k) h0
theorem lm_down (A k:Nat)(h:A<2^(64*(k+1)))(h0:lm A k=0):A<2^(64*k):=by
 rw[lm_top A k h]at h0
 exact(Nat.div_eq_zero_iff_lt (Nat.two_pow_pos _)).1 h0
theorem nlen_any (A:Nat)(w:World)(hA:A<2^256):
  Calls Tryz.prog 87 #[.agg (natC A)] w fun e w'=>e= .returned (.int .i64 (bitLen A))/\Below w.heap.size w w':=by
 have HA:Hid (A<2^256):=hA
 clear hA
 go_enter Tryz.func87,Tryz.ntmps87
 go_wp2_with (first
  |refine wpList_box_row rfl 62 _ rfl _ rfl ?_)
 go_loopg [5] 4 (fun g s5 wr=> ∃k:Nat,k+g=4/\s5= .int .i64 k/\A<2^(64*g)/\Row wr w.heap.size (natC A) 62/\Below w.heap.size w wr)
 case atStart=>exact⟨0,by omega,rfl,HA.out,Row.new _ _ _,below_alloc _⟩
 case round=>
  obtain⟨k,hk,rfl,hlt,r0,hb⟩:=hrel
  cases gk with
  |zero=>
   obtain rfl:k=4:=by omega
   obtain rfl:A=0:=by simpa using hlt
   clear hlt hk HA
   have hx: ¬((4:Int)<4):=by omega
   go_wp2
   go_ret
   exact⟨rfl,hb⟩
  |succ g=>
   have hk4:(k:Int)<4:=by omega
   have hc0:=cell_nat r0 g (by omega)
   have hsub:(3:Int)-k=g:=by omega
   have hl:=lm_lt A g
   by_cases h0:lm A g=0
   ·have R:Aside (A<2^(64*g)/\Row wr w.heap.size (natC A) 62/\Below w.heap.size w wr):=⟨lm_down A g hlt h0,r0,hb⟩
    rw[h0]at hc0
    clear r0 hb hlt HA h0 hl
    go_wp2
    obtain⟨h1,r0,hb⟩:=R.out
    go_roundg g
    case measure=>omega
    case rel=>exact⟨k+1,by omega,by go_num,h1,r0,hb⟩
   ·have R:Aside (bitLen A=64*g+bitLen (lm A g)/\bitLen (lm A g)<=64/\Below w.heap.size w wr):=⟨bitLen_lm A g hlt h0,?_,hb⟩
    ·have hne:((lm A g:Nat):Int)≠0:=by omega
     have HL:Hid (lm A g<18446744073709551616):=hl
     clear r0 hb hlt HA h0 hl
     go_wp2_with (first
      |(go_at_call 144;refine(len64_any _ _ HL.out).mono ?_;rintro e w2 ⟨rfl,rfl⟩))
     go_ret
     obtain⟨h1,h2,hb⟩:=R.out
     refine⟨ret_int ?_,hb⟩
     rw[h1]
     unfold wrap64
     omega
    ·exact bitLen_64 _ hl
end Go.Proofs.YtijgjbbihgjkmaaGreatDoor
