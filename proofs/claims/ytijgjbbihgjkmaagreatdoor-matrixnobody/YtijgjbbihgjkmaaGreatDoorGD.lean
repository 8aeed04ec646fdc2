import Derived.Test.YtijgjbbihgjkmaaGreatDoorGB
set_option maxRecDepth 100000
set_option maxHeartbeats 2000000
namespace Go.Proofs.YtijgjbbihgjkmaaGreatDoor
set_option linter.unusedVariables false
open Go.RowKit
theorem up_bit (A n k:Nat):(A*2^n).testBit k=(decide (n<=k)&&A.testBit (k-n)):=by
 rw[Nat.mul_comm,Nat.testBit_two_pow_mul]
theorem down_bit (A n k:Nat):(A/2^n).testBit k=A.testBit (k+n):=by
 rw[Nat.testBit_div_two_pow,Nat.add_comm]
def upV (A f j:Nat):Nat:=lm A j*2^f%18446744073709551616
def upW (A f j:Nat):Nat:=upV A f j|||lm A (j-1)/2^(64-f)
def downV (A f i:Nat):Nat:=lm A i/2^f
def downW (A f i:Nat):Nat:=downV A f i|||lm A (i+1)*2^(64-f)%18446744073709551616
theorem upV_lt (A f j:Nat):upV A f j<18446744073709551616:=Nat.mod_lt _ (by decide)
theorem downV_lt (A f j:Nat):downV A f j<18446744073709551616:=Nat.lt_of_le_of_lt (Nat.div_le_self _ _) (lm_lt A j)
theorem wrap_mul (x f:Nat):IntKind.u64.wrap ((x:Int)*2^f)=((x*2^f%18446744073709551616:Nat):Int):=by
 rw[IntKind.wrap_u64,show((x:Int)*2^f)=((x*2^f:Nat):Int) by simp]
 omega
theorem up_val (A f j:Nat):IntKind.u64.wrap ((lm A j:Int)*2^f)=(upV A f j:Nat):=wrap_mul _ _
theorem up_or (A f j:Nat):bits .or .u64 (IntKind.u64.wrap ((lm A j:Int)*2^f)) ((lm A (j-1):Int)/2^(64-f))=(upW A f j:Nat):=by
 rw[up_val,show((lm A (j-1):Int)/2^(64-f))=((lm A (j-1)/2^(64-f):Nat):Int) by simp]
 exact u64_or_nat _ _ (upV_lt A f j) (Nat.lt_of_le_of_lt (Nat.div_le_self _ _) (lm_lt A _))
theorem down_val (A f j:Nat):((lm A j:Int)/2^f)=(downV A f j:Nat):=by simp[downV]
theorem down_or (A f j:Nat):bits .or .u64 ((lm A j:Int)/2^f) (IntKind.u64.wrap ((lm A (j+1):Int)*2^(64-f)))=(downW A f j:Nat):=by
 rw[down_val,wrap_mul]
 exact u64_or_nat _ _ (downV_lt A f j) (Nat.mod_lt _ (by decide))
theorem upV_bit (A f j i:Nat):(upV A f j).testBit i=(decide (i<64)&&(decide (f<=i)&&A.testBit (64*j+(i-f)))):=by
 unfold upV
 rw[show 18446744073709551616=2^64 from rfl,Nat.testBit_mod_two_pow,up_bit,lm_testBit]
 by_cases hi:i<64
 ·simp[hi,show i-f<64 by omega]
 ·simp[hi]
theorem up_limb0 (A L f:Nat):lm (A*2^(64*L+f)) (L+0)=upV A f 0:=by
 apply Nat.eq_of_testBit_eq
 intro i
 rw[lm_testBit,up_bit,upV_bit]
 by_cases hf:f<=i
 ·rw[decide_eq_true hf,decide_eq_true (show 64*L+f<=64*(L+0)+i by omega),show 64*(L+0)+i-(64*L+f)=64*0+(i-f) by omega]
 ·rw[decide_eq_false hf,decide_eq_false (show ¬64*L+f<=64*(L+0)+i by omega),Bool.false_and,Bool.false_and]
theorem up_limb (A L f j:Nat)(hj:0<j)(hf:f<64):lm (A*2^(64*L+f)) (L+j)=upW A f j:=by
 apply Nat.eq_of_testBit_eq
 intro i
 unfold upW
 rw[lm_testBit,up_bit,Nat.testBit_or,upV_bit,down_bit,lm_testBit]
 by_cases hi:i<64
 ·have e1:64*(L+j)+i-(64*L+f)=64*j+i-f:=by omega
  rw[e1,decide_eq_true (show 64*L+f<=64*(L+j)+i by omega),decide_eq_true hi]
  by_cases hfi:f<=i
  ·rw[decide_eq_true hfi,decide_eq_false (show ¬i+(64-f)<64 by omega),show 64*j+i-f=64*j+(i-f) by omega]
   simp
  ·rw[decide_eq_false hfi,decide_eq_true (show i+(64-f)<64 by omega),show 64*(j-1)+(i+(64-f))=64*j+i-f by omega]
   simp
 ·rw[decide_eq_false hi,decide_eq_false (show ¬i+(64-f)<64 by omega)]
  simp
theorem downV_bit (A f j i:Nat):(downV A f j).testBit i=(decide (i+f<64)&&A.testBit (64*j+(i+f))):=by
 unfold downV
 rw[down_bit,lm_testBit]
theorem down_limb (A L f j:Nat)(hf:f<64):lm (A/2^(64*L+f)) j=downW A f (j+L):=by
 apply Nat.eq_of_testBit_eq
 intro i
 unfold downW
 rw[lm_testBit,down_bit,Nat.testBit_or,downV_bit,show 18446744073709551616=2^64 from rfl,Nat.testBit_mod_two_pow,up_bit,lm_testBit]
 have e1:64*j+i+(64*L+f)=64*(j+L)+(i+f):=by omega
 rw[e1]
 by_cases hi:i<64
 ·by_cases h2:i+f<64
  ·simp[hi,h2,show ¬64-f<=i by omega]
  ·simp[hi,h2,show 64-f<=i by omega,show i-(64-f)<64 by omega,show 64*(j+L+1)+(i-(64-f))=64*(j+L)+(i+f) by omega]
 ·simp[hi,show ¬i+f<64 by omega]
theorem downW_top (A f i:Nat)(h:lm A (i+1)=0):downW A f i=downV A f i:=by
 unfold downW
 rw[h,Nat.zero_mul,Nat.zero_mod,Nat.or_zero]
theorem lm_four (A:Nat)(h:A<2^256):lm A 4=0:=by
 unfold lm
 rw[Nat.div_eq_of_lt h]
theorem nup_in (A L f:Nat)(w:World)(hf:f<64)(hL:L<4)(h1:1<=64*L+f):
  Calls Tryz.prog 212 #[.agg (natC A),.int .i64 (64*L+f:Nat)] w fun e w'=>e= .returned (.agg (natC (A*2^(64*L+f))))/\Below w.heap.size w w':=by
 have hk1: ¬(((64*L+f:Nat):Int)<1):=by omega
 have hk2: ¬((256:Int)<=((64*L+f:Nat):Int)):=by omega
 have hq:((64*L+f:Nat):Int)/64=(L:Int):=by omega
 have hr:((64*L+f:Nat):Int)%64=(f:Int):=by omega
 have HK:Hid (∃k:Nat,k=64*L+f):=⟨_,rfl⟩
 obtain⟨k,hk⟩:=HK.out
 rw[<-hk]at hk1 hk2 hq hr ⊢
 have HK:Hid (k=64*L+f/\1<=64*L+f):=⟨hk,h1⟩
 clear hk h1
 go_enter Tryz.func212,Tryz.ntmps212
 go_wp2_with (first
  |refine wpList_box_row rfl 62 _ rfl _ rfl ?_
  |refine wpList_alloc_row rfl 62 rfl _ zero_nat ?_)
 go_loopg [21] (4-L) (fun g s21 wr=> ∃j:Nat,j+g=4-L/\s21= .int .i64 j/\Row wr w.heap.size (natC A) 62/\Row wr (w.heap.size+1) (natC 0) 62/\Row wr (w.heap.size+1+1) (natC (A*2^k%2^(64*(L+j)))) 62/\Below w.heap.size w wr)
 case atStart=>
  refine⟨0,by omega,rfl,Row.two rfl,Row.one (by simp),?_,below_alloc3 _ _ _⟩
  rw[show A*2^k%2^(64*(L+0))=0 by rw[HK.out.1,Nat.pow_add,<-Nat.mul_assoc,Nat.mul_right_comm];exact Nat.mul_mod_left _ _]
  exact Row.here (by simp)
 case round=>
  obtain⟨j,hj,rfl,r0,r1,r2,hb⟩:=hrel
  cases gk with
  |zero=>
   obtain rfl:j=4-L:=by omega
   rw[show 64*(L+(4-L))=256 by omega,natC_full]at r2
   clear hj
   have hx: ¬(((4-L:Nat):Int)<4-L):=by omega
   have hx':((4-L:Nat):Int)=4-L:=by omega
   rw[hx']
   have hx'': ¬((4:Int)-L<4-L):=by omega
   clear hx hx'
   go_wp2_with (first
    |refine wpList_loadR rfl 62 _ rfl _ rfl r2 4 _ Tryz.underlying62 (by exact size_nat) ?_
    |refine wpList_storeR rfl 62 _ _ rfl _ _ rfl rfl r1 (by exact size_nat) (by simp only[natC_size]) (natC_one _) ?_)
   exact ret_row rfl _ rfl (r1.setRow _) 4 _ Tryz.underlying62 (by exact size_nat) rfl ⟨by rw[HK.out.1],below_setRow hb (by omega) _⟩
  |succ g=>
   have hlt:(j:Int)<4-L:=by omega
   have hj4:(j:Int)<4:=by omega
   have hjL:(j:Int)+L<4:=by omega
   have hc0:=cell_nat r0 j (by omega)
   have hc1:=cell_nat r0 (j-1) (by omega)
   have hc2:=cell_nat r2 (j+L) (by omega)
   have hf2:=r2.frozen (j+L)
   have R:Aside (Row wr w.heap.size (natC A) 62/\Row wr (w.heap.size+1) (natC 0) 62/\Row wr (w.heap.size+1+1) (natC (A*2^k%2^(64*(L+j)))) 62/\Below w.heap.size w wr):=⟨r0,r1,r2,hb⟩
   clear r0 r1 r2 hb
   by_cases hj0:0<j
   ·have hj0':(0:Int)<j:=by omega
    have hjm:((j:Int)-1).toNat=j-1:=by omega
    go_wp2
    go_region
    go_wp2
    obtain⟨r0,r1,r2,hb⟩:=R.out
    go_roundg g
    case measure=>omega
    case rel=>
     refine⟨j+1,by omega,by go_num,((r0.setCell_far _ _ _ (by omega)).setCell_far _ _ _ (by omega)).drew,((r1.setCell_far _ _ _ (by omega)).setCell_far _ _ _ (by omega)).drew,?_,(below_setCell (below_setCell hb (by omega) _ _) (by omega) _ _).drew⟩
     have:=((r2.setCell (j+L) (.int .u64 (upV A f j:Nat))).setCell (j+L) (.int .u64 (upW A f j:Nat))).drew
     rw[Array.setIfInBounds_setIfInBounds,Nat.add_comm j L,natC_limb (A*2^k) (L+j) _ (by omega) (by rw[HK.out.1,up_limb A L f j hj0 hf])]at this
     rw[up_or,up_val,Nat.add_comm j L]
     exact this
   ·obtain rfl:j=0:=by omega
    have hj0': ¬((0:Int)<((0:Nat):Int)):=by omega
    rw[Nat.zero_add]at hc2 hf2
    go_wp2
    obtain⟨r0,r1,r2,hb⟩:=R.out
    go_roundg g
    case measure=>omega
    case rel=>
     refine⟨1,by omega,by go_num,r0.setCell_far _ _ _ (by omega),r1.setCell_far _ _ _ (by omega),?_,below_setCell hb (by omega) _ _⟩
     have:=r2.setCell (L+0) (.int .u64 (upV A f 0:Nat))
     rw[natC_limb (A*2^k) (L+0) _ (by omega) (by rw[HK.out.1,up_limb0 A L f])]at this
     rw[up_val]
     exact this
theorem nup_low (A:Nat)(k:Int)(w:World)(h:k<1):
  Calls Tryz.prog 212 #[.agg (natC A),.int .i64 k] w fun e w'=>e= .returned (.agg (natC A))/\Below w.heap.size w w':=by
 have rA:Row ((w.alloc (.cells (natC A) 62)).alloc (.cells (natC 0) 62)) w.heap.size (natC A) 62:=Row.one rfl
 have rR:Row ((w.alloc (.cells (natC A) 62)).alloc (.cells (natC 0) 62)) (w.heap.size+1) (natC 0) 62:=Row.here (by simp)
 go_enter Tryz.func212,Tryz.ntmps212
 go_wp2_with (first
  |refine wpList_box_row rfl 62 _ rfl _ rfl ?_
  |refine wpList_alloc_row rfl 62 rfl _ zero_nat ?_
  |refine wpList_loadR rfl 62 _ rfl _ rfl rA 4 _ Tryz.underlying62 (by exact size_nat) ?_
  |refine wpList_storeR rfl 62 _ _ rfl _ _ rfl rfl rR (by exact size_nat) (by simp only[natC_size]) (natC_one _) ?_)
 exact ret_row rfl _ rfl (rR.setRow _) 4 _ Tryz.underlying62 (by exact size_nat) rfl ⟨rfl,below_setRow (below_alloc2 _ _) (by omega) _⟩
theorem nup_high (A:Nat)(k:Int)(w:World)(h:256<=k):
  Calls Tryz.prog 212 #[.agg (natC A),.int .i64 k] w fun e w'=>e= .returned (.agg (natC 0))/\Below w.heap.size w w':=by
 have rR:Row ((w.alloc (.cells (natC A) 62)).alloc (.cells (natC 0) 62)) (w.heap.size+1) (natC 0) 62:=Row.here (by simp)
 have h1: ¬k<1:=by omega
 go_enter Tryz.func212,Tryz.ntmps212
 go_wp2_with (first
  |refine wpList_box_row rfl 62 _ rfl _ rfl ?_
  |refine wpList_alloc_row rfl 62 rfl _ zero_nat ?_
  |refine wpList_build_zero rfl 62 rfl _ built_nat ?_
  |refine wpList_storeR rfl 62 _ _ rfl _ _ rfl rfl rR (by exact size_nat) (by simp only[natC_size]) (natC_one _) ?_)
 exact ret_row rfl _ rfl (rR.setRow _) 4 _ Tryz.underlying62 (by exact size_nat) rfl ⟨rfl,below_setRow (below_alloc2 _ _) (by omega) _⟩
theorem nup_any (A:Nat)(k:Int)(w:World):
  Calls Tryz.prog 212 #[.agg (natC A),.int .i64 k] w fun e w'=>e= .returned (.agg (natC (A*2^k.toNat)))/\Below w.heap.size w w':=by
 by_cases h0:k<1
 ·rw[show k.toNat=0 by omega,Nat.pow_zero,Nat.mul_one]
  exact nup_low A k w h0
 ·by_cases h1:256<=k
  ·have e:natC (A*2^k.toNat)=natC 0:=by
    refine(natC_eq _ _).2 ?_
    rw[show k.toNat=(k.toNat-256)+256 by omega,Nat.pow_add,<-Nat.mul_assoc,Nat.mul_mod_left,Nat.zero_mod]
   rw[e]
   exact nup_high A k w h1
  ·obtain⟨K,rfl⟩:=Int.eq_ofNat_of_zero_le (show 0<=k by omega)
   rw[Int.toNat_natCast]
   have:=nup_in A (K/64) (K%64) w (Nat.mod_lt _ (by decide)) (by omega) (by omega)
   rw[show 64*(K/64)+K%64=K by omega]at this
   exact this
theorem ndown_in (A L f:Nat)(w:World)(hf:f<64)(hL:L<4)(h1:1<=64*L+f)(hA:A<2^256):
  Calls Tryz.prog 213 #[.agg (natC A),.int .i64 (64*L+f:Nat)] w fun e w'=>e= .returned (.agg (natC (A/2^(64*L+f))))/\Below w.heap.size w w':=by
 have hk1: ¬(((64*L+f:Nat):Int)<1):=by omega
 have hk2: ¬((256:Int)<=((64*L+f:Nat):Int)):=by omega
 have hq:((64*L+f:Nat):Int)/64=(L:Int):=by omega
 have hr:((64*L+f:Nat):Int)%64=(f:Int):=by omega
 have HK:Hid (∃k:Nat,k=64*L+f):=⟨_,rfl⟩
 obtain⟨k,hk⟩:=HK.out
 rw[<-hk]at hk1 hk2 hq hr ⊢
 have HK:Hid (k=64*L+f/\1<=64*L+f):=⟨hk,h1⟩
 clear hk h1
 have HA:Hid (A<2^256):=hA
 clear hA
 go_enter Tryz.func213,Tryz.ntmps213
 go_wp2_with (first
  |refine wpList_box_row rfl 62 _ rfl _ rfl ?_
  |refine wpList_alloc_row rfl 62 rfl _ zero_nat ?_)
 go_loopg [22] (4-L) (fun g s21 wr=> ∃j:Nat,j+g=4-L/\s21= .int .i64 j/\Row wr w.heap.size (natC A) 62/\Row wr (w.heap.size+1) (natC 0) 62/\Row wr (w.heap.size+1+1) (natC (A/2^k%2^(64*j))) 62/\Below w.heap.size w wr)
 case atStart=>
  refine⟨0,by omega,rfl,Row.two rfl,Row.one (by simp),?_,below_alloc3 _ _ _⟩
  rw[show A/2^k%2^(64*0)=0 by simp[Nat.mod_one]]
  exact Row.here (by simp)
 case round=>
  obtain⟨j,hj,rfl,r0,r1,r2,hb⟩:=hrel
  cases gk with
  |zero=>
   obtain rfl:j=4-L:=by omega
   have hdl:A/2^k<2^(64*(4-L)):=by
    refine Nat.div_lt_of_lt_mul (Nat.lt_of_lt_of_le HA.out ?_)
    rw[<-Nat.pow_add]
    exact Nat.pow_le_pow_right (by decide) (by have:=HK.out.1;omega)
   rw[Nat.mod_eq_of_lt hdl]at r2
   clear hdl;clear hj
   have hx: ¬(((4-L:Nat):Int)<4-L):=by omega
   have hx':((4-L:Nat):Int)=4-L:=by omega
   rw[hx']
   have hx'': ¬((4:Int)-L<4-L):=by omega
   clear hx hx'
   go_wp2_with (first
    |refine wpList_loadR rfl 62 _ rfl _ rfl r2 4 _ Tryz.underlying62 (by exact size_nat) ?_
    |refine wpList_storeR rfl 62 _ _ rfl _ _ rfl rfl r1 (by exact size_nat) (by simp only[natC_size]) (natC_one _) ?_)
   exact ret_row rfl _ rfl (r1.setRow _) 4 _ Tryz.underlying62 (by exact size_nat) rfl ⟨by rw[HK.out.1],below_setRow hb (by omega) _⟩
  |succ g=>
   have hlt:(j:Int)<4-L:=by omega
   have hj4:(j:Int)<4:=by omega
   have hjL:(j:Int)+L<4:=by omega
   have hc0:=cell_nat r0 (j+L) (by omega)
   have hc2:=cell_nat r2 j (by omega)
   have hf2:=r2.frozen j
   have R:Aside (Row wr w.heap.size (natC A) 62/\Row wr (w.heap.size+1) (natC 0) 62/\Row wr (w.heap.size+1+1) (natC (A/2^k%2^(64*j))) 62/\Below w.heap.size w wr):=⟨r0,r1,r2,hb⟩
   by_cases hj0:(j:Int)+L+1<4
   ·have hc1:=cell_nat r0 (j+L+1) (by omega)
    clear r0 r1 r2 hb
    go_wp2
    go_region
    go_wp2
    obtain⟨r0,r1,r2,hb⟩:=R.out
    go_roundg g
    case measure=>omega
    case rel=>
     refine⟨j+1,by omega,by go_num,((r0.setCell_far _ _ _ (by omega)).setCell_far _ _ _ (by omega)).drew,((r1.setCell_far _ _ _ (by omega)).setCell_far _ _ _ (by omega)).drew,?_,(below_setCell (below_setCell hb (by omega) _ _) (by omega) _ _).drew⟩
     have:=((r2.setCell j (.int .u64 (downV A f (j+L):Nat))).setCell j (.int .u64 (downW A f (j+L):Nat))).drew
     rw[Array.setIfInBounds_setIfInBounds,natC_limb (A/2^k) j _ (by omega) (by rw[HK.out.1,down_limb A L f j hf])]at this
     rw[down_or,down_val]
     exact this
   ·clear r0 r1 r2 hb
    have HT:Hid (downW A f (j+L)=downV A f (j+L)):=downW_top A f _ (by rw[show j+L+1=4 by omega];exact lm_four A HA.out)
    go_wp2
    obtain⟨r0,r1,r2,hb⟩:=R.out
    go_roundg g
    case measure=>omega
    case rel=>
     refine⟨j+1,by omega,by go_num,r0.setCell_far _ _ _ (by omega),r1.setCell_far _ _ _ (by omega),?_,below_setCell hb (by omega) _ _⟩
     have:=r2.setCell j (.int .u64 (downV A f (j+L):Nat))
     rw[natC_limb (A/2^k) j _ (by omega) (by rw[HK.out.1,down_limb A L f j hf,HT.out])]at this
     rw[down_val]
     exact this
theorem ndown_low (A:Nat)(k:Int)(w:World)(h:k<1):
  Calls Tryz.prog 213 #[.agg (natC A),.int .i64 k] w fun e w'=>e= .returned (.agg (natC A))/\Below w.heap.size w w':=by
 have rA:Row ((w.alloc (.cells (natC A) 62)).alloc (.cells (natC 0) 62)) w.heap.size (natC A) 62:=Row.one rfl
 have rR:Row ((w.alloc (.cells (natC A) 62)).alloc (.cells (natC 0) 62)) (w.heap.size+1) (natC 0) 62:=Row.here (by simp)
 go_enter Tryz.func213,Tryz.ntmps213
 go_wp2_with (first
  |refine wpList_box_row rfl 62 _ rfl _ rfl ?_
  |refine wpList_alloc_row rfl 62 rfl _ zero_nat ?_
  |refine wpList_loadR rfl 62 _ rfl _ rfl rA 4 _ Tryz.underlying62 (by exact size_nat) ?_
  |refine wpList_storeR rfl 62 _ _ rfl _ _ rfl rfl rR (by exact size_nat) (by simp only[natC_size]) (natC_one _) ?_)
 exact ret_row rfl _ rfl (rR.setRow _) 4 _ Tryz.underlying62 (by exact size_nat) rfl ⟨rfl,below_setRow (below_alloc2 _ _) (by omega) _⟩
theorem ndown_high (A:Nat)(k:Int)(w:World)(h:256<=k):
  Calls Tryz.prog 213 #[.agg (natC A),.int .i64 k] w fun e w'=>e= .returned (.agg (natC 0))/\Below w.heap.size w w':=by
 have rR:Row ((w.alloc (.cells (natC A) 62)).alloc (.cells (natC 0) 62)) (w.heap.size+1) (natC 0) 62:=Row.here (by simp)
 have h1: ¬k<1:=by omega
 go_enter Tryz.func213,Tryz.ntmps213
 go_wp2_with (first
  |refine wpList_box_row rfl 62 _ rfl _ rfl ?_
  |refine wpList_alloc_row rfl 62 rfl _ zero_nat ?_
  |refine wpList_build_zero rfl 62 rfl _ built_nat ?_
  |refine wpList_storeR rfl 62 _ _ rfl _ _ rfl rfl rR (by exact size_nat) (by simp only[natC_size]) (natC_one _) ?_)
 exact ret_row rfl _ rfl (rR.setRow _) 4 _ Tryz.underlying62 (by exact size_nat) rfl ⟨rfl,below_setRow (below_alloc2 _ _) (by omega) _⟩
theorem ndown_any (A:Nat)(k:Int)(w:World)(hA:A<2^256):
  Calls Tryz.prog 213 #[.agg (natC A),.int .i64 k] w fun e w'=>e= .returned (.agg (natC (A/2^k.toNat)))/\Below w.heap.size w w':=by
 by_cases h0:k<1
 ·rw[show k.toNat=0 by omega,Nat.pow_zero,Nat.div_one]
  exact ndown_low A k w h0
 ·by_cases h1:256<=k
  ·rw[Nat.div_eq_of_lt (Nat.lt_of_lt_of_le hA (Nat.pow_le_pow_right (by decide) (by omega)))]
   exact ndown_high A k w h1
  ·obtain⟨K,rfl⟩:=Int.eq_ofNat_of_zero_le (show 0<=k by omega)
   rw[Int.toNat_natCast]
   have:=ndown_in A (K/64) (K%64) w (Nat.mod_lt _ (by decide)) (by omega) (by omega) hA
   rw[show 64*(K/64)+K%64=K by omega]at this
   exact this
end Go.Proofs.YtijgjbbihgjkmaaGreatDoor
