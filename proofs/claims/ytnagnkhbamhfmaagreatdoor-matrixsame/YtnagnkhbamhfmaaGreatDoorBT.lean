import Derived.Test.YtnagnkhbamhfmaaGreatDoorGD
set_option maxRecDepth 100000
set_option maxHeartbeats 8000000
namespace Go.Proofs.YtnagnkhbamhfmaaGreatDoor
set_option linter.all false
open Go.Proofs.Tryz
def byt (A k:Nat):Nat:=A/2^(8*k)%256
theorem T9 (A k:Nat):byt A k<256:=Nat.mod_lt _ (by decide)
theorem Ts (A k j:Nat):(byt A k).testBit j=(decide (j<8)&&A.testBit (8*k+j)):=by
 unfold byt;rw[show 256=2^8 from rfl,Nat.testBit_mod_two_pow,Nat.testBit_div_two_pow,Nat.add_comm]
theorem BO (A k:Nat):lm A (k/8)/2^(k%8*8)%256=byt A k:=by
 apply Nat.eq_of_testBit_eq;intro j;rw[Ts,show 256=2^8 from rfl,Nat.testBit_mod_two_pow,Nat.testBit_div_two_pow,ZP];by_cases hj:j<8
 ·rw[decide_eq_true hj,decide_eq_true (show j+k%8*8<64 by omega),show 64*(k/8)+(j+k%8*8)=8*k+j by omega];simp
 ·simp[hj]
theorem K2 (A k i:Nat):byt (A%2^(8*k)) i=if i<k then byt A i else 0:=by
 apply Nat.eq_of_testBit_eq;intro j;rw[Ts,Nat.testBit_mod_two_pow]
 split
 ·rw[Ts];by_cases hj:j<8
  ·simp[hj,show 8*i+j<8*k by omega]
  ·simp[hj]
 ·rw[Nat.zero_testBit];by_cases hj:j<8
  ·simp[show ¬8*i+j<8*k by omega]
  ·simp[hj]
def Un (A:Nat):Array Value:=Array.ofFn (n:=32) fun i=>.int .u8 (byt A (31-i))
theorem Ua (A:Nat):(Un A).size=32:=by simp[Un]
theorem Tt (A i:Nat)(h:i<32):(Un A)[i]?=some (.int .u8 (byt A (31-i))):=by simp[Un,h]
theorem NT (A k v:Nat)(hk:k<32)(hv:v=byt A k):(Un (A%2^(8*k))).setIfInBounds (31-k) (.int .u8 v)=Un (A%2^(8*(k+1))):=by
 subst hv;apply Array.ext_getElem?;intro i;by_cases hi:i<32
 ·rw[Array.getElem?_setIfInBounds,Tt (A%2^(8*(k+1))) i hi,K2];by_cases e:31-k=i
  ·rw[if_pos e,if_pos (by rw[Ua];omega),if_pos (by omega),show 31-i=k by omega]
  ·rw[if_neg e,Tt _ i hi,K2];by_cases h:31-i<k
   ·rw[if_pos h,if_pos (by omega)]
   ·rw[if_neg h,if_neg (by omega)]
 ·rw[Array.getElem?_eq_none (by simp[Ua];omega),Array.getElem?_eq_none (by rw[Ua];omega)]
def YR (A n:Nat):List UInt8:=(List.range n).map fun i=>UInt8.ofNat (byt A (n-1-i))
theorem Z7 (A n:Nat):(YR A n).length=n:=by simp[YR]
theorem WT (A n j:Nat)(h:j<(YR A n).length):(YR A n)[j]=UInt8.ofNat (byt A (n-1-j)):=by simp[YR]
def need (A:Nat):Nat:=(bitLen A+7)/8
theorem Tu (A n:Nat)(h:A<2^n):bitLen A<=n:=by
 unfold bitLen
 split
 ·omega
 ·rename_i h0
  have:=(Nat.log2_lt h0).2 h;omega
theorem Ub (A:Nat)(h:A<2^256):need A<=32:=by
 have:=Tu A 256 h;unfold need;omega
def Xv (A:Nat):ByteArray:=⟨(YR A (need A)).toArray⟩
theorem OQ {P:List UInt8->Prop}(h0:P [])(h1: ∀l b,P l->P (l++[b]))(l:List UInt8):P l:=by
 have h: ∀m:List UInt8,P m.reverse:=by
  intro m
  induction m with
  |nil=>exact h0
  |cons b m ih=>rw[List.reverse_cons];exact h1 _ _ ih
 have:=h l.reverse
 rwa [List.reverse_reverse]at this
def UA (l:List UInt8):Nat:=l.foldl (fun n b=>n*256+b.toNat) 0
theorem Qr (l:List UInt8)(b:UInt8):UA (l++[b])=UA l*256+b.toNat:=by simp[UA,List.foldl_append]
theorem Tv (l:List UInt8):UA l<2^(8*l.length):=by
 refine OQ (P:=fun l=>UA l<2^(8*l.length)) ?_ ?_ l
 ·simp[UA]
 ·intro l b ih;rw[Qr,List.length_append,List.length_singleton,show 8*(l.length+1)=8*l.length+8 by omega,Nat.pow_add];have:=UInt8.toNat_lt b;omega
theorem Hx (x b:Nat)(h:b<256):byt (x*256+b) 0=b:=by
 unfold byt;rw[show 8*0=0 from rfl,Nat.pow_zero,Nat.div_one];omega
theorem Hy (x b k:Nat)(h:b<256):byt (x*256+b) (k+1)=byt x k:=by
 unfold byt;rw[show 8*(k+1)=8+8*k by omega,Nat.pow_add,<-Nat.div_div_eq_div_mul,show(x*256+b)/2^8=x by omega]
theorem UB (l:List UInt8): ∀(k:Nat) (hk:k<l.length),byt (UA l) k=(l[l.length-1-k]'(by omega)).toNat:=by
 refine OQ (P:=fun l=> ∀(k:Nat) (hk:k<l.length),byt (UA l) k=(l[l.length-1-k]'(by omega)).toNat) ?_ ?_ l
 ·intro k hk;simp at hk
 ·intro l b ih k hk;rw[List.length_append,List.length_singleton]at hk;have hb:=UInt8.toNat_lt b;rw[Qr]
  cases k with
  |zero=>
   rw[Hx _ _ hb];simp
  |succ k=>
   rw[Hy _ _ _ hb,ih k (by omega)]
   congr 1
   rw[List.getElem_append_left (by simp;omega)]
   congr 1
   simp;omega
theorem K3 (N k v:Nat)(hk:k<32)(hv:v=lm (N%2^(8*k)) (k/8)|||byt N k*2^(k%8*8)):(Zd (N%2^(8*k))).setIfInBounds (k/8) (.int .u64 v)=Zd (N%2^(8*(k+1))):=by
 subst hv;refine WK _ _ _ _ (by omega) ?_ ?_
 ·apply Nat.eq_of_testBit_eq;intro j;rw[Nat.testBit_or,ZP,ZP,Nat.testBit_mod_two_pow,Nat.testBit_mod_two_pow,Nat.mul_comm (byt N k),Nat.testBit_two_pow_mul,Ts];by_cases hj:j<64
  ·by_cases h1:64*(k/8)+j<8*k
   ·rw[decide_eq_true hj,decide_eq_true h1,decide_eq_true (show 64*(k/8)+j<8*(k+1) by omega),decide_eq_false (show ¬j>=k%8*8 by omega)];simp
   ·by_cases h2:64*(k/8)+j<8*(k+1)
    ·rw[decide_eq_true hj,decide_eq_false h1,decide_eq_true h2,decide_eq_true (show j>=k%8*8 by omega),decide_eq_true (show j-k%8*8<8 by omega),show 8*k+(j-k%8*8)=64*(k/8)+j by omega];simp
    ·rw[decide_eq_true hj,decide_eq_false h1,decide_eq_false h2,decide_eq_false (show ¬j-k%8*8<8 by omega)];simp
  ·rw[decide_eq_false hj,decide_eq_false (show ¬j-k%8*8<8 by omega)];simp
 ·intro i _ hne;apply Nat.eq_of_testBit_eq;intro j;rw[ZP,ZP,Nat.testBit_mod_two_pow,Nat.testBit_mod_two_pow];by_cases hj:j<64
  ·by_cases h1:64*i+j<8*k
   ·rw[decide_eq_true h1,decide_eq_true (show 64*i+j<8*(k+1) by omega)]
   ·rw[decide_eq_false h1,decide_eq_false (show ¬64*i+j<8*(k+1) by omega)]
  ·rw[decide_eq_false hj,Bool.false_and,Bool.false_and]
theorem NU (N k:Nat):byt N k*2^(k%8*8)<18446744073709551616:=by
 have h1:=T9 N k;have h2:2^(k%8*8)<=2^56:=Nat.pow_le_pow_right (by decide) (by omega);have h3:byt N k*2^(k%8*8)<=255*2^56:=Nat.mul_le_mul (by omega) h2;exact Nat.lt_of_le_of_lt h3 (by decide)
theorem DM (L b m:Nat)(hL:L<18446744073709551616)(hb:b<18446744073709551616)(hm:b*2^m<18446744073709551616):
  bits .or .u64 (L:Int) (IntKind.u64.wrap (IntKind.u64.wrap (b:Int)*2^m))=((L|||b*2^m:Nat):Int):=by
 rw[wrap_u64 b hb,show((b:Int)*2^m)=((b*2^m:Nat):Int) by simp,wrap_u64 _ hm,u64_or_nat _ _ hL hm]
open Go.RowKit
def JK (s:ByteArray):Bool:=decide (32<s.size)||(decide (0<s.size)&&(s.data.toList[0]?==some 0))
theorem NV (s:ByteArray)(w:World)(h:32<s.size):
  Calls prog 121 #[.string s] w fun e w'=>e= .returned (.tuple #[.agg (Zd 0),.int .i64 4])/\Below w.heap.size w w':=by
 have h':(32:Int)<s.size:=by omega
 have rR:=Row.new w (Zd 0) 57
 go_enter func121,ntmps121
 go_wp2_with (first
  |refine Zg rfl 57 rfl _ Zo ?_
  |refine Zw rfl 57 rfl _ ZA ?_
  |refine Zs rfl 57 _ _ rfl _ _ rfl rfl rR (by exact Zc) (by simp only[Zm]) (Zv _) ?_)
 exact Z2 rfl _ rfl (rR.setRow _) 4 _ underlying57 (by exact Zc) rfl _ rfl ⟨rfl,Zt (Z8 _) (by omega) _⟩
theorem Qs (s:ByteArray)(w:World)(h:s.size<=32)(h0:0<s.size)(hz:s[0]=0):
  Calls prog 121 #[.string s] w fun e w'=>e= .returned (.tuple #[.agg (Zd 0),.int .i64 4])/\Below w.heap.size w w':=by
 have h': ¬(32:Int)<s.size:=by omega
 have h0':(0:Int)<s.size:=by omega
 have hz':(s[0].toNat:Int)=0:=by rw[hz];rfl
 have rR:=Row.new w (Zd 0) 57;clear h hz
 go_enter func121,ntmps121
 go_wp2_with (first
  |refine Zg rfl 57 rfl _ Zo ?_
  |refine Zw rfl 57 rfl _ ZA ?_
  |refine Zs rfl 57 _ _ rfl _ _ rfl rfl rR (by exact Zc) (by simp only[Zm]) (Zv _) ?_)
 exact Z2 rfl _ rfl (rR.setRow _) 4 _ underlying57 (by exact Zc) rfl _ rfl ⟨rfl,Zt (Z8 _) (by omega) _⟩
theorem NW (s:ByteArray)(w:World)(h:s.size<=32)(h0:0<s.size)(hz:s[0]≠0):
  Calls prog 121 #[.string s] w fun e w'=>e= .returned (.tuple #[.agg (Zd (UA s.data.toList)),.int .i64 0])/\Below w.heap.size w w':=by
 have h': ¬(32:Int)<s.size:=by omega
 have h0':(0:Int)<s.size:=by omega
 have hz':((s[0].toNat:Int)==0)=false:=by
  rw[beq_eq_false_iff_ne];intro e;exact hz (UInt8.toNat_inj.1 (by simpa using e))
 have HH:Hid (s.size<=32):=h;clear h hz
 go_enter func121,ntmps121
 go_wp2_with (first
  |refine Zg rfl 57 rfl _ Zo ?_)
 go_loopg [22] s.size (fun g s22 wr=> ∃k:Nat,k+g=s.size/\s22= .int .i64 k/\Row wr w.heap.size (Zd 0) 57/\Row wr (w.heap.size+1) (Zd (UA s.data.toList%2^(8*k))) 57/\Below w.heap.size w wr)
 case atStart=>exact⟨0,by omega,rfl,Row.one rfl,by rw[show UA s.data.toList%2^(8*0)=0 by simp[Nat.mod_one]];exact Row.here (by simp),Z0 _ _⟩
 case round=>
  obtain⟨k,hk,rfl,r0,r1,hb⟩:=hrel;have hle:=HH.out
  cases gk with
  |zero=>
   obtain rfl:k=s.size:=by omega
   rw[Nat.mod_eq_of_lt (show UA s.data.toList<2^(8*s.size)from Tv s.data.toList)]at r1;clear hk;have hx: ¬((s.size:Int)<s.size):=by omega
   go_wp2_with (first
    |refine Zj rfl 57 _ rfl _ rfl r1 4 _ underlying57 (by exact Zc) ?_
    |refine Zs rfl 57 _ _ rfl _ _ rfl rfl r0 (by exact Zc) (by simp only[Zm]) (Zv _) ?_)
   exact Z2 rfl _ rfl (r0.setRow _) 4 _ underlying57 (by exact Zc) rfl _ rfl ⟨rfl,Zt hb (by omega) _⟩
  |succ g=>
   have hlt:(k:Int)<s.size:=by omega
   have hc1:=ZS r1 (k/8) (by omega);have hf1:=r1.frozen (k/8);have HV:=UB s.data.toList k (by show k<s.size;omega);obtain⟨i,hi,hik,HW⟩: ∃i:Nat,∃hi:i<s.size,(s.size:Int)-1-k=i/\Aside (byt (UA s.data.toList) k=(s[i]'hi).toNat):=⟨s.size-1-k,by omega,by omega,HV⟩
   have hi':(i:Int)<s.size:=by omega
   have R:Aside (Row wr w.heap.size (Zd 0) 57/\Row wr (w.heap.size+1) (Zd (UA s.data.toList%2^(8*k))) 57/\Below w.heap.size w wr):=⟨r0,r1,hb⟩;clear r0 r1 hb HV;go_wp2
   go_region
   go_wp2;obtain⟨r0,r1,hb⟩:=R.out;have hw:=HW.out
   go_roundg g
   case measure=>omega
   case rel=>
    refine⟨k+1,by omega,by go_num,(r0.setCell_far _ _ _ (by omega)).drew,?_,(ZU hb (by omega) _ _).drew⟩;have:=(r1.setCell (k/8) (.int .u64 ((lm (UA s.data.toList%2^(8*k)) (k/8)|||byt (UA s.data.toList) k*2^(k%8*8):Nat):Int))).drew;rw[K3 _ k _ (by omega) rfl]at this;rw[<-hw,DM _ _ _ (XA _ _) (Nat.lt_of_lt_of_le (T9 _ _) (by decide)) (NU _ _)];exact this
theorem PD (s:ByteArray)(w:World)(h:s.size=0):
  Calls prog 121 #[.string s] w fun e w'=>e= .returned (.tuple #[.agg (Zd 0),.int .i64 0])/\Below w.heap.size w w':=by
 have h':(s.size:Int)=0:=by omega
 go_enter func121,ntmps121
 go_wp2_with (first
  |refine Zg rfl 57 rfl _ Zo ?_)
 go_loopg [22] 0 (fun _ s22 wr=>s22= .int .i64 0/\Row wr w.heap.size (Zd 0) 57/\Row wr (w.heap.size+1) (Zd 0) 57/\Below w.heap.size w wr)
 case atStart=>exact⟨rfl,Row.one rfl,Row.here (by simp),Z0 _ _⟩
 case round=>
  obtain⟨rfl,r0,r1,hb⟩:=hrel
  go_wp2_with (first
   |refine Zj rfl 57 _ rfl _ rfl r1 4 _ underlying57 (by exact Zc) ?_
   |refine Zs rfl 57 _ _ rfl _ _ rfl rfl r0 (by exact Zc) (by simp only[Zm]) (Zv _) ?_)
  exact Z2 rfl _ rfl (r0.setRow _) 4 _ underlying57 (by exact Zc) rfl _ rfl ⟨rfl,Zt hb (by omega) _⟩
def WX (s:ByteArray):Nat:=if JK s=true then 0 else UA s.data.toList
def Vi (s:ByteArray):Int:=if JK s=true then 4 else 0
theorem WU (s:ByteArray):(32<s.size/\JK s=true)∨(s.size=0/\JK s=false)∨(s.size<=32/\ ∃h:0<s.size,(s[0]=0/\JK s=true)∨(s[0]≠0/\JK s=false)):=by
 unfold JK;by_cases h1:32<s.size
 ·exact .inl ⟨h1,by rw[decide_eq_true h1];rfl⟩
 ·by_cases h2:0<s.size
  ·refine .inr (.inr ⟨by omega,h2,?_⟩)
   have hg:s.data.toList[0]?=some s[0]:=by
    rw[Array.getElem?_toList];exact Array.getElem?_eq_getElem h2
   rw[decide_eq_false h1,decide_eq_true h2,hg];by_cases h3:s[0]=0
   ·exact .inl ⟨h3,by rw[h3];rfl⟩
   ·exact .inr ⟨h3,by simp[h3]⟩
  ·exact .inr (.inl ⟨by omega,by rw[decide_eq_false h1,decide_eq_false h2];rfl⟩)
theorem K4 (s:ByteArray)(w:World):
  Calls prog 121 #[.string s] w (Rt (.tuple #[.agg (Zd (WX s)),.int .i64 (Vi s)]) w):=by
 unfold WX Vi;rcases WU s with ⟨h1,hb⟩|⟨h1,hb⟩|⟨h1,h2,⟨h3,hb⟩|⟨h3,hb⟩⟩
 ·rw[if_pos hb,if_pos hb];exact NV s w h1
 ·rw[if_neg (by rw[hb];decide),if_neg (by rw[hb];decide),show UA s.data.toList=0 by
   have:s.data.toList=[]:=List.length_eq_zero_iff.1 h1
   rw[this];rfl]
  exact PD s w h1
 ·rw[if_pos hb,if_pos hb];exact Qs s w h1 h2 h3
 ·rw[if_neg (by rw[hb];decide),if_neg (by rw[hb];decide)];exact NW s w h1 h2 h3
theorem Hz:(prog.info? 164).map (fun i=>(i.zero,i.size))=some (some (.agg (Un 0)),32):=by kernel_rfl
theorem HP (w:World):(zeroValue 164).run prog w= .ok (.agg (Un 0)) w:=(zero_of_info Hz).1 w
theorem OR {w:World}{b N:Nat}(h:Row w b (Un N) 164)(i:Nat)(hi:i<32):w.cell? ⟨b,i,none⟩=some (.int .u8 (byt N (31-i))):=by rw[h.cell];exact Tt _ _ hi
theorem PF:prog.underlying 118=some (.slice 5):=underlying118
def Fy (n:Nat):Nat:=if n=0 then 0 else 32-n
theorem TM {o:Oper}{ρ:Operand->Value}(x lo:Operand)(ho:o.op= .slice 164 x (some lo) none none)(b n:Nat)(hx:ρ x= .pointer (some ⟨b,0,none⟩))(l:Int)(hl:ρ lo= .int .i64 l)
  (hn:n<=32)(hle:l=32-n)(w:World):(execOp ρ o).run prog w= .ok (.value (.slice (some ⟨b,Fy n,none⟩) n n)) w:=by
 have hr:=run_sliceAt_array_l (P:=prog) w 164 ⟨b,0,none⟩ (by kernel_rfl) .i64 l (by omega) (by rw[show prog.arrayLen 164=32 from by kernel_rfl];omega);unfold execOp;simp only[ho,hx,hl,Option.map_some,Option.map_none,Sem.run_bind];rw[hr,show prog.elem 164=5 from by kernel_rfl,sizeOf5,show prog.arrayLen 164=32 from by kernel_rfl];subst hle;have e:((32:Int)-n).toNat=32-n:=by omega
 rw[e];unfold slicedAt Fy;by_cases h0:n=0
 ·subst h0;rfl
 ·simp only[Result.andThen_ok,Sem.run_pure];rw[if_neg (show ¬32=32-n by omega),if_neg h0,show 32-(32-n)=n by omega]
  have ha:(⟨b,0,none⟩:Addr).add ((32-n)*1)=⟨b,32-n,none⟩:=by unfold Addr.add;split<;>simp_all
  rw[ha]
theorem Tw {o:Oper}{ρ:Operand->Value}(x:Operand)(ho:o.op= .convert 118 9 x)(b n A:Nat)(hx:ρ x= .slice (some ⟨b,Fy n,none⟩) n n)(hn:n<=32)(w:World)
  (hr:Row w b (Un A) 164):(execOp ρ o).run prog w= .ok (.value (.string ⟨(YR A n).toArray⟩)) w:=by
 unfold execOp;simp only[ho,hx,Sem.run_bind]
 have h:=run_convert_bytes_back (P:=prog) w 118 9 5 ⟨b,Fy n,none⟩ n (YR A n) PF underlying5 underlying9 (fun j hj=>by
  have hj':j<n:=by rw[Z7]at hj;exact hj
  have ha:(⟨b,Fy n,none⟩:Addr).add j=⟨b,Fy n+j,none⟩:=by unfold Addr.add;split<;>simp_all
  rw[ha,show Fy n+j=32-n+j by unfold Fy;rw[if_neg (by omega)],OR hr _ (by omega)]
  rw[WT,UInt8.toNat_ofNat_of_lt' (T9 _ _),show 31-(32-n+j)=n-1-j by omega])
 rw[Z7]at h;rw[h];rfl
theorem NX (A:Nat)(w:World)(hA:A<2^256):
  Calls prog 71 #[.agg (Zd A)] w fun e w'=>e= .returned (.string (Xv A))/\Below w.heap.size w w':=by
 have HA:Hid (A<2^256):=hA;clear hA
 go_enter func71,ntmps71
 go_wp2_with (first
  |refine Zp rfl 57 _ rfl _ rfl ?_
  |refine Zg rfl 164 rfl _ HP ?_)
 go_loopg [6] 32 (fun g s6 wr=> ∃k:Nat,k+g=32/\s6= .int .i64 k/\Row wr w.heap.size (Zd A) 57/\Row wr (w.heap.size+1) (Un (A%2^(8*k))) 164/\Below w.heap.size w wr)
 case atStart=>exact⟨0,by omega,rfl,Row.one rfl,by rw[show A%2^(8*0)=0 by simp[Nat.mod_one]];exact Row.here (by simp),Z0 _ _⟩
 case round=>
  obtain⟨k,hk,rfl,r0,r1,hb⟩:=hrel
  cases gk with
  |zero=>
   obtain rfl:k=32:=by omega
   rw[show A%2^(8*32)=A from Nat.mod_eq_of_lt HA.out]at r1;clear hk;have hx: ¬((32:Int)<32):=by omega
   have hn:bitLen A<=256:=Tu A 256 HA.out;have hn':(bitLen A:Int)<=256:=by omega
   go_wp2_with (first
    |refine Zj rfl 57 _ rfl _ rfl r0 4 _ underlying57 (by exact Zc) ?_
    |(go_at_call 111;refine(WM _ _ HA.out).mono ?_;rintro e w2 ⟨rfl,hb2⟩;have r5:=r1.belowAll hb2;have b5:=Zk hb (Nat.le_refl _) hb2;clear hb2)
    |refine ZG rfl _ (TM _ _ rfl (w.heap.size+1) (need A) rfl _ rfl (Ub A HA.out) (by have:=HA.out;unfold need;omega) _) ?_
    |refine ZG rfl _ (Tw _ rfl (w.heap.size+1) (need A) A rfl (Ub A HA.out) _ r5) ?_)
   go_ret;exact⟨rfl,b5⟩
  |succ g=>
   have hlt:(k:Int)<32:=by omega
   have hk8:k/8<4:=by omega
   have hc0:=ZS r0 (k/8) (by omega);have hc1:=OR r1 (31-k) (by omega);have hf1:=r1.frozen (31-k);have hlm:=XA A (k/8);have hsub:((31:Int)-k).toNat=31-k:=by omega
   have R:Aside (Row wr w.heap.size (Zd A) 57/\Row wr (w.heap.size+1) (Un (A%2^(8*k))) 164/\Below w.heap.size w wr):=⟨r0,r1,hb⟩;clear r0 r1 hb;go_wp2;obtain⟨r0,r1,hb⟩:=R.out
   go_roundg g
   case measure=>omega
   case rel=>
    refine⟨k+1,by omega,by go_num,r0.setCell_far _ _ _ (by omega),?_,ZU hb (by omega) _ _⟩;have:=r1.setCell (31-k) (.int .u8 (byt A k:Nat));rw[NT A k _ (by omega) rfl]at this;rw[show((lm A (k/8):Int)/2^(k%8*8)%256)=((byt A k:Nat):Int) by rw[<-BO];simp];exact this
def u8s (l:List UInt8):List Value:=l.map fun b=>.int .u8 (b.toNat:Int)
theorem own_below {w w':World}{base:Nat}{e:TypeId}{size:Nat}{v:Value}{n:Nat}{xs:List Value}(h:w.ownsRow base e size v n xs)(hb:Below w.heap.size w w'):w'.ownsRow base e size v n xs:=by
 refine⟨h.1,?_⟩;rcases h.2 with hn|⟨g,cap,cur,rfl,hbs,hgg,rest⟩
 ·exact .inl hn
 ·exact .inr ⟨g,cap,cur,rfl,hbs,(hb.block g (Array.getElem?_eq_some_iff.1 hgg).1).trans hgg,rest⟩
theorem K5 (A n:Nat)(h:2^n<=A):n<bitLen A:=by
 have h1:=(bitLen_spec A).1;exact(Nat.pow_lt_pow_iff_right (by decide:1<2)).1 (Nat.lt_of_le_of_lt h h1)
theorem K6 (A:Nat):A<2^(8*need A):=by
 refine Nat.lt_of_lt_of_le (bitLen_spec A).1 (Nat.pow_le_pow_right (by decide) ?_);unfold need;omega
theorem K7 (A B n:Nat)(hA:A<2^(8*n))(hB:B<2^(8*n))(h: ∀k,k<n->byt A k=byt B k):A=B:=by
 apply Nat.eq_of_testBit_eq;intro i;by_cases hi:i<8*n
 ·have h1:=congrArg (fun x=>Nat.testBit x (i%8)) (h (i/8) (by omega));simp only[Ts]at h1;rw[decide_eq_true (show i%8<8 by omega),Bool.true_and,Bool.true_and,show 8*(i/8)+i%8=i by omega]at h1;exact h1
 ·rw[Nat.testBit_lt_two_pow (Nat.lt_of_lt_of_le hA (Nat.pow_le_pow_right (by decide) (by omega))),Nat.testBit_lt_two_pow (Nat.lt_of_lt_of_le hB (Nat.pow_le_pow_right (by decide) (by omega)))]
theorem PG (A n:Nat)(hA:A<2^(8*n)):UA (YR A n)=A:=by
 have hl:=Tv (YR A n);rw[Z7]at hl;refine K7 _ _ n hl hA fun k hk=>?_
 rw[UB (YR A n) k (by rw[Z7];exact hk),WT,UInt8.toNat_ofNat_of_lt' (T9 _ _),Z7,show n-1-(n-1-k)=k by omega]
theorem DN (A n:Nat)(h1:2^(8*n)<=A)(h2:A<2^(8*(n+1))):byt A n≠0:=by
 unfold byt;rw[Nat.mod_eq_of_lt (Nat.div_lt_of_lt_mul (by rw[show 2^(8*n)*256=2^(8*(n+1)) by rw[show 8*(n+1)=8*n+8 by omega,Nat.pow_add]];exact h2))];have:=(Nat.le_div_iff_mul_le (Nat.two_pow_pos (8*n))).2 (show 1*2^(8*n)<=A by omega);omega
theorem DO (A:Nat)(h:0<need A):2^(8*(need A-1))<=A:=by
 have hs:=bitLen_spec A
 have h0:A≠0:=by
  intro e;subst e;have:need 0=0:=rfl;omega
 refine Nat.le_trans (Nat.pow_le_pow_right (by decide) ?_) (hs.2 h0);unfold need at*;omega
theorem Uj (A:Nat):(Xv A).size=need A:=Z7 A (need A)
theorem PH (A:Nat)(hA:A<2^256):JK (Xv A)=false:=by
 have hn:=Ub A hA;rcases WU (Xv A)with ⟨h,_⟩|⟨_,h⟩|⟨_,h2,⟨h3,_⟩|⟨_,h⟩⟩
 ·rw[Uj]at h;omega
 ·exact h
 ·rw[Uj]at h2
  have hg:(Xv A)[0]=UInt8.ofNat (byt A (need A-1)):=by
   have:=WT A (need A) 0 (by rw[Z7];exact h2);exact this
  rw[hg]at h3;have h4:=congrArg UInt8.toNat h3;rw[UInt8.toNat_ofNat_of_lt' (T9 _ _)]at h4;have h5:=DN A (need A-1) (DO A h2) (by rw[show need A-1+1=need A by omega];exact K6 A);exact absurd h4 h5
 ·exact h
theorem Qt (A:Nat)(hA:A<2^256):WX (Xv A)=A/\Vi (Xv A)=0:=by
 have hb:=PH A hA;unfold WX Vi;rw[hb];exact⟨PG A (need A) (K6 A),rfl⟩
theorem HU (s:ByteArray):WX s<2^256:=by
 unfold WX
 rcases WU s with ⟨_,hb⟩|⟨h1,hb⟩|⟨h1,_,⟨_,hb⟩|⟨_,hb⟩⟩<;>rw[hb]
 ·exact Nat.two_pow_pos _
 ·refine Nat.lt_of_lt_of_le (Tv s.data.toList) (Nat.pow_le_pow_right (by decide) ?_);show 8*s.size<=256
  omega
 ·exact Nat.two_pow_pos _
 ·refine Nat.lt_of_lt_of_le (Tv s.data.toList) (Nat.pow_le_pow_right (by decide) ?_);show 8*s.size<=256
  omega
theorem K8 (l:List UInt8)(h:l=[]∨ ∃h0:0<l.length,l[0]≠0):need (UA l)=l.length:=by
 rcases h with rfl|⟨h0,hne⟩
 ·rfl
 ·have hlt:=Tv l
  have hle:2^(8*(l.length-1))<=UA l:=by
   have hb:=UB l (l.length-1) (by omega)
   have e:l[l.length-1-(l.length-1)]'(by omega)=l[0]:=by congr 1;omega
   rw[e]at hb
   have hn0:byt (UA l) (l.length-1)≠0:=by
    rw[hb];intro hz;exact hne (UInt8.toNat_inj.1 (by simpa using hz))
   refine Nat.le_of_not_lt fun hl=>hn0 ?_
   unfold byt;rw[Nat.div_eq_of_lt hl]
  have h1:=K5 _ _ hle;have h2:=Tu _ _ hlt;unfold need;omega
theorem PI (l:List UInt8):YR (UA l) l.length=l:=by
 apply List.ext_getElem
 ·rw[Z7]
 ·intro j h1 h2;rw[WT];apply UInt8.toNat_inj.1;rw[UInt8.toNat_ofNat_of_lt' (T9 _ _),UB l (l.length-1-j) (by omega)]
  congr 2
  omega
theorem NY (s:ByteArray)(h:Vi s=0):Xv (WX s)=s:=by
 have hb:JK s=false:=by
  unfold Vi at h
  cases hq:JK s with
  |false=>rfl
  |true=>rw[hq]at h;exact absurd h (by decide)
 unfold WX Xv;rw[hb,if_neg (by decide)]
 have hl:need (UA s.data.toList)=s.data.toList.length:=by
  refine K8 _ ?_;rcases WU s with ⟨_,h2⟩|⟨h1,_⟩|⟨_,h0,⟨_,h2⟩|⟨h3,_⟩⟩
  ·rw[hb]at h2;cases h2
  ·exact .inl (List.length_eq_zero_iff.1 h1)
  ·rw[hb]at h2;cases h2
  ·exact .inr ⟨h0,h3⟩
 rw[hl,PI]
def xmN (A:Nat):List UInt8:=UInt8.ofNat (need A)::YR A (need A)
def xmT (G:Nat->Nat):Nat->List UInt8
 |0=>[]
 |t+1=>xmT G t++xmN (G t)
def xmL (n k:Nat)(G:Nat->Nat):List UInt8:=UInt8.ofNat n::UInt8.ofNat k::xmT G (n*k)
structure XmV (n k:Nat)(G:Nat->Nat):Prop where
 n1:1<=n
 n2:n<=25
 k1:1<=k
 k2:k<=7
 lt: ∀t,t<n*k->G t<2^256
def tkN:List UInt8->Option (Nat×List UInt8)
 |[]=>none
 |b::r=>if r.length<b.toNat then none else if Vi ⟨(r.take b.toNat).toArray⟩=0 then some (WX ⟨(r.take b.toNat).toArray⟩,r.drop b.toNat)else none
theorem NZ (A:Nat):(xmN A).length=need A+1:=by simp[xmN,Z7]
theorem DP {A:Nat}(h:A<2^256):(UInt8.ofNat (need A)).toNat=need A:=by
 have:=Ub A h;rw[UInt8.toNat_ofNat'];exact Nat.mod_eq_of_lt (by omega)
theorem PJ {A:Nat}(h:A<2^256)(r:List UInt8):tkN (xmN A++r)=some (A,r):=by
 show(if(YR A (need A)++r).length<(UInt8.ofNat (need A)).toNat then none else if Vi ⟨((YR A (need A)++r).take (UInt8.ofNat (need A)).toNat).toArray⟩=0 then some (WX ⟨((YR A (need A)++r).take (UInt8.ofNat (need A)).toNat).toArray⟩,(YR A (need A)++r).drop (UInt8.ofNat (need A)).toNat)else none)=_
 rw[DP h];have hl:=Z7 A (need A);rw[if_neg (by rw[List.length_append,hl];omega)];have ht:(YR A (need A)++r).take (need A)=YR A (need A):=by rw[List.take_append_of_le_length (by omega),List.take_of_length_le (by omega)]
 have hd:(YR A (need A)++r).drop (need A)=r:=by
  rw[List.drop_append,List.drop_of_length_le (by omega),hl,Nat.sub_self];rfl
 rw[ht,hd];obtain⟨h1,h2⟩:=Qt A h;show(if Vi (Xv A)=0 then some (WX (Xv A),r)else none)=_
 rw[if_pos h2,h1]
theorem BP {l r:List UInt8}{A:Nat}(h:tkN l=some (A,r)):l=xmN A++r/\A<2^256:=by
 match l,h with
 |[],h=>cases h
 |b::s,h=>
  simp only[tkN]at h;by_cases h1:s.length<b.toNat
  ·rw[if_pos h1]at h;cases h
  rw[if_neg h1]at h;by_cases h2:Vi ⟨(s.take b.toNat).toArray⟩=0
  ·rw[if_pos h2]at h;simp only[Option.some.injEq,Prod.mk.injEq]at h;obtain⟨rfl,rfl⟩:=h;refine⟨?_,HU _⟩;have hb:=NY _ h2
   have hs:YR (WX ⟨(s.take b.toNat).toArray⟩) (need (WX ⟨(s.take b.toNat).toArray⟩))=s.take b.toNat:=by
    have:=congrArg (fun x=>x.data.toList) hb
    simpa[Xv]using this
   have hn:need (WX ⟨(s.take b.toNat).toArray⟩)=b.toNat:=by
    have:=congrArg List.length hs;rw[Z7,List.length_take]at this;omega
   show b::s=UInt8.ofNat _::_++_
   rw[List.cons_append,hs,hn,List.take_append_drop]
   congr 1
   simp
  ·rw[if_neg h2]at h;cases h
theorem K9 (G:Nat->Nat){t m:Nat}(h:t<m): ∃r,xmT G m=xmT G t++(xmN (G t)++r):=by
 induction m with
 |zero=>omega
 |succ m ih=>
  by_cases hm:t<m
  ·obtain⟨r,hr⟩:=ih hm;exact⟨r++xmN (G m),by rw[xmT,hr];simp only[List.append_assoc]⟩
  ·obtain rfl:t=m:=by omega
   exact⟨[],by rw[xmT,List.append_nil]⟩
theorem Rb {G G':Nat->Nat}: ∀{t:Nat} {r r':List UInt8},(∀i,i<t->G i<2^256)->(∀i,i<t->G' i<2^256)->xmT G t++r=xmT G' t++r'->(∀i,i<t->G i=G' i)/\r=r'
 |0,r,r',_,_,h=>⟨fun i hi=>by omega,h⟩
 |t+1,r,r',h1,h2,h=>by
  simp only[xmT,List.append_assoc]at h;obtain⟨ha,hr⟩:=Rb (fun i hi=>h1 i (by omega)) (fun i hi=>h2 i (by omega)) h;have e1:=PJ (h1 t (by omega)) r;rw[hr,PJ (h2 t (by omega)) r']at e1;simp only[Option.some.injEq,Prod.mk.injEq]at e1;refine⟨fun i hi=>?_,e1.2.symm⟩;by_cases hit:i=t
  ·subst hit;exact e1.1.symm
  ·exact ha i (by omega)
theorem Sa {a b:Nat}(ha:a<256)(hb:b<256)(h:UInt8.ofNat a=UInt8.ofNat b):a=b:=by
 have:=congrArg UInt8.toNat h;simp only[UInt8.toNat_ofNat']at this;omega
theorem DQ {n k n' k':Nat}{G G':Nat->Nat}(h:XmV n k G)(h':XmV n' k' G')(he:xmL n k G=xmL n' k' G'):n=n'/\k=k'/\ ∀t,t<n*k->G t=G' t:=by
 simp only[xmL,List.cons.injEq]at he;obtain⟨e1,e2,e3⟩:=he;have:=h.n2;have:=h'.n2;have:=h.k2;have:=h'.k2;obtain rfl:=Sa (by omega) (by omega) e1;obtain rfl:=Sa (by omega) (by omega) e2;refine⟨rfl,rfl,(Rb (r:=[]) (r':=[]) h.lt h'.lt ?_).1⟩;rw[List.append_nil,List.append_nil,e3]
theorem zx {n k t:Nat}{G:Nat->Nat}{l r:List UInt8}(hn:n<256)(hk:k<256)(hl:l=UInt8.ofNat n::UInt8.ofNat k::(xmT G t++r))(hG: ∀i,i<t->G i<2^256)(ht:t<n*k)(hr:tkN r=none){n' k':Nat}{G':Nat->Nat}(h':XmV n' k' G'):l≠xmL n' k' G':=by
 intro he;rw[hl]at he;simp only[xmL,List.cons.injEq]at he;obtain⟨e1,e2,e3⟩:=he;have:=h'.n2;have:=h'.k2;obtain rfl:=Sa hn (by omega) e1;obtain rfl:=Sa hk (by omega) e2;obtain⟨r2,h2⟩:=K9 G' ht;rw[h2]at e3;obtain⟨_,rfl⟩:=Rb hG (fun i hi=>h'.lt i (by omega)) e3;rw[PJ (h'.lt t ht)]at hr;cases hr
theorem DR {n k:Nat}{G:Nat->Nat}{l r:List UInt8}(hn:n<256)(hk:k<256)(hl:l=UInt8.ofNat n::UInt8.ofNat k::(xmT G (n*k)++r))(hG: ∀i,i<n*k->G i<2^256)(hr:r≠[]){n' k':Nat}{G':Nat->Nat}(h':XmV n' k' G'):l≠xmL n' k' G':=by
 intro he;rw[hl]at he;simp only[xmL,List.cons.injEq]at he;obtain⟨e1,e2,e3⟩:=he;have:=h'.n2;have:=h'.k2;obtain rfl:=Sa hn (by omega) e1;obtain rfl:=Sa hk (by omega) e2;exact hr (Rb (r':=[]) hG h'.lt (by rw[List.append_nil];exact e3)).2
theorem Uc {G:Nat->Nat}: ∀{t:Nat},(∀i,i<t->G i<2^256)->(xmT G t).length<=33*t
 |0,_=>Nat.le_refl _
 |t+1,h=>by
  have h1:=Uc (fun i hi=>h i (Nat.lt_succ_of_lt hi));have h2:=Ub (G t) (h t (by omega));rw[xmT,List.length_append,NZ];omega
theorem BQ {k j:Nat}(i:Nat)(h:j<k):(i*k+j)/k=i:=by
 rw[Nat.add_comm,Nat.add_mul_div_right _ _ (by omega),Nat.div_eq_of_lt h,Nat.zero_add]
theorem BR {k j:Nat}(i:Nat)(h:j<k):(i*k+j)%k=j:=by
 rw[Nat.add_comm,Nat.add_mul_mod_self_right,Nat.mod_eq_of_lt h]
theorem BS {n k i j:Nat}(hi:i<n)(hj:j<k):i*k+j<n*k:=
 Nat.lt_of_lt_of_le (by rw[Nat.add_comm];exact Nat.add_lt_add_right hj _) (by rw[Nat.add_comm,<-Nat.succ_mul];exact Nat.mul_le_mul_right _ hi)
end Go.Proofs.YtnagnkhbamhfmaaGreatDoor
