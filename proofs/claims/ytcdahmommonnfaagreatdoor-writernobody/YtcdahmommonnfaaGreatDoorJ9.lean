import Derived.ProofKit
import Derived.OpenShut
import Derived.ShutString
import Derived.ChangeOld
import Derived.Below
import Derived.Laws.IdiomArrays
import Derived.Deep.Slices
import Derived.Test.YtcdahmommonnfaaGreatDoorJ5
set_option maxRecDepth 100000
set_option maxHeartbeats 8000000
namespace Go.Proofs.YtcdahmommonnfaaGreatDoor
set_option linter.all false
open Go.Proofs.Tryz
def byt (A k:Nat):Nat:=A/2^(8*k)%256
theorem Lc (A k:Nat):byt A k<256:=Nat.mod_lt _ (by decide)
theorem T7 (A k j:Nat):(byt A k).testBit j=(decide (j<8)&&A.testBit (8*k+j)):=by
 unfold byt;rw[show 256=2^8 from rfl,Nat.testBit_mod_two_pow,Nat.testBit_div_two_pow,Nat.add_comm]
theorem DR (A k:Nat):lm A (k/8)/2^(k%8*8)%256=byt A k:=by
 apply Nat.eq_of_testBit_eq;intro j;rw[T7,show 256=2^8 from rfl,Nat.testBit_mod_two_pow,Nat.testBit_div_two_pow,ZW];by_cases hj:j<8
 ·rw[decide_eq_true hj,decide_eq_true (show j+k%8*8<64 by omega),show 64*(k/8)+(j+k%8*8)=8*k+j by omega];simp
 ·simp[hj]
theorem Ld (A k i:Nat):byt (A%2^(8*k)) i=if i<k then byt A i else 0:=by
 apply Nat.eq_of_testBit_eq;intro j;rw[T7,Nat.testBit_mod_two_pow]
 split
 ·rw[T7];by_cases hj:j<8
  ·simp[hj,show 8*i+j<8*k by omega]
  ·simp[hj]
 ·rw[Nat.zero_testBit];by_cases hj:j<8
  ·simp[show ¬8*i+j<8*k by omega]
  ·simp[hj]
def VU (A:Nat):Array Value:=Array.ofFn (n:=32) fun i=>.int .u8 (byt A (31-i))
theorem VP (A:Nat):(VU A).size=32:=by simp[VU]
theorem UI (A i:Nat)(h:i<32):(VU A)[i]?=some (.int .u8 (byt A (31-i))):=by simp[VU,h]
theorem ON (A k v:Nat)(hk:k<32)(hv:v=byt A k):(VU (A%2^(8*k))).setIfInBounds (31-k) (.int .u8 v)=VU (A%2^(8*(k+1))):=by
 subst hv;apply Array.ext_getElem?;intro i;by_cases hi:i<32
 ·rw[Array.getElem?_setIfInBounds,UI (A%2^(8*(k+1))) i hi,Ld];by_cases e:31-k=i
  ·rw[if_pos e,if_pos (by rw[VP];omega),if_pos (by omega),show 31-i=k by omega]
  ·rw[if_neg e,UI _ i hi,Ld];by_cases h:31-i<k
   ·rw[if_pos h,if_pos (by omega)]
   ·rw[if_neg h,if_neg (by omega)]
 ·rw[Array.getElem?_eq_none (by simp[VP];omega),Array.getElem?_eq_none (by rw[VP];omega)]
def Wd (A n:Nat):List UInt8:=(List.range n).map fun i=>UInt8.ofNat (byt A (n-1-i))
theorem XJ (A n:Nat):(Wd A n).length=n:=by simp[Wd]
theorem OP (A n j:Nat)(h:j<(Wd A n).length):(Wd A n)[j]=UInt8.ofNat (byt A (n-1-j)):=by simp[Wd]
def need (A:Nat):Nat:=(bitLen A+7)/8
theorem Ro (A n:Nat)(h:A<2^n):bitLen A<=n:=by
 unfold bitLen
 split
 ·omega
 ·rename_i h0
  have:=(Nat.log2_lt h0).2 h;omega
theorem T8 (A:Nat)(h:A<2^256):need A<=32:=by
 have:=Ro A 256 h;unfold need;omega
def Le (A:Nat):ByteArray:=⟨(Wd A (need A)).toArray⟩
theorem PH {P:List UInt8->Prop}(h0:P [])(h1: ∀l b,P l->P (l++[b]))(l:List UInt8):P l:=by
 have h: ∀m:List UInt8,P m.reverse:=by
  intro m
  induction m with
  |nil=>exact h0
  |cons b m ih=>rw[List.reverse_cons];exact h1 _ _ ih
 have:=h l.reverse
 rwa [List.reverse_reverse]at this
def WR (l:List UInt8):Nat:=l.foldl (fun n b=>n*256+b.toNat) 0
theorem Rp (l:List UInt8)(b:UInt8):WR (l++[b])=WR l*256+b.toNat:=by simp[WR,List.foldl_append]
theorem Lf (l:List UInt8):WR l<2^(8*l.length):=by
 refine PH (P:=fun l=>WR l<2^(8*l.length)) ?_ ?_ l
 ·simp[WR]
 ·intro l b ih;rw[Rp,List.length_append,List.length_singleton,show 8*(l.length+1)=8*l.length+8 by omega,Nat.pow_add];have:=UInt8.toNat_lt b;omega
theorem J7 (x b:Nat)(h:b<256):byt (x*256+b) 0=b:=by
 unfold byt;rw[show 8*0=0 from rfl,Nat.pow_zero,Nat.div_one];omega
theorem J8 (x b k:Nat)(h:b<256):byt (x*256+b) (k+1)=byt x k:=by
 unfold byt;rw[show 8*(k+1)=8+8*k by omega,Nat.pow_add,<-Nat.div_div_eq_div_mul,show(x*256+b)/2^8=x by omega]
theorem J9 (l:List UInt8): ∀(k:Nat) (hk:k<l.length),byt (WR l) k=(l[l.length-1-k]'(by omega)).toNat:=by
 refine PH (P:=fun l=> ∀(k:Nat) (hk:k<l.length),byt (WR l) k=(l[l.length-1-k]'(by omega)).toNat) ?_ ?_ l
 ·intro k hk;simp at hk
 ·intro l b ih k hk;rw[List.length_append,List.length_singleton]at hk;have hb:=UInt8.toNat_lt b;rw[Rp]
  cases k with
  |zero=>
   rw[J7 _ _ hb];simp
  |succ k=>
   rw[J8 _ _ _ hb,ih k (by omega)]
   congr 1
   rw[List.getElem_append_left (by simp;omega)]
   congr 1
   simp;omega
theorem Lg (N k v:Nat)(hk:k<32)(hv:v=lm (N%2^(8*k)) (k/8)|||byt N k*2^(k%8*8)):(Zc (N%2^(8*k))).setIfInBounds (k/8) (.int .u64 v)=Zc (N%2^(8*(k+1))):=by
 subst hv;refine Vg _ _ _ _ (by omega) ?_ ?_
 ·apply Nat.eq_of_testBit_eq;intro j;rw[Nat.testBit_or,ZW,ZW,Nat.testBit_mod_two_pow,Nat.testBit_mod_two_pow,Nat.mul_comm (byt N k),Nat.testBit_two_pow_mul,T7];by_cases hj:j<64
  ·by_cases h1:64*(k/8)+j<8*k
   ·rw[decide_eq_true hj,decide_eq_true h1,decide_eq_true (show 64*(k/8)+j<8*(k+1) by omega),decide_eq_false (show ¬j>=k%8*8 by omega)];simp
   ·by_cases h2:64*(k/8)+j<8*(k+1)
    ·rw[decide_eq_true hj,decide_eq_false h1,decide_eq_true h2,decide_eq_true (show j>=k%8*8 by omega),decide_eq_true (show j-k%8*8<8 by omega),show 8*k+(j-k%8*8)=64*(k/8)+j by omega];simp
    ·rw[decide_eq_true hj,decide_eq_false h1,decide_eq_false h2,decide_eq_false (show ¬j-k%8*8<8 by omega)];simp
  ·rw[decide_eq_false hj,decide_eq_false (show ¬j-k%8*8<8 by omega)];simp
 ·intro i _ hne;apply Nat.eq_of_testBit_eq;intro j;rw[ZW,ZW,Nat.testBit_mod_two_pow,Nat.testBit_mod_two_pow];by_cases hj:j<64
  ·by_cases h1:64*i+j<8*k
   ·rw[decide_eq_true h1,decide_eq_true (show 64*i+j<8*(k+1) by omega)]
   ·rw[decide_eq_false h1,decide_eq_false (show ¬64*i+j<8*(k+1) by omega)]
  ·rw[decide_eq_false hj,Bool.false_and,Bool.false_and]
theorem OQ (N k:Nat):byt N k*2^(k%8*8)<18446744073709551616:=by
 have h1:=Lc N k;have h2:2^(k%8*8)<=2^56:=Nat.pow_le_pow_right (by decide) (by omega);have h3:byt N k*2^(k%8*8)<=255*2^56:=Nat.mul_le_mul (by omega) h2;exact Nat.lt_of_le_of_lt h3 (by decide)
theorem FP (L b m:Nat)(hL:L<18446744073709551616)(hb:b<18446744073709551616)(hm:b*2^m<18446744073709551616):
  bits .or .u64 (L:Int) (IntKind.u64.wrap (IntKind.u64.wrap (b:Int)*2^m))=((L|||b*2^m:Nat):Int):=by
 rw[wrap_u64 b hb,show((b:Int)*2^m)=((b*2^m:Nat):Int) by simp,wrap_u64 _ hm,u64_or_nat _ _ hL hm]
open Go.RowKit
def Ia (s:ByteArray):Bool:=decide (32<s.size)||(decide (0<s.size)&&(s.data.toList[0]?==some 0))
theorem OR (s:ByteArray)(w:World)(h:32<s.size):
  Calls prog 140 #[.string s] w fun e w'=>e= .returned (.tuple #[.agg (Zc 0),.int .i64 4])/\Below w.heap.size w w':=by
 have h':(32:Int)<s.size:=by omega
 have rR:=Row.new w (Zc 0) 39
 go_enter func140,ntmps140
 go_wp2_with (first
  |refine Zj rfl 39 rfl _ Zv ?_
  |refine ZL rfl 39 rfl _ ZO ?_
  |refine Zw rfl 39 _ _ rfl _ _ rfl rfl rR (by exact Ze) (by simp only[Zt]) (ZA _) ?_)
 exact Yl rfl _ rfl (rR.setRow _) 4 _ underlying39 (by exact Ze) rfl _ rfl ⟨rfl,Zy (Z5 _) (by omega) _⟩
theorem Rq (s:ByteArray)(w:World)(h:s.size<=32)(h0:0<s.size)(hz:s[0]=0):
  Calls prog 140 #[.string s] w fun e w'=>e= .returned (.tuple #[.agg (Zc 0),.int .i64 4])/\Below w.heap.size w w':=by
 have h': ¬(32:Int)<s.size:=by omega
 have h0':(0:Int)<s.size:=by omega
 have hz':(s[0].toNat:Int)=0:=by rw[hz];rfl
 have rR:=Row.new w (Zc 0) 39;clear h hz
 go_enter func140,ntmps140
 go_wp2_with (first
  |refine Zj rfl 39 rfl _ Zv ?_
  |refine ZL rfl 39 rfl _ ZO ?_
  |refine Zw rfl 39 _ _ rfl _ _ rfl rfl rR (by exact Ze) (by simp only[Zt]) (ZA _) ?_)
 exact Yl rfl _ rfl (rR.setRow _) 4 _ underlying39 (by exact Ze) rfl _ rfl ⟨rfl,Zy (Z5 _) (by omega) _⟩
theorem OS (s:ByteArray)(w:World)(h:s.size<=32)(h0:0<s.size)(hz:s[0]≠0):
  Calls prog 140 #[.string s] w fun e w'=>e= .returned (.tuple #[.agg (Zc (WR s.data.toList)),.int .i64 0])/\Below w.heap.size w w':=by
 have h': ¬(32:Int)<s.size:=by omega
 have h0':(0:Int)<s.size:=by omega
 have hz':((s[0].toNat:Int)==0)=false:=by
  rw[beq_eq_false_iff_ne];intro e;exact hz (UInt8.toNat_inj.1 (by simpa using e))
 have HH:Hid (s.size<=32):=h;clear h hz
 go_enter func140,ntmps140
 go_wp2_with (first
  |refine Zj rfl 39 rfl _ Zv ?_)
 go_loopg [22] s.size (fun g s22 wr=> ∃k:Nat,k+g=s.size/\s22= .int .i64 k/\Row wr w.heap.size (Zc 0) 39/\Row wr (w.heap.size+1) (Zc (WR s.data.toList%2^(8*k))) 39/\Below w.heap.size w wr)
 case atStart=>exact⟨0,by omega,rfl,Row.one rfl,by rw[show WR s.data.toList%2^(8*0)=0 by simp[Nat.mod_one]];exact Row.here (by simp),Ye _ _⟩
 case round=>
  obtain⟨k,hk,rfl,r0,r1,hb⟩:=hrel;have hle:=HH.out
  cases gk with
  |zero=>
   obtain rfl:k=s.size:=by omega
   rw[Nat.mod_eq_of_lt (show WR s.data.toList<2^(8*s.size)from Lf s.data.toList)]at r1;clear hk;have hx: ¬((s.size:Int)<s.size):=by omega
   go_wp2_with (first
    |refine Zh rfl 39 _ rfl _ rfl r1 4 _ underlying39 (by exact Ze) ?_
    |refine Zw rfl 39 _ _ rfl _ _ rfl rfl r0 (by exact Ze) (by simp only[Zt]) (ZA _) ?_)
   exact Yl rfl _ rfl (r0.setRow _) 4 _ underlying39 (by exact Ze) rfl _ rfl ⟨rfl,Zy hb (by omega) _⟩
  |succ g=>
   have hlt:(k:Int)<s.size:=by omega
   have hc1:=ZV r1 (k/8) (by omega);have hf1:=r1.frozen (k/8);have HV:=J9 s.data.toList k (by show k<s.size;omega);obtain⟨i,hi,hik,HW⟩: ∃i:Nat,∃hi:i<s.size,(s.size:Int)-1-k=i/\Aside (byt (WR s.data.toList) k=(s[i]'hi).toNat):=⟨s.size-1-k,by omega,by omega,HV⟩
   have hi':(i:Int)<s.size:=by omega
   have R:Aside (Row wr w.heap.size (Zc 0) 39/\Row wr (w.heap.size+1) (Zc (WR s.data.toList%2^(8*k))) 39/\Below w.heap.size w wr):=⟨r0,r1,hb⟩;clear r0 r1 hb HV;go_wp2
   go_region
   go_wp2;obtain⟨r0,r1,hb⟩:=R.out;have hw:=HW.out
   go_roundg g
   case measure=>omega
   case rel=>
    refine⟨k+1,by omega,by go_num,(r0.setCell_far _ _ _ (by omega)).drew,?_,(Z3 hb (by omega) _ _).drew⟩;have:=(r1.setCell (k/8) (.int .u64 ((lm (WR s.data.toList%2^(8*k)) (k/8)|||byt (WR s.data.toList) k*2^(k%8*8):Nat):Int))).drew;rw[Lg _ k _ (by omega) rfl]at this;rw[<-hw,FP _ _ _ (Xz _ _) (Nat.lt_of_lt_of_le (Lc _ _) (by decide)) (OQ _ _)];exact this
theorem Qu (s:ByteArray)(w:World)(h:s.size=0):
  Calls prog 140 #[.string s] w fun e w'=>e= .returned (.tuple #[.agg (Zc 0),.int .i64 0])/\Below w.heap.size w w':=by
 have h':(s.size:Int)=0:=by omega
 go_enter func140,ntmps140
 go_wp2_with (first
  |refine Zj rfl 39 rfl _ Zv ?_)
 go_loopg [22] 0 (fun _ s22 wr=>s22= .int .i64 0/\Row wr w.heap.size (Zc 0) 39/\Row wr (w.heap.size+1) (Zc 0) 39/\Below w.heap.size w wr)
 case atStart=>exact⟨rfl,Row.one rfl,Row.here (by simp),Ye _ _⟩
 case round=>
  obtain⟨rfl,r0,r1,hb⟩:=hrel
  go_wp2_with (first
   |refine Zh rfl 39 _ rfl _ rfl r1 4 _ underlying39 (by exact Ze) ?_
   |refine Zw rfl 39 _ _ rfl _ _ rfl rfl r0 (by exact Ze) (by simp only[Zt]) (ZA _) ?_)
  exact Yl rfl _ rfl (r0.setRow _) 4 _ underlying39 (by exact Ze) rfl _ rfl ⟨rfl,Zy hb (by omega) _⟩
def OU (s:ByteArray):Nat:=if Ia s=true then 0 else WR s.data.toList
def OV (s:ByteArray):Int:=if Ia s=true then 4 else 0
theorem OW (s:ByteArray):(32<s.size/\Ia s=true)∨(s.size=0/\Ia s=false)∨(s.size<=32/\ ∃h:0<s.size,(s[0]=0/\Ia s=true)∨(s[0]≠0/\Ia s=false)):=by
 unfold Ia;by_cases h1:32<s.size
 ·exact .inl ⟨h1,by rw[decide_eq_true h1];rfl⟩
 ·by_cases h2:0<s.size
  ·refine .inr (.inr ⟨by omega,h2,?_⟩)
   have hg:s.data.toList[0]?=some s[0]:=by
    rw[Array.getElem?_toList];exact Array.getElem?_eq_getElem h2
   rw[decide_eq_false h1,decide_eq_true h2,hg];by_cases h3:s[0]=0
   ·exact .inl ⟨h3,by rw[h3];rfl⟩
   ·exact .inr ⟨h3,by simp[h3]⟩
  ·exact .inr (.inl ⟨by omega,by rw[decide_eq_false h1,decide_eq_false h2];rfl⟩)
theorem Rs (s:ByteArray)(w:World):
  Calls prog 140 #[.string s] w (Rt (.tuple #[.agg (Zc (OU s)),.int .i64 (OV s)]) w):=by
 unfold OU OV;rcases OW s with ⟨h1,hb⟩|⟨h1,hb⟩|⟨h1,h2,⟨h3,hb⟩|⟨h3,hb⟩⟩
 ·rw[if_pos hb,if_pos hb];exact OR s w h1
 ·rw[if_neg (by rw[hb];decide),if_neg (by rw[hb];decide),show WR s.data.toList=0 by
   have:s.data.toList=[]:=List.length_eq_zero_iff.1 h1
   rw[this];rfl]
  exact Qu s w h1
 ·rw[if_pos hb,if_pos hb];exact Rq s w h1 h2 h3
 ·rw[if_neg (by rw[hb];decide),if_neg (by rw[hb];decide)];exact OS s w h1 h2 h3
theorem Ib:(prog.info? 296).map (fun i=>(i.zero,i.size))=some (some (.agg (VU 0)),32):=by kernel_rfl
theorem Ic (w:World):(zeroValue 296).run prog w= .ok (.agg (VU 0)) w:=(zero_of_info Ib).1 w
theorem PI {w:World}{b N:Nat}(h:Row w b (VU N) 296)(i:Nat)(hi:i<32):w.cell? ⟨b,i,none⟩=some (.int .u8 (byt N (31-i))):=by rw[h.cell];exact UI _ _ hi
theorem Qv:prog.underlying 122=some (.slice 5):=underlying122
def Hp (n:Nat):Nat:=if n=0 then 0 else 32-n
theorem UZ {o:Oper}{ρ:Operand->Value}(x lo:Operand)(ho:o.op= .slice 296 x (some lo) none none)(b n:Nat)(hx:ρ x= .pointer (some ⟨b,0,none⟩))(l:Int)(hl:ρ lo= .int .i64 l)
  (hn:n<=32)(hle:l=32-n)(w:World):(execOp ρ o).run prog w= .ok (.value (.slice (some ⟨b,Hp n,none⟩) n n)) w:=by
 have hr:=run_sliceAt_array_l (P:=prog) w 296 ⟨b,0,none⟩ (by kernel_rfl) .i64 l (by omega) (by rw[show prog.arrayLen 296=32 from by kernel_rfl];omega);unfold execOp;simp only[ho,hx,hl,Option.map_some,Option.map_none,Sem.run_bind];rw[hr,show prog.elem 296=5 from by kernel_rfl,sizeOf5,show prog.arrayLen 296=32 from by kernel_rfl];subst hle;have e:((32:Int)-n).toNat=32-n:=by omega
 rw[e];unfold slicedAt Hp;by_cases h0:n=0
 ·subst h0;rfl
 ·simp only[Result.andThen_ok,Sem.run_pure];rw[if_neg (show ¬32=32-n by omega),if_neg h0,show 32-(32-n)=n by omega]
  have ha:(⟨b,0,none⟩:Addr).add ((32-n)*1)=⟨b,32-n,none⟩:=by unfold Addr.add;split<;>simp_all
  rw[ha]
theorem UJ {o:Oper}{ρ:Operand->Value}(x:Operand)(ho:o.op= .convert 122 9 x)(b n A:Nat)(hx:ρ x= .slice (some ⟨b,Hp n,none⟩) n n)(hn:n<=32)(w:World)
  (hr:Row w b (VU A) 296):(execOp ρ o).run prog w= .ok (.value (.string ⟨(Wd A n).toArray⟩)) w:=by
 unfold execOp;simp only[ho,hx,Sem.run_bind]
 have h:=run_convert_bytes_back (P:=prog) w 122 9 5 ⟨b,Hp n,none⟩ n (Wd A n) Qv underlying5 underlying9 (fun j hj=>by
  have hj':j<n:=by rw[XJ]at hj;exact hj
  have ha:(⟨b,Hp n,none⟩:Addr).add j=⟨b,Hp n+j,none⟩:=by unfold Addr.add;split<;>simp_all
  rw[ha,show Hp n+j=32-n+j by unfold Hp;rw[if_neg (by omega)],PI hr _ (by omega)]
  rw[OP,UInt8.toNat_ofNat_of_lt' (Lc _ _),show 31-(32-n+j)=n-1-j by omega])
 rw[XJ]at h;rw[h];rfl
theorem OX (A:Nat)(w:World)(hA:A<2^256):
  Calls prog 221 #[.agg (Zc A)] w fun e w'=>e= .returned (.string (Le A))/\Below w.heap.size w w':=by
 have HA:Hid (A<2^256):=hA;clear hA
 go_enter func221,ntmps221
 go_wp2_with (first
  |refine Zr rfl 39 _ rfl _ rfl ?_
  |refine Zj rfl 296 rfl _ Ic ?_)
 go_loopg [6] 32 (fun g s6 wr=> ∃k:Nat,k+g=32/\s6= .int .i64 k/\Row wr w.heap.size (Zc A) 39/\Row wr (w.heap.size+1) (VU (A%2^(8*k))) 296/\Below w.heap.size w wr)
 case atStart=>exact⟨0,by omega,rfl,Row.one rfl,by rw[show A%2^(8*0)=0 by simp[Nat.mod_one]];exact Row.here (by simp),Ye _ _⟩
 case round=>
  obtain⟨k,hk,rfl,r0,r1,hb⟩:=hrel
  cases gk with
  |zero=>
   obtain rfl:k=32:=by omega
   rw[show A%2^(8*32)=A from Nat.mod_eq_of_lt HA.out]at r1;clear hk;have hx: ¬((32:Int)<32):=by omega
   have hn:bitLen A<=256:=Ro A 256 HA.out;have hn':(bitLen A:Int)<=256:=by omega
   go_wp2_with (first
    |refine Zh rfl 39 _ rfl _ rfl r0 4 _ underlying39 (by exact Ze) ?_
    |(go_at_call 82;refine(XW _ _ HA.out).mono ?_;rintro e w2 ⟨rfl,hb2⟩;have r5:=r1.belowAll hb2;have b5:=Zk hb (Nat.le_refl _) hb2;clear hb2)
    |refine ZK rfl _ (UZ _ _ rfl (w.heap.size+1) (need A) rfl _ rfl (T8 A HA.out) (by have:=HA.out;unfold need;omega) _) ?_
    |refine ZK rfl _ (UJ _ rfl (w.heap.size+1) (need A) A rfl (T8 A HA.out) _ r5) ?_)
   go_ret;exact⟨rfl,b5⟩
  |succ g=>
   have hlt:(k:Int)<32:=by omega
   have hk8:k/8<4:=by omega
   have hc0:=ZV r0 (k/8) (by omega);have hc1:=PI r1 (31-k) (by omega);have hf1:=r1.frozen (31-k);have hlm:=Xz A (k/8);have hsub:((31:Int)-k).toNat=31-k:=by omega
   have R:Aside (Row wr w.heap.size (Zc A) 39/\Row wr (w.heap.size+1) (VU (A%2^(8*k))) 296/\Below w.heap.size w wr):=⟨r0,r1,hb⟩;clear r0 r1 hb;go_wp2;obtain⟨r0,r1,hb⟩:=R.out
   go_roundg g
   case measure=>omega
   case rel=>
    refine⟨k+1,by omega,by go_num,r0.setCell_far _ _ _ (by omega),?_,Z3 hb (by omega) _ _⟩;have:=r1.setCell (31-k) (.int .u8 (byt A k:Nat));rw[ON A k _ (by omega) rfl]at this;rw[show((lm A (k/8):Int)/2^(k%8*8)%256)=((byt A k:Nat):Int) by rw[<-DR];simp];exact this
def u8s (l:List UInt8):List Value:=l.map fun b=>.int .u8 (b.toNat:Int)
def xmN (A:Nat):List UInt8:=UInt8.ofNat (need A)::Wd A (need A)
def xmT (G:Nat->Nat):Nat->List UInt8
 |0=>[]
 |t+1=>xmT G t++xmN (G t)
def xmL (n k:Nat)(G:Nat->Nat):List UInt8:=UInt8.ofNat n::UInt8.ofNat k::xmT G (n*k)
structure XmV (n k:Nat)(G:Nat->Nat):Prop where
 n1:1<=n
 n2:n<=25
 k1:1<=k
 k2:k<=7
 lt: ∀t,t<n*k->G t<2^256
def tkN:List UInt8->Option (Nat×List UInt8)
 |[]=>none
 |b::r=>if r.length<b.toNat then none else if OV ⟨(r.take b.toNat).toArray⟩=0 then some (OU ⟨(r.take b.toNat).toArray⟩,r.drop b.toNat)else none
theorem OY (A:Nat):(xmN A).length=need A+1:=by simp[xmN,XJ]
theorem Ti {G:Nat->Nat}: ∀{t:Nat},(∀i,i<t->G i<2^256)->(xmT G t).length<=33*t
 |0,_=>Nat.le_refl _
 |t+1,h=>by
  have h1:=Ti (fun i hi=>h i (Nat.lt_succ_of_lt hi));have h2:=T8 (G t) (h t (by omega));rw[xmT,List.length_append,OY];omega
theorem DS {k j:Nat}(i:Nat)(h:j<k):(i*k+j)/k=i:=by
 rw[Nat.add_comm,Nat.add_mul_div_right _ _ (by omega),Nat.div_eq_of_lt h,Nat.zero_add]
theorem DT {k j:Nat}(i:Nat)(h:j<k):(i*k+j)%k=j:=by
 rw[Nat.add_comm,Nat.add_mul_mod_self_right,Nat.mod_eq_of_lt h]
theorem BG {n k i j:Nat}(hi:i<n)(hj:j<k):i*k+j<n*k:=
 Nat.lt_of_lt_of_le (by rw[Nat.add_comm];exact Nat.add_lt_add_right hj _) (by rw[Nat.add_comm,<-Nat.succ_mul];exact Nat.mul_le_mul_right _ hi)
open Go.ChangeShapes Go.WideShapes Go.ChangeAt Go.RowKit
theorem own:ownKnob prog.godebug=none:=by kernel_rfl
theorem UK:laidOutB prog=true:=by kernel_rfl
theorem Wf {H:Type}{enc:TypeId×Value->H}{W:World}{t:TypeId}{v:Value}{d:DataW H}{p:List MemPlace}(h:DataW.Trod enc prog W 0 (fun _=>true) true t v d p): ∀x∈p,x.block<W.heap.size:=by
 obtain⟨m,hm⟩:=h;exact DataW.trod_lt m _ _ _ hm
open Go.ChangeShapes Go.WideShapes Go.ChangeAt Go.RowKit
open Go.ChangeShapes Go.WideShapes Go.ChangeAt Go.RowKit
open Go.ChangeShapes Go.WideShapes Go.ChangeAt Go.RowKit
end Go.Proofs.YtcdahmommonnfaaGreatDoor
