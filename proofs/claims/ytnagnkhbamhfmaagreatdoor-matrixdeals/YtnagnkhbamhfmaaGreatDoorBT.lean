import Derived.Test.YtnagnkhbamhfmaaGreatDoorGD
set_option maxRecDepth 100000
set_option maxHeartbeats 8000000
namespace Go.Proofs.YtnagnkhbamhfmaaGreatDoor
set_option linter.all false
open Go.Proofs.Tryz
def byt (A k:Nat):Nat:=A/2^(8*k)%256
theorem S5 (A k:Nat):byt A k<256:=m_ _ (by decide)
theorem Sh (A k j:Nat):(byt A k).testBit j=(decide (j<8)&&A.testBit (8*k+j)):=by
 unfold byt;rw[show 256=2^8 from rfl,n_,aU0,bM0]
theorem zY (A k:Nat):lm A (k/8)/2^(k%8*8)%256=byt A k:=by
 apply y_;intro j;rw[Sh,show 256=2^8 from rfl,n_,aU0,ZP];by_cases hj:j<8
 ·rw[d_ hj,d_ (show j+k%8*8<64 by omega),show 64*(k/8)+(j+k%8*8)=8*k+j by omega];simp
 ·simp[hj]
theorem J9 (A k i:Nat):byt (A%2^(8*k)) i=if i<k then byt A i else 0:=by
 apply y_;intro j;rw[Sh,n_]
 split
 ·rw[Sh];by_cases hj:j<8
  ·simp[hj,show 8*i+j<8*k by omega]
  ·simp[hj]
 ·rw[Nat.zero_testBit];by_cases hj:j<8
  ·simp[show ¬8*i+j<8*k by omega]
  ·simp[hj]
def UZ (A:Nat):Array Value:=Array.ofFn (n:=32) fun i=>.int .u8 (byt A (31-i))
theorem UL (A:Nat):(UZ A).size=32:=by simp[UZ]
theorem Si (A i:Nat)(h:i<32):(UZ A)[i]?=some (.int .u8 (byt A (31-i))):=by simp[UZ,h]
theorem M5 (A k v:Nat)(hk:k<32)(hv:v=byt A k):(UZ (A%2^(8*k))).setIfInBounds (31-k) (.int .u8 v)=UZ (A%2^(8*(k+1))):=by
 subst hv;apply C_;intro i;by_cases hi:i<32
 ·rw[U_,Si (A%2^(8*(k+1))) i hi,J9];by_cases e:31-k=i
  ·rw[j_ e,j_ (by rw[UL];omega),j_ (by omega),show 31-i=k by omega]
  ·rw[i_ e,Si _ i hi,J9];by_cases h:31-i<k
   ·rw[j_ h,j_ (by omega)]
   ·rw[i_ h,i_ (by omega)]
 ·rw[h_ (by simp[UL];omega),h_ (by rw[UL];omega)]
def YW (A n:Nat):List UInt8:=(List.range n).map fun i=>UInt8.ofNat (byt A (n-1-i))
theorem Yd (A n:Nat):(YW A n).length=n:=by simp[YW]
theorem Vz (A n j:Nat)(h:j<(YW A n).length):(YW A n)[j]=UInt8.ofNat (byt A (n-1-j)):=by simp[YW]
def need (A:Nat):Nat:=(bitLen A+7)/8
theorem Sj (A n:Nat)(h:A<2^n):bitLen A<=n:=by
 unfold bitLen
 split
 ·omega
 ·rename_i h0
  have:=(hB0 h0).2 h;omega
theorem UM (A:Nat)(h:A<2^256):need A<=32:=by
 have:=Sj A 256 h;unfold need;omega
def XI (A:Nat):ByteArray:=⟨(YW A (need A)).toArray⟩
theorem NO {P:List UInt8->Prop}(h0:P [])(h1: ∀l b,P l->P (l++[b]))(l:List UInt8):P l:=by
 have h: ∀m:List UInt8,P m.reverse:=by
  intro m
  induction m with
  |nil=>exact h0
  |cons b m ih=>rw[List.reverse_cons];exact h1 _ _ ih
 have:=h l.reverse
 rwa [List.reverse_reverse]at this
def Th (l:List UInt8):Nat:=l.foldl (fun n b=>n*256+b.toNat) 0
theorem Ph (l:List UInt8)(b:UInt8):Th (l++[b])=Th l*256+b.toNat:=by simp[Th,List.foldl_append]
theorem Sk (l:List UInt8):Th l<2^(8*l.length):=by
 refine NO (P:=fun l=>Th l<2^(8*l.length)) ?_ ?_ l
 ·simp[Th]
 ·intro l b ih;rw[Ph,bC0,List.length_singleton,show 8*(l.length+1)=8*l.length+8 by omega,Z_];have:=UInt8.toNat_lt b;omega
theorem FB (x b:Nat)(h:b<256):byt (x*256+b) 0=b:=by
 unfold byt;rw[show 8*0=0 from rfl,W_,bR0];omega
theorem FC (x b k:Nat)(h:b<256):byt (x*256+b) (k+1)=byt x k:=by
 unfold byt;rw[show 8*(k+1)=8+8*k by omega,Z_,<-v_,show(x*256+b)/2^8=x by omega]
theorem Ti (l:List UInt8): ∀(k:Nat) (hk:k<l.length),byt (Th l) k=(l[l.length-1-k]'(by omega)).toNat:=by
 refine NO (P:=fun l=> ∀(k:Nat) (hk:k<l.length),byt (Th l) k=(l[l.length-1-k]'(by omega)).toNat) ?_ ?_ l
 ·intro k hk;simp at hk
 ·intro l b ih k hk;rw[bC0,List.length_singleton]at hk;have hb:=UInt8.toNat_lt b;rw[Ph]
  cases k with
  |zero=>
   rw[FB _ _ hb];simp
  |succ k=>
   rw[FC _ _ _ hb,ih k (by omega)]
   congr 1
   rw[List.getElem_append_left (by simp;omega)]
   congr 1
   simp;omega
theorem Ia (N k v:Nat)(hk:k<32)(hv:v=lm (N%2^(8*k)) (k/8)|||byt N k*2^(k%8*8)):(Zc (N%2^(8*k))).setIfInBounds (k/8) (.int .u64 v)=Zc (N%2^(8*(k+1))):=by
 subst hv;refine WB _ _ _ _ (by omega) ?_ ?_
 ·apply y_;intro j;rw[cI0,ZP,ZP,n_,n_,t_ (byt N k),fW0,Sh];by_cases hj:j<64
  ·by_cases h1:64*(k/8)+j<8*k
   ·rw[d_ hj,d_ h1,d_ (show 64*(k/8)+j<8*(k+1) by omega),e_ (show ¬j>=k%8*8 by omega)];simp
   ·by_cases h2:64*(k/8)+j<8*(k+1)
    ·rw[d_ hj,e_ h1,d_ h2,d_ (show j>=k%8*8 by omega),d_ (show j-k%8*8<8 by omega),show 8*k+(j-k%8*8)=64*(k/8)+j by omega];simp
    ·rw[d_ hj,e_ h1,e_ h2,e_ (show ¬j-k%8*8<8 by omega)];simp
  ·rw[e_ hj,e_ (show ¬j-k%8*8<8 by omega)];simp
 ·intro i _ hne;apply y_;intro j;rw[ZP,ZP,n_,n_];by_cases hj:j<64
  ·by_cases h1:64*i+j<8*k
   ·rw[d_ h1,d_ (show 64*i+j<8*(k+1) by omega)]
   ·rw[e_ h1,e_ (show ¬64*i+j<8*(k+1) by omega)]
  ·rw[e_ hj,bI0,bI0]
theorem M6 (N k:Nat):byt N k*2^(k%8*8)<18446744073709551616:=by
 have h1:=S5 N k;have h2:2^(k%8*8)<=2^56:=aF0 (by decide) (by omega);have h3:byt N k*2^(k%8*8)<=255*2^56:=L_ (by omega) h2;exact T_ h3 (by decide)
theorem BQ (L b m:Nat)(hL:L<18446744073709551616)(hb:b<18446744073709551616)(hm:b*2^m<18446744073709551616):
  bits .or .u64 (L:Int) (IntKind.u64.wrap (IntKind.u64.wrap (b:Int)*2^m))=((L|||b*2^m:Nat):Int):=by
 rw[wrap_u64 b hb,show((b:Int)*2^m)=((b*2^m:Nat):Int) by simp,wrap_u64 _ hm,gY0 _ _ hL hm]
open Go.RowKit
def IS (s:ByteArray):Bool:=decide (32<s.size)||(decide (0<s.size)&&(s.data.toList[0]?==some 0))
theorem M7 (s:ByteArray)(w:World)(h:32<s.size):
  Calls prog 121 #[.string s] w fun e w'=>e= .returned (.tuple #[.agg (Zc 0),.int .i64 4])/\Below w.heap.size w w':=by
 have h':(32:Int)<s.size:=by omega
 have rR:=Row.new w (Zc 0) 57
 go_enter func121,ntmps121
 go_wp2_with (first
  |refine Zg rfl 57 rfl _ Zp ?_
  |refine Zv rfl 57 rfl _ ZA ?_
  |refine Zr rfl 57 _ _ rfl _ _ rfl rfl rR (by exact Zd) (by simp only[Zo]) (Zu _) ?_)
 exact Z9 rfl _ rfl (rR.setRow _) 4 _ b_ (by exact Zd) rfl _ rfl ⟨rfl,Zq (Z6 _) (by omega) _⟩
theorem Pi (s:ByteArray)(w:World)(h:s.size<=32)(h0:0<s.size)(hz:s[0]=0):
  Calls prog 121 #[.string s] w fun e w'=>e= .returned (.tuple #[.agg (Zc 0),.int .i64 4])/\Below w.heap.size w w':=by
 have h': ¬(32:Int)<s.size:=by omega
 have h0':(0:Int)<s.size:=by omega
 have hz':(s[0].toNat:Int)=0:=by rw[hz];rfl
 have rR:=Row.new w (Zc 0) 57;clear h hz
 go_enter func121,ntmps121
 go_wp2_with (first
  |refine Zg rfl 57 rfl _ Zp ?_
  |refine Zv rfl 57 rfl _ ZA ?_
  |refine Zr rfl 57 _ _ rfl _ _ rfl rfl rR (by exact Zd) (by simp only[Zo]) (Zu _) ?_)
 exact Z9 rfl _ rfl (rR.setRow _) 4 _ b_ (by exact Zd) rfl _ rfl ⟨rfl,Zq (Z6 _) (by omega) _⟩
theorem M8 (s:ByteArray)(w:World)(h:s.size<=32)(h0:0<s.size)(hz:s[0]≠0):
  Calls prog 121 #[.string s] w fun e w'=>e= .returned (.tuple #[.agg (Zc (Th s.data.toList)),.int .i64 0])/\Below w.heap.size w w':=by
 have h': ¬(32:Int)<s.size:=by omega
 have h0':(0:Int)<s.size:=by omega
 have hz':((s[0].toNat:Int)==0)=false:=by
  rw[beq_eq_false_iff_ne];intro e;exact hz (UInt8.toNat_inj.1 (by simpa using e))
 have HH:Hid (s.size<=32):=h;clear h hz
 go_enter func121,ntmps121
 go_wp2_with (first
  |refine Zg rfl 57 rfl _ Zp ?_)
 go_loopg [22] s.size (fun g s22 wr=> ∃k:Nat,k+g=s.size/\s22= .int .i64 k/\Row wr w.heap.size (Zc 0) 57/\Row wr (w.heap.size+1) (Zc (Th s.data.toList%2^(8*k))) 57/\Below w.heap.size w wr)
 case atStart=>exact⟨0,by omega,rfl,Row.one rfl,by rw[show Th s.data.toList%2^(8*0)=0 by simp[aP0]];exact Row.here (by simp),Z1 _ _⟩
 case round=>
  obtain⟨k,hk,rfl,r0,r1,hb⟩:=hrel;have hle:=HH.out
  cases gk with
  |zero=>
   obtain rfl:k=s.size:=by omega
   rw[g_ (show Th s.data.toList<2^(8*s.size)from Sk s.data.toList)]at r1;clear hk;have hx: ¬((s.size:Int)<s.size):=by omega
   go_wp2_with (first
    |refine Zj rfl 57 _ rfl _ rfl r1 4 _ b_ (by exact Zd) ?_
    |refine Zr rfl 57 _ _ rfl _ _ rfl rfl r0 (by exact Zd) (by simp only[Zo]) (Zu _) ?_)
   exact Z9 rfl _ rfl (r0.setRow _) 4 _ b_ (by exact Zd) rfl _ rfl ⟨rfl,Zq hb (by omega) _⟩
  |succ g=>
   have hlt:(k:Int)<s.size:=by omega
   have hc1:=ZV r1 (k/8) (by omega);have hf1:=r1.frozen (k/8);have HV:=Ti s.data.toList k (by show k<s.size;omega);obtain⟨i,hi,hik,HW⟩: ∃i:Nat,∃hi:i<s.size,(s.size:Int)-1-k=i/\Aside (byt (Th s.data.toList) k=(s[i]'hi).toNat):=⟨s.size-1-k,by omega,by omega,HV⟩
   have hi':(i:Int)<s.size:=by omega
   have R:Aside (Row wr w.heap.size (Zc 0) 57/\Row wr (w.heap.size+1) (Zc (Th s.data.toList%2^(8*k))) 57/\Below w.heap.size w wr):=⟨r0,r1,hb⟩;clear r0 r1 hb HV;go_wp2
   go_region
   go_wp2;obtain⟨r0,r1,hb⟩:=R.out;have hw:=HW.out
   go_roundg g
   case measure=>omega
   case rel=>
    refine⟨k+1,by omega,by go_num,(r0.setCell_far _ _ _ (by omega)).drew,?_,(ZN hb (by omega) _ _).drew⟩;have:=(r1.setCell (k/8) (.int .u64 ((lm (Th s.data.toList%2^(8*k)) (k/8)|||byt (Th s.data.toList) k*2^(k%8*8):Nat):Int))).drew;rw[Ia _ k _ (by omega) rfl]at this;rw[<-hw,BQ _ _ _ (Xj _ _) (l_ (S5 _ _) (by decide)) (M6 _ _)];exact this
theorem OG (s:ByteArray)(w:World)(h:s.size=0):
  Calls prog 121 #[.string s] w fun e w'=>e= .returned (.tuple #[.agg (Zc 0),.int .i64 0])/\Below w.heap.size w w':=by
 have h':(s.size:Int)=0:=by omega
 go_enter func121,ntmps121
 go_wp2_with (first
  |refine Zg rfl 57 rfl _ Zp ?_)
 go_loopg [22] 0 (fun _ s22 wr=>s22= .int .i64 0/\Row wr w.heap.size (Zc 0) 57/\Row wr (w.heap.size+1) (Zc 0) 57/\Below w.heap.size w wr)
 case atStart=>exact⟨rfl,Row.one rfl,Row.here (by simp),Z1 _ _⟩
 case round=>
  obtain⟨rfl,r0,r1,hb⟩:=hrel
  go_wp2_with (first
   |refine Zj rfl 57 _ rfl _ rfl r1 4 _ b_ (by exact Zd) ?_
   |refine Zr rfl 57 _ _ rfl _ _ rfl rfl r0 (by exact Zd) (by simp only[Zo]) (Zu _) ?_)
  exact Z9 rfl _ rfl (r0.setRow _) 4 _ b_ (by exact Zd) rfl _ rfl ⟨rfl,Zq hb (by omega) _⟩
def VB (s:ByteArray):Nat:=if IS s=true then 0 else Th s.data.toList
def V0 (s:ByteArray):Int:=if IS s=true then 4 else 0
theorem VA (s:ByteArray):(32<s.size/\IS s=true)∨(s.size=0/\IS s=false)∨(s.size<=32/\ ∃h:0<s.size,(s[0]=0/\IS s=true)∨(s[0]≠0/\IS s=false)):=by
 unfold IS;by_cases h1:32<s.size
 ·exact .inl ⟨h1,by rw[d_ h1];rfl⟩
 ·by_cases h2:0<s.size
  ·refine .inr (.inr ⟨by omega,h2,?_⟩)
   have hg:s.data.toList[0]?=some s[0]:=by
    rw[o_];exact S_ h2
   rw[e_ h1,d_ h2,hg];by_cases h3:s[0]=0
   ·exact .inl ⟨h3,by rw[h3];rfl⟩
   ·exact .inr ⟨h3,by simp[h3]⟩
  ·exact .inr (.inl ⟨by omega,by rw[e_ h1,e_ h2];rfl⟩)
theorem Ib (s:ByteArray)(w:World):
  Calls prog 121 #[.string s] w (Rt (.tuple #[.agg (Zc (VB s)),.int .i64 (V0 s)]) w):=by
 unfold VB V0;rcases VA s with ⟨h1,hb⟩|⟨h1,hb⟩|⟨h1,h2,⟨h3,hb⟩|⟨h3,hb⟩⟩
 ·rw[j_ hb,j_ hb];exact M7 s w h1
 ·rw[i_ (by rw[hb];decide),i_ (by rw[hb];decide),show Th s.data.toList=0 by
   have:s.data.toList=[]:=gA0.1 h1
   rw[this];rfl]
  exact OG s w h1
 ·rw[j_ hb,j_ hb];exact Pi s w h1 h2 h3
 ·rw[i_ (by rw[hb];decide),i_ (by rw[hb];decide)];exact M8 s w h1 h2 h3
theorem FD:(prog.info? 164).map (fun i=>(i.zero,i.size))=some (some (.agg (UZ 0)),32):=by kernel_rfl
theorem FE (w:World):(zeroValue 164).run prog w= .ok (.agg (UZ 0)) w:=(Q_ FD).1 w
theorem NP {w:World}{b N:Nat}(h:Row w b (UZ N) 164)(i:Nat)(hi:i<32):w.cell? ⟨b,i,none⟩=some (.int .u8 (byt N (31-i))):=by rw[h.cell];exact Si _ _ hi
theorem OH:prog.underlying 118=some (.slice 5):=dG0
def De (n:Nat):Nat:=if n=0 then 0 else 32-n
theorem SC {o:Oper}{ρ:Operand->Value}(x lo:Operand)(ho:o.op= .slice 164 x (some lo) none none)(b n:Nat)(hx:ρ x= .pointer (some ⟨b,0,none⟩))(l:Int)(hl:ρ lo= .int .i64 l)
  (hn:n<=32)(hle:l=32-n)(w:World):(execOp ρ o).run prog w= .ok (.value (.slice (some ⟨b,De n,none⟩) n n)) w:=by
 have hr:=run_sliceAt_array_l (P:=prog) w 164 ⟨b,0,none⟩ (by kernel_rfl) .i64 l (by omega) (by rw[show prog.arrayLen 164=32 from by kernel_rfl];omega);unfold execOp;simp only[ho,hx,hl,aS0,dO0,p_];rw[hr,show prog.elem 164=5 from by kernel_rfl,fG0,show prog.arrayLen 164=32 from by kernel_rfl];subst hle;have e:((32:Int)-n).toNat=32-n:=by omega
 rw[e];unfold slicedAt De;by_cases h0:n=0
 ·subst h0;rfl
 ·simp only[k_,Y_];rw[i_ (show ¬32=32-n by omega),i_ h0,show 32-(32-n)=n by omega]
  have ha:(⟨b,0,none⟩:Addr).add ((32-n)*1)=⟨b,32-n,none⟩:=by unfold Addr.add;split<;>simp_all
  rw[ha]
theorem Sl {o:Oper}{ρ:Operand->Value}(x:Operand)(ho:o.op= .convert 118 9 x)(b n A:Nat)(hx:ρ x= .slice (some ⟨b,De n,none⟩) n n)(hn:n<=32)(w:World)
  (hr:Row w b (UZ A) 164):(execOp ρ o).run prog w= .ok (.value (.string ⟨(YW A n).toArray⟩)) w:=by
 unfold execOp;simp only[ho,hx,p_]
 have h:=run_convert_bytes_back (P:=prog) w 118 9 5 ⟨b,De n,none⟩ n (YW A n) OH bX0 N_ (fun j hj=>by
  have hj':j<n:=by rw[Yd]at hj;exact hj
  have ha:(⟨b,De n,none⟩:Addr).add j=⟨b,De n+j,none⟩:=by unfold Addr.add;split<;>simp_all
  rw[ha,show De n+j=32-n+j by unfold De;rw[i_ (by omega)],NP hr _ (by omega)]
  rw[Vz,cS0 (S5 _ _),show 31-(32-n+j)=n-1-j by omega])
 rw[Yd]at h;rw[h];rfl
theorem M9 (A:Nat)(w:World)(hA:A<2^256):
  Calls prog 71 #[.agg (Zc A)] w fun e w'=>e= .returned (.string (XI A))/\Below w.heap.size w w':=by
 have HA:Hid (A<2^256):=hA;clear hA
 go_enter func71,ntmps71
 go_wp2_with (first
  |refine Zl rfl 57 _ rfl _ rfl ?_
  |refine Zg rfl 164 rfl _ FE ?_)
 go_loopg [6] 32 (fun g s6 wr=> ∃k:Nat,k+g=32/\s6= .int .i64 k/\Row wr w.heap.size (Zc A) 57/\Row wr (w.heap.size+1) (UZ (A%2^(8*k))) 164/\Below w.heap.size w wr)
 case atStart=>exact⟨0,by omega,rfl,Row.one rfl,by rw[show A%2^(8*0)=0 by simp[aP0]];exact Row.here (by simp),Z1 _ _⟩
 case round=>
  obtain⟨k,hk,rfl,r0,r1,hb⟩:=hrel
  cases gk with
  |zero=>
   obtain rfl:k=32:=by omega
   rw[show A%2^(8*32)=A from g_ HA.out]at r1;clear hk;have hx: ¬((32:Int)<32):=by omega
   have hn:bitLen A<=256:=Sj A 256 HA.out;have hn':(bitLen A:Int)<=256:=by omega
   go_wp2_with (first
    |refine Zj rfl 57 _ rfl _ rfl r0 4 _ b_ (by exact Zd) ?_
    |(go_at_call 111;refine(Vq _ _ HA.out).mono ?_;rintro e w2 ⟨rfl,hb2⟩;have r5:=r1.belowAll hb2;have b5:=Zk hb (c_ _) hb2;clear hb2)
    |refine Zy rfl _ (SC _ _ rfl (w.heap.size+1) (need A) rfl _ rfl (UM A HA.out) (by have:=HA.out;unfold need;omega) _) ?_
    |refine Zy rfl _ (Sl _ rfl (w.heap.size+1) (need A) A rfl (UM A HA.out) _ r5) ?_)
   go_ret;exact⟨rfl,b5⟩
  |succ g=>
   have hlt:(k:Int)<32:=by omega
   have hk8:k/8<4:=by omega
   have hc0:=ZV r0 (k/8) (by omega);have hc1:=NP r1 (31-k) (by omega);have hf1:=r1.frozen (31-k);have hlm:=Xj A (k/8);have hsub:((31:Int)-k).toNat=31-k:=by omega
   have R:Aside (Row wr w.heap.size (Zc A) 57/\Row wr (w.heap.size+1) (UZ (A%2^(8*k))) 164/\Below w.heap.size w wr):=⟨r0,r1,hb⟩;clear r0 r1 hb;go_wp2;obtain⟨r0,r1,hb⟩:=R.out
   go_roundg g
   case measure=>omega
   case rel=>
    refine⟨k+1,by omega,by go_num,r0.setCell_far _ _ _ (by omega),?_,ZN hb (by omega) _ _⟩;have:=r1.setCell (31-k) (.int .u8 (byt A k:Nat));rw[M5 A k _ (by omega) rfl]at this;rw[show((lm A (k/8):Int)/2^(k%8*8)%256)=((byt A k:Nat):Int) by rw[<-zY];simp];exact this
def u8s (l:List UInt8):List Value:=l.map fun b=>.int .u8 (b.toNat:Int)
theorem own_below {w w':World}{base:Nat}{e:TypeId}{size:Nat}{v:Value}{n:Nat}{xs:List Value}(h:w.ownsRow base e size v n xs)(hb:Below w.heap.size w w'):w'.ownsRow base e size v n xs:=by
 refine⟨h.1,?_⟩;rcases h.2 with hn|⟨g,cap,cur,rfl,hbs,hgg,rest⟩
 ·exact .inl hn
 ·exact .inr ⟨g,cap,cur,rfl,hbs,(hb.block g (O_.1 hgg).1).trans hgg,rest⟩
theorem Ic (A n:Nat)(h:2^n<=A):n<bitLen A:=by
 have h1:=(bitLen_spec A).1;exact(Nat.pow_lt_pow_iff_right (by decide:1<2)).1 (T_ h h1)
theorem Ie (A:Nat):A<2^(8*need A):=by
 refine l_ (bitLen_spec A).1 (aF0 (by decide) ?_);unfold need;omega
theorem If (A B n:Nat)(hA:A<2^(8*n))(hB:B<2^(8*n))(h: ∀k,k<n->byt A k=byt B k):A=B:=by
 apply y_;intro i;by_cases hi:i<8*n
 ·have h1:=cY0 (fun x=>Nat.testBit x (i%8)) (h (i/8) (by omega));simp only[Sh]at h1;rw[d_ (show i%8<8 by omega),bD0,bD0,show 8*(i/8)+i%8=i by omega]at h1;exact h1
 ·rw[eY0 (l_ hA (aF0 (by decide) (by omega))),eY0 (l_ hB (aF0 (by decide) (by omega)))]
theorem OI (A n:Nat)(hA:A<2^(8*n)):Th (YW A n)=A:=by
 have hl:=Sk (YW A n);rw[Yd]at hl;refine If _ _ n hl hA fun k hk=>?_
 rw[Ti (YW A n) k (by rw[Yd];exact hk),Vz,cS0 (S5 _ _),Yd,show n-1-(n-1-k)=k by omega]
theorem BR (A n:Nat)(h1:2^(8*n)<=A)(h2:A<2^(8*(n+1))):byt A n≠0:=by
 unfold byt;rw[g_ (aE0 (by rw[show 2^(8*n)*256=2^(8*(n+1)) by rw[show 8*(n+1)=8*n+8 by omega,Z_]];exact h2))];have:=(cO0 (w_ (8*n))).2 (show 1*2^(8*n)<=A by omega);omega
theorem BS (A:Nat)(h:0<need A):2^(8*(need A-1))<=A:=by
 have hs:=bitLen_spec A
 have h0:A≠0:=by
  intro e;subst e;have:need 0=0:=rfl;omega
 refine f_ (aF0 (by decide) ?_) (hs.2 h0);unfold need at*;omega
theorem UV (A:Nat):(XI A).size=need A:=Yd A (need A)
theorem OJ (A:Nat)(hA:A<2^256):IS (XI A)=false:=by
 have hn:=UM A hA;rcases VA (XI A)with ⟨h,_⟩|⟨_,h⟩|⟨_,h2,⟨h3,_⟩|⟨_,h⟩⟩
 ·rw[UV]at h;omega
 ·exact h
 ·rw[UV]at h2
  have hg:(XI A)[0]=UInt8.ofNat (byt A (need A-1)):=by
   have:=Vz A (need A) 0 (by rw[Yd];exact h2);exact this
  rw[hg]at h3;have h4:=cY0 UInt8.toNat h3;rw[cS0 (S5 _ _)]at h4;have h5:=BR A (need A-1) (BS A h2) (by rw[show need A-1+1=need A by omega];exact Ie A);exact absurd h4 h5
 ·exact h
theorem Pm (A:Nat)(hA:A<2^256):VB (XI A)=A/\V0 (XI A)=0:=by
 have hb:=OJ A hA;unfold VB V0;rw[hb];exact⟨OI A (need A) (Ie A),rfl⟩
theorem FF (s:ByteArray):VB s<2^256:=by
 unfold VB
 rcases VA s with ⟨_,hb⟩|⟨h1,hb⟩|⟨h1,_,⟨_,hb⟩|⟨_,hb⟩⟩<;>rw[hb]
 ·exact w_ _
 ·refine l_ (Sk s.data.toList) (aF0 (by decide) ?_);show 8*s.size<=256
  omega
 ·exact w_ _
 ·refine l_ (Sk s.data.toList) (aF0 (by decide) ?_);show 8*s.size<=256
  omega
theorem Ig (l:List UInt8)(h:l=[]∨ ∃h0:0<l.length,l[0]≠0):need (Th l)=l.length:=by
 rcases h with rfl|⟨h0,hne⟩
 ·rfl
 ·have hlt:=Sk l
  have hle:2^(8*(l.length-1))<=Th l:=by
   have hb:=Ti l (l.length-1) (by omega)
   have e:l[l.length-1-(l.length-1)]'(by omega)=l[0]:=by congr 1;omega
   rw[e]at hb
   have hn0:byt (Th l) (l.length-1)≠0:=by
    rw[hb];intro hz;exact hne (UInt8.toNat_inj.1 (by simpa using hz))
   refine eW0 fun hl=>hn0 ?_
   unfold byt;rw[F_ hl]
  have h1:=Ic _ _ hle;have h2:=Sj _ _ hlt;unfold need;omega
theorem OK (l:List UInt8):YW (Th l) l.length=l:=by
 apply List.ext_getElem
 ·rw[Yd]
 ·intro j h1 h2;rw[Vz];apply UInt8.toNat_inj.1;rw[cS0 (S5 _ _),Ti l (l.length-1-j) (by omega)]
  congr 2
  omega
theorem Lc (s:ByteArray)(h:V0 s=0):XI (VB s)=s:=by
 have hb:IS s=false:=by
  unfold V0 at h
  cases hq:IS s with
  |false=>rfl
  |true=>rw[hq]at h;exact absurd h (by decide)
 unfold VB XI;rw[hb,i_ (by decide)]
 have hl:need (Th s.data.toList)=s.data.toList.length:=by
  refine Ig _ ?_;rcases VA s with ⟨_,h2⟩|⟨h1,_⟩|⟨_,h0,⟨_,h2⟩|⟨h3,_⟩⟩
  ·rw[hb]at h2;cases h2
  ·exact .inl (gA0.1 h1)
  ·rw[hb]at h2;cases h2
  ·exact .inr ⟨h0,h3⟩
 rw[hl,OK]
def xmN (A:Nat):List UInt8:=UInt8.ofNat (need A)::YW A (need A)
def xmT (G:Nat->Nat):Nat->List UInt8
 |0=>[]
 |t+1=>xmT G t++xmN (G t)
def xmL (n k:Nat)(G:Nat->Nat):List UInt8:=UInt8.ofNat n::UInt8.ofNat k::xmT G (n*k)
structure XmV (n k:Nat)(G:Nat->Nat):Prop where
 n1:1<=n
 n2:n<=25
 k1:1<=k
 k2:k<=7
 lt: ∀t,t<n*k->G t<2^256
def tkN:List UInt8->Option (Nat×List UInt8)
 |[]=>none
 |b::r=>if r.length<b.toNat then none else if V0 ⟨(r.take b.toNat).toArray⟩=0 then some (VB ⟨(r.take b.toNat).toArray⟩,r.drop b.toNat)else none
theorem Ld (A:Nat):(xmN A).length=need A+1:=by simp[xmN,Yd]
theorem BT {A:Nat}(h:A<2^256):(UInt8.ofNat (need A)).toNat=need A:=by
 have:=UM A h;rw[gD0];exact g_ (by omega)
theorem OL {A:Nat}(h:A<2^256)(r:List UInt8):tkN (xmN A++r)=some (A,r):=by
 show(if(YW A (need A)++r).length<(UInt8.ofNat (need A)).toNat then none else if V0 ⟨((YW A (need A)++r).take (UInt8.ofNat (need A)).toNat).toArray⟩=0 then some (VB ⟨((YW A (need A)++r).take (UInt8.ofNat (need A)).toNat).toArray⟩,(YW A (need A)++r).drop (UInt8.ofNat (need A)).toNat)else none)=_
 rw[BT h];have hl:=Yd A (need A);rw[i_ (by rw[bC0,hl];omega)];have ht:(YW A (need A)++r).take (need A)=YW A (need A):=by rw[List.take_append_of_le_length (by omega),gI0 (by omega)]
 have hd:(YW A (need A)++r).drop (need A)=r:=by
  rw[List.drop_append,List.drop_of_length_le (by omega),hl,fR0];rfl
 rw[ht,hd];obtain⟨h1,h2⟩:=Pm A h;show(if V0 (XI A)=0 then some (VB (XI A),r)else none)=_
 rw[j_ h2,h1]
theorem zZ {l r:List UInt8}{A:Nat}(h:tkN l=some (A,r)):l=xmN A++r/\A<2^256:=by
 match l,h with
 |[],h=>cases h
 |b::s,h=>
  simp only[tkN]at h;by_cases h1:s.length<b.toNat
  ·rw[j_ h1]at h;cases h
  rw[i_ h1]at h;by_cases h2:V0 ⟨(s.take b.toNat).toArray⟩=0
  ·rw[j_ h2]at h;simp only[aL0,dE0]at h;obtain⟨rfl,rfl⟩:=h;refine⟨?_,FF _⟩;have hb:=Lc _ h2
   have hs:YW (VB ⟨(s.take b.toNat).toArray⟩) (need (VB ⟨(s.take b.toNat).toArray⟩))=s.take b.toNat:=by
    have:=cY0 (fun x=>x.data.toList) hb
    simpa[XI]using this
   have hn:need (VB ⟨(s.take b.toNat).toArray⟩)=b.toNat:=by
    have:=cY0 List.length hs;rw[Yd,dT0]at this;omega
   show b::s=UInt8.ofNat _::_++_
   rw[List.cons_append,hs,hn,List.take_append_drop]
   congr 1
   simp
  ·rw[i_ h2]at h;cases h
theorem Ih (G:Nat->Nat){t m:Nat}(h:t<m): ∃r,xmT G m=xmT G t++(xmN (G t)++r):=by
 induction m with
 |zero=>omega
 |succ m ih=>
  by_cases hm:t<m
  ·obtain⟨r,hr⟩:=ih hm;exact⟨r++xmN (G m),by rw[xmT,hr];simp only[dL0]⟩
  ·obtain rfl:t=m:=by omega
   exact⟨[],by rw[xmT,dP0]⟩
theorem R4 {G G':Nat->Nat}: ∀{t:Nat} {r r':List UInt8},(∀i,i<t->G i<2^256)->(∀i,i<t->G' i<2^256)->xmT G t++r=xmT G' t++r'->(∀i,i<t->G i=G' i)/\r=r'
 |0,r,r',_,_,h=>⟨fun i hi=>by omega,h⟩
 |t+1,r,r',h1,h2,h=>by
  simp only[xmT,dL0]at h;obtain⟨ha,hr⟩:=R4 (fun i hi=>h1 i (by omega)) (fun i hi=>h2 i (by omega)) h;have e1:=OL (h1 t (by omega)) r;rw[hr,OL (h2 t (by omega)) r']at e1;simp only[aL0,dE0]at e1;refine⟨fun i hi=>?_,e1.2.symm⟩;by_cases hit:i=t
  ·subst hit;exact e1.1.symm
  ·exact ha i (by omega)
theorem S6 {a b:Nat}(ha:a<256)(hb:b<256)(h:UInt8.ofNat a=UInt8.ofNat b):a=b:=by
 have:=cY0 UInt8.toNat h;simp only[gD0]at this;omega
theorem BU {n k n' k':Nat}{G G':Nat->Nat}(h:XmV n k G)(h':XmV n' k' G')(he:xmL n k G=xmL n' k' G'):n=n'/\k=k'/\ ∀t,t<n*k->G t=G' t:=by
 simp only[xmL,List.cons.injEq]at he;obtain⟨e1,e2,e3⟩:=he;have:=h.n2;have:=h'.n2;have:=h.k2;have:=h'.k2;obtain rfl:=S6 (by omega) (by omega) e1;obtain rfl:=S6 (by omega) (by omega) e2;refine⟨rfl,rfl,(R4 (r:=[]) (r':=[]) h.lt h'.lt ?_).1⟩;rw[dP0,dP0,e3]
theorem xN {n k t:Nat}{G:Nat->Nat}{l r:List UInt8}(hn:n<256)(hk:k<256)(hl:l=UInt8.ofNat n::UInt8.ofNat k::(xmT G t++r))(hG: ∀i,i<t->G i<2^256)(ht:t<n*k)(hr:tkN r=none){n' k':Nat}{G':Nat->Nat}(h':XmV n' k' G'):l≠xmL n' k' G':=by
 intro he;rw[hl]at he;simp only[xmL,List.cons.injEq]at he;obtain⟨e1,e2,e3⟩:=he;have:=h'.n2;have:=h'.k2;obtain rfl:=S6 hn (by omega) e1;obtain rfl:=S6 hk (by omega) e2;obtain⟨r2,h2⟩:=Ih G' ht;rw[h2]at e3;obtain⟨_,rfl⟩:=R4 hG (fun i hi=>h'.lt i (by omega)) e3;rw[OL (h'.lt t ht)]at hr;cases hr
theorem BV {n k:Nat}{G:Nat->Nat}{l r:List UInt8}(hn:n<256)(hk:k<256)(hl:l=UInt8.ofNat n::UInt8.ofNat k::(xmT G (n*k)++r))(hG: ∀i,i<n*k->G i<2^256)(hr:r≠[]){n' k':Nat}{G':Nat->Nat}(h':XmV n' k' G'):l≠xmL n' k' G':=by
 intro he;rw[hl]at he;simp only[xmL,List.cons.injEq]at he;obtain⟨e1,e2,e3⟩:=he;have:=h'.n2;have:=h'.k2;obtain rfl:=S6 hn (by omega) e1;obtain rfl:=S6 hk (by omega) e2;exact hr (R4 (r':=[]) hG h'.lt (by rw[dP0];exact e3)).2
theorem UN {G:Nat->Nat}: ∀{t:Nat},(∀i,i<t->G i<2^256)->(xmT G t).length<=33*t
 |0,_=>c_ _
 |t+1,h=>by
  have h1:=UN (fun i hi=>h i (eE0 hi));have h2:=UM (G t) (h t (by omega));rw[xmT,bC0,Ld];omega
theorem ya {k j:Nat}(i:Nat)(h:j<k):(i*k+j)/k=i:=by
 rw[bM0,Nat.add_mul_div_right _ _ (by omega),F_ h,B_]
theorem yc {k j:Nat}(i:Nat)(h:j<k):(i*k+j)%k=j:=by
 rw[bM0,fK0,g_ h]
theorem yd {n k i j:Nat}(hi:i<n)(hj:j<k):i*k+j<n*k:=
 l_ (by rw[bM0];exact Nat.add_lt_add_right hj _) (by rw[bM0,<-fE0];exact z_ _ hi)
end Go.Proofs.YtnagnkhbamhfmaaGreatDoor
