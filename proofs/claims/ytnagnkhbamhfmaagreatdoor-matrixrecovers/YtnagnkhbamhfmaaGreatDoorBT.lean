import Derived.Test.YtnagnkhbamhfmaaGreatDoorGD
set_option maxRecDepth 100000
set_option maxHeartbeats 8000000
namespace Go.Proofs.YtnagnkhbamhfmaaGreatDoor
set_option linter.all false
open Go.Proofs.Tryz
def byt (A k:Nat):Nat:=A/2^(8*k)%256
theorem Rb (A k:Nat):byt A k<256:=n_ _ (by decide)
theorem Si (A k j:Nat):(byt A k).testBit j=(decide (j<8)&&A.testBit (8*k+j)):=by
 unfold byt;rw[show 256=2^8 from rfl,o_,bC0,bT0]
theorem xa (A k:Nat):lm A (k/8)/2^(k%8*8)%256=byt A k:=by
 apply x_;intro j;rw[Si,show 256=2^8 from rfl,o_,bC0,ZP];by_cases hj:j<8
 ·rw[c_ hj,c_ (show j+k%8*8<64 by omega),show 64*(k/8)+(j+k%8*8)=8*k+j by omega];simp
 ·simp[hj]
theorem IT (A k i:Nat):byt (A%2^(8*k)) i=if i<k then byt A i else 0:=by
 apply x_;intro j;rw[Si,o_]
 split
 ·rw[Si];by_cases hj:j<8
  ·simp[hj,show 8*i+j<8*k by omega]
  ·simp[hj]
 ·rw[Nat.zero_testBit];by_cases hj:j<8
  ·simp[show ¬8*i+j<8*k by omega]
  ·simp[hj]
def U2 (A:Nat):Array Value:=Array.ofFn (n:=32) fun i=>.int .u8 (byt A (31-i))
theorem UO (A:Nat):(U2 A).size=32:=by simp[U2]
theorem Sj (A i:Nat)(h:i<32):(U2 A)[i]?=some (.int .u8 (byt A (31-i))):=by simp[U2,h]
theorem LH (A k v:Nat)(hk:k<32)(hv:v=byt A k):(U2 (A%2^(8*k))).setIfInBounds (31-k) (.int .u8 v)=U2 (A%2^(8*(k+1))):=by
 subst hv;apply B_;intro i;by_cases hi:i<32
 ·rw[aI0,Sj (A%2^(8*(k+1))) i hi,IT];by_cases e:31-k=i
  ·rw[i_ e,i_ (by rw[UO];omega),i_ (by omega),show 31-i=k by omega]
  ·rw[j_ e,Sj _ i hi,IT];by_cases h:31-i<k
   ·rw[i_ h,i_ (by omega)]
   ·rw[j_ h,j_ (by omega)]
 ·rw[h_ (by simp[UO];omega),h_ (by rw[UO];omega)]
def Y7 (A n:Nat):List UInt8:=(List.range n).map fun i=>UInt8.ofNat (byt A (n-1-i))
theorem Yh (A n:Nat):(Y7 A n).length=n:=by simp[Y7]
theorem Vz (A n j:Nat)(h:j<(Y7 A n).length):(Y7 A n)[j]=UInt8.ofNat (byt A (n-1-j)):=by simp[Y7]
def need (A:Nat):Nat:=(bitLen A+7)/8
theorem Sk (A n:Nat)(h:A<2^n):bitLen A<=n:=by
 unfold bitLen
 split
 ·omega
 ·rename_i h0
  have:=(hQ0 h0).2 h;omega
theorem UP (A:Nat)(h:A<2^256):need A<=32:=by
 have:=Sk A 256 h;unfold need;omega
def XO (A:Nat):ByteArray:=⟨(Y7 A (need A)).toArray⟩
theorem Mj {P:List UInt8->Prop}(h0:P [])(h1: ∀l b,P l->P (l++[b]))(l:List UInt8):P l:=by
 have h: ∀m:List UInt8,P m.reverse:=by
  intro m
  induction m with
  |nil=>exact h0
  |cons b m ih=>rw[List.reverse_cons];exact h1 _ _ ih
 have:=h l.reverse
 rwa [List.reverse_reverse]at this
def Tj (l:List UInt8):Nat:=l.foldl (fun n b=>n*256+b.toNat) 0
theorem PI (l:List UInt8)(b:UInt8):Tj (l++[b])=Tj l*256+b.toNat:=by simp[Tj,List.foldl_append]
theorem Sl (l:List UInt8):Tj l<2^(8*l.length):=by
 refine Mj (P:=fun l=>Tj l<2^(8*l.length)) ?_ ?_ l
 ·simp[Tj]
 ·intro l b ih;rw[PI,aS0,List.length_singleton,show 8*(l.length+1)=8*l.length+8 by omega,aG0];have:=UInt8.toNat_lt b;omega
theorem Er (x b:Nat)(h:b<256):byt (x*256+b) 0=b:=by
 unfold byt;rw[show 8*0=0 from rfl,aB0,bY0];omega
theorem Es (x b k:Nat)(h:b<256):byt (x*256+b) (k+1)=byt x k:=by
 unfold byt;rw[show 8*(k+1)=8+8*k by omega,aG0,<-z_,show(x*256+b)/2^8=x by omega]
theorem Tk (l:List UInt8): ∀(k:Nat) (hk:k<l.length),byt (Tj l) k=(l[l.length-1-k]'(by omega)).toNat:=by
 refine Mj (P:=fun l=> ∀(k:Nat) (hk:k<l.length),byt (Tj l) k=(l[l.length-1-k]'(by omega)).toNat) ?_ ?_ l
 ·intro k hk;simp at hk
 ·intro l b ih k hk;rw[aS0,List.length_singleton]at hk;have hb:=UInt8.toNat_lt b;rw[PI]
  cases k with
  |zero=>
   rw[Er _ _ hb];simp
  |succ k=>
   rw[Es _ _ _ hb,ih k (by omega)]
   congr 1
   rw[List.getElem_append_left (by simp;omega)]
   congr 1
   simp;omega
theorem IU (N k v:Nat)(hk:k<32)(hv:v=lm (N%2^(8*k)) (k/8)|||byt N k*2^(k%8*8)):(Zb (N%2^(8*k))).setIfInBounds (k/8) (.int .u64 v)=Zb (N%2^(8*(k+1))):=by
 subst hv;refine WB _ _ _ _ (by omega) ?_ ?_
 ·apply x_;intro j;rw[cM0,ZP,ZP,o_,o_,u_ (byt N k),gA0,Si];by_cases hj:j<64
  ·by_cases h1:64*(k/8)+j<8*k
   ·rw[c_ hj,c_ h1,c_ (show 64*(k/8)+j<8*(k+1) by omega),d_ (show ¬j>=k%8*8 by omega)];simp
   ·by_cases h2:64*(k/8)+j<8*(k+1)
    ·rw[c_ hj,d_ h1,c_ h2,c_ (show j>=k%8*8 by omega),c_ (show j-k%8*8<8 by omega),show 8*k+(j-k%8*8)=64*(k/8)+j by omega];simp
    ·rw[c_ hj,d_ h1,d_ h2,d_ (show ¬j-k%8*8<8 by omega)];simp
  ·rw[d_ hj,d_ (show ¬j-k%8*8<8 by omega)];simp
 ·intro i _ hne;apply x_;intro j;rw[ZP,ZP,o_,o_];by_cases hj:j<64
  ·by_cases h1:64*i+j<8*k
   ·rw[c_ h1,c_ (show 64*i+j<8*(k+1) by omega)]
   ·rw[d_ h1,d_ (show ¬64*i+j<8*(k+1) by omega)]
  ·rw[d_ hj,N_,N_]
theorem LI (N k:Nat):byt N k*2^(k%8*8)<18446744073709551616:=by
 have h1:=Rb N k;have h2:2^(k%8*8)<=2^56:=aQ0 (by decide) (by omega);have h3:byt N k*2^(k%8*8)<=255*2^56:=aL0 (by omega) h2;exact X_ h3 (by decide)
theorem Aw (L b m:Nat)(hL:L<18446744073709551616)(hb:b<18446744073709551616)(hm:b*2^m<18446744073709551616):
  bits .or .u64 (L:Int) (IntKind.u64.wrap (IntKind.u64.wrap (b:Int)*2^m))=((L|||b*2^m:Nat):Int):=by
 rw[wrap_u64 b hb,show((b:Int)*2^m)=((b*2^m:Nat):Int) by simp,wrap_u64 _ hm,hO0 _ _ hL hm]
open Go.RowKit
def Gf (s:ByteArray):Bool:=decide (32<s.size)||(decide (0<s.size)&&(s.data.toList[0]?==some 0))
theorem LJ (s:ByteArray)(w:World)(h:32<s.size):
  Calls Tryz.prog 121 #[.string s] w fun e w'=>e= .returned (.tuple #[.agg (Zb 0),.int .i64 4])/\Below w.heap.size w w':=by
 have h':(32:Int)<s.size:=by omega
 have rR:=Row.new w (Zb 0) 57
 go_enter func121,ntmps121
 go_wp2_with (first
  |refine Zf rfl 57 rfl _ Zm ?_
  |refine Zt rfl 57 rfl _ ZA ?_
  |refine Zp rfl 57 _ _ rfl _ _ rfl rfl rR (by exact Zc) (by simp only[Zk]) (Zu _) ?_)
 exact Yb rfl _ rfl (rR.setRow _) 4 _ b_ (by exact Zc) rfl _ rfl ⟨rfl,Zr (Z9 _) (by omega) _⟩
theorem PJ (s:ByteArray)(w:World)(h:s.size<=32)(h0:0<s.size)(hz:s[0]=0):
  Calls Tryz.prog 121 #[.string s] w fun e w'=>e= .returned (.tuple #[.agg (Zb 0),.int .i64 4])/\Below w.heap.size w w':=by
 have h': ¬(32:Int)<s.size:=by omega
 have h0':(0:Int)<s.size:=by omega
 have hz':(s[0].toNat:Int)=0:=by rw[hz];rfl
 have rR:=Row.new w (Zb 0) 57;clear h hz
 go_enter func121,ntmps121
 go_wp2_with (first
  |refine Zf rfl 57 rfl _ Zm ?_
  |refine Zt rfl 57 rfl _ ZA ?_
  |refine Zp rfl 57 _ _ rfl _ _ rfl rfl rR (by exact Zc) (by simp only[Zk]) (Zu _) ?_)
 exact Yb rfl _ rfl (rR.setRow _) 4 _ b_ (by exact Zc) rfl _ rfl ⟨rfl,Zr (Z9 _) (by omega) _⟩
theorem LL (s:ByteArray)(w:World)(h:s.size<=32)(h0:0<s.size)(hz:s[0]≠0):
  Calls Tryz.prog 121 #[.string s] w fun e w'=>e= .returned (.tuple #[.agg (Zb (Tj s.data.toList)),.int .i64 0])/\Below w.heap.size w w':=by
 have h': ¬(32:Int)<s.size:=by omega
 have h0':(0:Int)<s.size:=by omega
 have hz':((s[0].toNat:Int)==0)=false:=by
  rw[beq_eq_false_iff_ne];intro e;exact hz (UInt8.toNat_inj.1 (by simpa using e))
 have HH:Hid (s.size<=32):=h;clear h hz
 go_enter func121,ntmps121
 go_wp2_with (first
  |refine Zf rfl 57 rfl _ Zm ?_)
 go_loopg [22] s.size (fun g s22 wr=> ∃k:Nat,k+g=s.size/\s22= .int .i64 k/\Row wr w.heap.size (Zb 0) 57/\Row wr (w.heap.size+1) (Zb (Tj s.data.toList%2^(8*k))) 57/\Below w.heap.size w wr)
 case atStart=>exact⟨0,by omega,rfl,Row.one rfl,by rw[show Tj s.data.toList%2^(8*0)=0 by simp[aW0]];exact Row.here (by simp),Z7 _ _⟩
 case round=>
  obtain⟨k,hk,rfl,r0,r1,hb⟩:=hrel;have hle:=HH.out
  cases gk with
  |zero=>
   obtain rfl:k=s.size:=by omega
   rw[g_ (show Tj s.data.toList<2^(8*s.size)from Sl s.data.toList)]at r1;clear hk;have hx: ¬((s.size:Int)<s.size):=by omega
   go_wp2_with (first
    |refine Zh rfl 57 _ rfl _ rfl r1 4 _ b_ (by exact Zc) ?_
    |refine Zp rfl 57 _ _ rfl _ _ rfl rfl r0 (by exact Zc) (by simp only[Zk]) (Zu _) ?_)
   exact Yb rfl _ rfl (r0.setRow _) 4 _ b_ (by exact Zc) rfl _ rfl ⟨rfl,Zr hb (by omega) _⟩
  |succ g=>
   have hlt:(k:Int)<s.size:=by omega
   have hc1:=ZW r1 (k/8) (by omega);have hf1:=r1.frozen (k/8);have HV:=Tk s.data.toList k (by show k<s.size;omega);obtain⟨i,hi,hik,HW⟩: ∃i:Nat,∃hi:i<s.size,(s.size:Int)-1-k=i/\Aside (byt (Tj s.data.toList) k=(s[i]'hi).toNat):=⟨s.size-1-k,by omega,by omega,HV⟩
   have hi':(i:Int)<s.size:=by omega
   have R:Aside (Row wr w.heap.size (Zb 0) 57/\Row wr (w.heap.size+1) (Zb (Tj s.data.toList%2^(8*k))) 57/\Below w.heap.size w wr):=⟨r0,r1,hb⟩;clear r0 r1 hb HV;go_wp2
   go_region
   go_wp2;obtain⟨r0,r1,hb⟩:=R.out;have hw:=HW.out
   go_roundg g
   case measure=>omega
   case rel=>
    refine⟨k+1,by omega,by go_num,(r0.setCell_far _ _ _ (by omega)).drew,?_,(ZO hb (by omega) _ _).drew⟩;have:=(r1.setCell (k/8) (.int .u64 ((lm (Tj s.data.toList%2^(8*k)) (k/8)|||byt (Tj s.data.toList) k*2^(k%8*8):Nat):Int))).drew;rw[IU _ k _ (by omega) rfl]at this;rw[<-hw,Aw _ _ _ (Xt _ _) (l_ (Rb _ _) (by decide)) (LI _ _)];exact this
theorem O6 (s:ByteArray)(w:World)(h:s.size=0):
  Calls Tryz.prog 121 #[.string s] w fun e w'=>e= .returned (.tuple #[.agg (Zb 0),.int .i64 0])/\Below w.heap.size w w':=by
 have h':(s.size:Int)=0:=by omega
 go_enter func121,ntmps121
 go_wp2_with (first
  |refine Zf rfl 57 rfl _ Zm ?_)
 go_loopg [22] 0 (fun _ s22 wr=>s22= .int .i64 0/\Row wr w.heap.size (Zb 0) 57/\Row wr (w.heap.size+1) (Zb 0) 57/\Below w.heap.size w wr)
 case atStart=>exact⟨rfl,Row.one rfl,Row.here (by simp),Z7 _ _⟩
 case round=>
  obtain⟨rfl,r0,r1,hb⟩:=hrel
  go_wp2_with (first
   |refine Zh rfl 57 _ rfl _ rfl r1 4 _ b_ (by exact Zc) ?_
   |refine Zp rfl 57 _ _ rfl _ _ rfl rfl r0 (by exact Zc) (by simp only[Zk]) (Zu _) ?_)
  exact Yb rfl _ rfl (r0.setRow _) 4 _ b_ (by exact Zc) rfl _ rfl ⟨rfl,Zr hb (by omega) _⟩
def VC (s:ByteArray):Nat:=if Gf s=true then 0 else Tj s.data.toList
def VY (s:ByteArray):Int:=if Gf s=true then 4 else 0
theorem VA (s:ByteArray):(32<s.size/\Gf s=true)∨(s.size=0/\Gf s=false)∨(s.size<=32/\ ∃h:0<s.size,(s[0]=0/\Gf s=true)∨(s[0]≠0/\Gf s=false)):=by
 unfold Gf;by_cases h1:32<s.size
 ·exact .inl ⟨h1,by rw[c_ h1];rfl⟩
 ·by_cases h2:0<s.size
  ·refine .inr (.inr ⟨by omega,h2,?_⟩)
   have hg:s.data.toList[0]?=some s[0]:=by
    rw[k_];exact W_ h2
   rw[d_ h1,c_ h2,hg];by_cases h3:s[0]=0
   ·exact .inl ⟨h3,by rw[h3];rfl⟩
   ·exact .inr ⟨h3,by simp[h3]⟩
  ·exact .inr (.inl ⟨by omega,by rw[d_ h1,d_ h2];rfl⟩)
theorem IW (s:ByteArray)(w:World):
  Calls Tryz.prog 121 #[.string s] w (Rt (.tuple #[.agg (Zb (VC s)),.int .i64 (VY s)]) w):=by
 unfold VC VY;rcases VA s with ⟨h1,hb⟩|⟨h1,hb⟩|⟨h1,h2,⟨h3,hb⟩|⟨h3,hb⟩⟩
 ·rw[i_ hb,i_ hb];exact LJ s w h1
 ·rw[j_ (by rw[hb];decide),j_ (by rw[hb];decide),show Tj s.data.toList=0 by
   have:s.data.toList=[]:=gE0.1 h1
   rw[this];rfl]
  exact O6 s w h1
 ·rw[i_ hb,i_ hb];exact PJ s w h1 h2 h3
 ·rw[j_ (by rw[hb];decide),j_ (by rw[hb];decide)];exact LL s w h1 h2 h3
theorem Et:(Tryz.prog.info? 164).map (fun i=>(i.zero,i.size))=some (some (.agg (U2 0)),32):=by kernel_rfl
theorem Ev (w:World):(zeroValue 164).run Tryz.prog w= .ok (.agg (U2 0)) w:=(V_ Et).1 w
theorem Mk {w:World}{b N:Nat}(h:Row w b (U2 N) 164)(i:Nat)(hi:i<32):w.cell? ⟨b,i,none⟩=some (.int .u8 (byt N (31-i))):=by rw[h.cell];exact Sj _ _ hi
theorem O7:Tryz.prog.underlying 118=some (.slice 5):=dL0
def D3 (n:Nat):Nat:=if n=0 then 0 else 32-n
theorem SG {o:Oper}{ρ:Operand->Value}(x lo:Operand)(ho:o.op= .slice 164 x (some lo) none none)(b n:Nat)(hx:ρ x= .pointer (some ⟨b,0,none⟩))(l:Int)(hl:ρ lo= .int .i64 l)
  (hn:n<=32)(hle:l=32-n)(w:World):(execOp ρ o).run Tryz.prog w= .ok (.value (.slice (some ⟨b,D3 n,none⟩) n n)) w:=by
 have hr:=run_sliceAt_array_l (P:=Tryz.prog) w 164 ⟨b,0,none⟩ (by kernel_rfl) .i64 l (by omega) (by rw[show Tryz.prog.arrayLen 164=32 from by kernel_rfl];omega);unfold execOp;simp only[ho,hx,hl,bA0,dT0,r_];rw[hr,show Tryz.prog.elem 164=5 from by kernel_rfl,fO0,show Tryz.prog.arrayLen 164=32 from by kernel_rfl];subst hle;have e:((32:Int)-n).toNat=32-n:=by omega
 rw[e];unfold slicedAt D3;by_cases h0:n=0
 ·subst h0;rfl
 ·simp only[m_,aJ0];rw[j_ (show ¬32=32-n by omega),j_ h0,show 32-(32-n)=n by omega]
  have ha:(⟨b,0,none⟩:Addr).add ((32-n)*1)=⟨b,32-n,none⟩:=by unfold Addr.add;split<;>simp_all
  rw[ha]
theorem Sn {o:Oper}{ρ:Operand->Value}(x:Operand)(ho:o.op= .convert 118 9 x)(b n A:Nat)(hx:ρ x= .slice (some ⟨b,D3 n,none⟩) n n)(hn:n<=32)(w:World)
  (hr:Row w b (U2 A) 164):(execOp ρ o).run Tryz.prog w= .ok (.value (.string ⟨(Y7 A n).toArray⟩)) w:=by
 unfold execOp;simp only[ho,hx,r_]
 have h:=run_convert_bytes_back (P:=Tryz.prog) w 118 9 5 ⟨b,D3 n,none⟩ n (Y7 A n) O7 bX0 S_ (fun j hj=>by
  have hj':j<n:=by rw[Yh]at hj;exact hj
  have ha:(⟨b,D3 n,none⟩:Addr).add j=⟨b,D3 n+j,none⟩:=by unfold Addr.add;split<;>simp_all
  rw[ha,show D3 n+j=32-n+j by unfold D3;rw[j_ (by omega)],Mk hr _ (by omega)]
  rw[Vz,cS0 (Rb _ _),show 31-(32-n+j)=n-1-j by omega])
 rw[Yh]at h;rw[h];rfl
theorem LM (A:Nat)(w:World)(hA:A<2^256):
  Calls Tryz.prog 71 #[.agg (Zb A)] w fun e w'=>e= .returned (.string (XO A))/\Below w.heap.size w w':=by
 have HA:Hid (A<2^256):=hA;clear hA
 go_enter func71,ntmps71
 go_wp2_with (first
  |refine Zj rfl 57 _ rfl _ rfl ?_
  |refine Zf rfl 164 rfl _ Ev ?_)
 go_loopg [6] 32 (fun g s6 wr=> ∃k:Nat,k+g=32/\s6= .int .i64 k/\Row wr w.heap.size (Zb A) 57/\Row wr (w.heap.size+1) (U2 (A%2^(8*k))) 164/\Below w.heap.size w wr)
 case atStart=>exact⟨0,by omega,rfl,Row.one rfl,by rw[show A%2^(8*0)=0 by simp[aW0]];exact Row.here (by simp),Z7 _ _⟩
 case round=>
  obtain⟨k,hk,rfl,r0,r1,hb⟩:=hrel
  cases gk with
  |zero=>
   obtain rfl:k=32:=by omega
   rw[show A%2^(8*32)=A from g_ HA.out]at r1;clear hk;have hx: ¬((32:Int)<32):=by omega
   have hn:bitLen A<=256:=Sk A 256 HA.out;have hn':(bitLen A:Int)<=256:=by omega
   go_wp2_with (first
    |refine Zh rfl 57 _ rfl _ rfl r0 4 _ b_ (by exact Zc) ?_
    |(go_at_call 111;refine(Vp _ _ HA.out).mono ?_;rintro e w2 ⟨rfl,hb2⟩;have r5:=r1.belowAll hb2;have b5:=Zi hb (e_ _) hb2;clear hb2)
    |refine Zv rfl _ (SG _ _ rfl (w.heap.size+1) (need A) rfl _ rfl (UP A HA.out) (by have:=HA.out;unfold need;omega) _) ?_
    |refine Zv rfl _ (Sn _ rfl (w.heap.size+1) (need A) A rfl (UP A HA.out) _ r5) ?_)
   go_ret;exact⟨rfl,b5⟩
  |succ g=>
   have hlt:(k:Int)<32:=by omega
   have hk8:k/8<4:=by omega
   have hc0:=ZW r0 (k/8) (by omega);have hc1:=Mk r1 (31-k) (by omega);have hf1:=r1.frozen (31-k);have hlm:=Xt A (k/8);have hsub:((31:Int)-k).toNat=31-k:=by omega
   have R:Aside (Row wr w.heap.size (Zb A) 57/\Row wr (w.heap.size+1) (U2 (A%2^(8*k))) 164/\Below w.heap.size w wr):=⟨r0,r1,hb⟩;clear r0 r1 hb;go_wp2;obtain⟨r0,r1,hb⟩:=R.out
   go_roundg g
   case measure=>omega
   case rel=>
    refine⟨k+1,by omega,by go_num,r0.setCell_far _ _ _ (by omega),?_,ZO hb (by omega) _ _⟩;have:=r1.setCell (31-k) (.int .u8 (byt A k:Nat));rw[LH A k _ (by omega) rfl]at this;rw[show((lm A (k/8):Int)/2^(k%8*8)%256)=((byt A k:Nat):Int) by rw[<-xa];simp];exact this
def u8s (l:List UInt8):List Value:=l.map fun b=>.int .u8 (b.toNat:Int)
theorem own_below {w w':World}{base:Nat}{e:TypeId}{size:Nat}{v:Value}{n:Nat}{xs:List Value}(h:w.ownsRow base e size v n xs)(hb:Below w.heap.size w w'):w'.ownsRow base e size v n xs:=by
 refine⟨h.1,?_⟩;rcases h.2 with hn|⟨g,cap,cur,rfl,hbs,hgg,rest⟩
 ·exact .inl hn
 ·exact .inr ⟨g,cap,cur,rfl,hbs,(hb.block g (T_.1 hgg).1).trans hgg,rest⟩
theorem IX (A n:Nat)(h:2^n<=A):n<bitLen A:=by
 have h1:=(bitLen_spec A).1;exact(Nat.pow_lt_pow_iff_right (by decide:1<2)).1 (X_ h h1)
theorem IY (A:Nat):A<2^(8*need A):=by
 refine l_ (bitLen_spec A).1 (aQ0 (by decide) ?_);unfold need;omega
theorem IZ (A B n:Nat)(hA:A<2^(8*n))(hB:B<2^(8*n))(h: ∀k,k<n->byt A k=byt B k):A=B:=by
 apply x_;intro i;by_cases hi:i<8*n
 ·have h1:=dB0 (fun x=>Nat.testBit x (i%8)) (h (i/8) (by omega));simp only[Si]at h1;rw[c_ (show i%8<8 by omega),aF0,aF0,show 8*(i/8)+i%8=i by omega]at h1;exact h1
 ·rw[fF0 (l_ hA (aQ0 (by decide) (by omega))),fF0 (l_ hB (aQ0 (by decide) (by omega)))]
theorem O8 (A n:Nat)(hA:A<2^(8*n)):Tj (Y7 A n)=A:=by
 have hl:=Sl (Y7 A n);rw[Yh]at hl;refine IZ _ _ n hl hA fun k hk=>?_
 rw[Tk (Y7 A n) k (by rw[Yh];exact hk),Vz,cS0 (Rb _ _),Yh,show n-1-(n-1-k)=k by omega]
theorem Ax (A n:Nat)(h1:2^(8*n)<=A)(h2:A<2^(8*(n+1))):byt A n≠0:=by
 unfold byt;rw[g_ (aP0 (by rw[show 2^(8*n)*256=2^(8*(n+1)) by rw[show 8*(n+1)=8*n+8 by omega,aG0]];exact h2))];have:=(cQ0 (v_ (8*n))).2 (show 1*2^(8*n)<=A by omega);omega
theorem Ay (A:Nat)(h:0<need A):2^(8*(need A-1))<=A:=by
 have hs:=bitLen_spec A
 have h0:A≠0:=by
  intro e;subst e;have:need 0=0:=rfl;omega
 refine f_ (aQ0 (by decide) ?_) (hs.2 h0);unfold need at*;omega
theorem UY (A:Nat):(XO A).size=need A:=Yh A (need A)
theorem O9 (A:Nat)(hA:A<2^256):Gf (XO A)=false:=by
 have hn:=UP A hA;rcases VA (XO A)with ⟨h,_⟩|⟨_,h⟩|⟨_,h2,⟨h3,_⟩|⟨_,h⟩⟩
 ·rw[UY]at h;omega
 ·exact h
 ·rw[UY]at h2
  have hg:(XO A)[0]=UInt8.ofNat (byt A (need A-1)):=by
   have:=Vz A (need A) 0 (by rw[Yh];exact h2);exact this
  rw[hg]at h3;have h4:=dB0 UInt8.toNat h3;rw[cS0 (Rb _ _)]at h4;have h5:=Ax A (need A-1) (Ay A h2) (by rw[show need A-1+1=need A by omega];exact IY A);exact absurd h4 h5
 ·exact h
theorem PK (A:Nat)(hA:A<2^256):VC (XO A)=A/\VY (XO A)=0:=by
 have hb:=O9 A hA;unfold VC VY;rw[hb];exact⟨O8 A (need A) (IY A),rfl⟩
theorem Ew (s:ByteArray):VC s<2^256:=by
 unfold VC
 rcases VA s with ⟨_,hb⟩|⟨h1,hb⟩|⟨h1,_,⟨_,hb⟩|⟨_,hb⟩⟩<;>rw[hb]
 ·exact v_ _
 ·refine l_ (Sl s.data.toList) (aQ0 (by decide) ?_);show 8*s.size<=256
  omega
 ·exact v_ _
 ·refine l_ (Sl s.data.toList) (aQ0 (by decide) ?_);show 8*s.size<=256
  omega
theorem I0 (l:List UInt8)(h:l=[]∨ ∃h0:0<l.length,l[0]≠0):need (Tj l)=l.length:=by
 rcases h with rfl|⟨h0,hne⟩
 ·rfl
 ·have hlt:=Sl l
  have hle:2^(8*(l.length-1))<=Tj l:=by
   have hb:=Tk l (l.length-1) (by omega)
   have e:l[l.length-1-(l.length-1)]'(by omega)=l[0]:=by congr 1;omega
   rw[e]at hb
   have hn0:byt (Tj l) (l.length-1)≠0:=by
    rw[hb];intro hz;exact hne (UInt8.toNat_inj.1 (by simpa using hz))
   refine fC0 fun hl=>hn0 ?_
   unfold byt;rw[K_ hl]
  have h1:=IX _ _ hle;have h2:=Sk _ _ hlt;unfold need;omega
theorem Na (l:List UInt8):Y7 (Tj l) l.length=l:=by
 apply List.ext_getElem
 ·rw[Yh]
 ·intro j h1 h2;rw[Vz];apply UInt8.toNat_inj.1;rw[cS0 (Rb _ _),Tk l (l.length-1-j) (by omega)]
  congr 2
  omega
theorem LN (s:ByteArray)(h:VY s=0):XO (VC s)=s:=by
 have hb:Gf s=false:=by
  unfold VY at h
  cases hq:Gf s with
  |false=>rfl
  |true=>rw[hq]at h;exact absurd h (by decide)
 unfold VC XO;rw[hb,j_ (by decide)]
 have hl:need (Tj s.data.toList)=s.data.toList.length:=by
  refine I0 _ ?_;rcases VA s with ⟨_,h2⟩|⟨h1,_⟩|⟨_,h0,⟨_,h2⟩|⟨h3,_⟩⟩
  ·rw[hb]at h2;cases h2
  ·exact .inl (gE0.1 h1)
  ·rw[hb]at h2;cases h2
  ·exact .inr ⟨h0,h3⟩
 rw[hl,Na]
def xmN (A:Nat):List UInt8:=UInt8.ofNat (need A)::Y7 A (need A)
def xmT (G:Nat->Nat):Nat->List UInt8
 |0=>[]
 |t+1=>xmT G t++xmN (G t)
def xmL (n k:Nat)(G:Nat->Nat):List UInt8:=UInt8.ofNat n::UInt8.ofNat k::xmT G (n*k)
structure XmV (n k:Nat)(G:Nat->Nat):Prop where
 n1:1<=n
 n2:n<=25
 k1:1<=k
 k2:k<=7
 lt: ∀t,t<n*k->G t<2^256
def tkN:List UInt8->Option (Nat×List UInt8)
 |[]=>none
 |b::r=>if r.length<b.toNat then none else if VY ⟨(r.take b.toNat).toArray⟩=0 then some (VC ⟨(r.take b.toNat).toArray⟩,r.drop b.toNat)else none
theorem LO (A:Nat):(xmN A).length=need A+1:=by simp[xmN,Yh]
theorem Az {A:Nat}(h:A<2^256):(UInt8.ofNat (need A)).toNat=need A:=by
 have:=UP A h;rw[gG0];exact g_ (by omega)
theorem Nb {A:Nat}(h:A<2^256)(r:List UInt8):tkN (xmN A++r)=some (A,r):=by
 show(if(Y7 A (need A)++r).length<(UInt8.ofNat (need A)).toNat then none else if VY ⟨((Y7 A (need A)++r).take (UInt8.ofNat (need A)).toNat).toArray⟩=0 then some (VC ⟨((Y7 A (need A)++r).take (UInt8.ofNat (need A)).toNat).toArray⟩,(Y7 A (need A)++r).drop (UInt8.ofNat (need A)).toNat)else none)=_
 rw[Az h];have hl:=Yh A (need A);rw[j_ (by rw[aS0,hl];omega)];have ht:(Y7 A (need A)++r).take (need A)=Y7 A (need A):=by rw[List.take_append_of_le_length (by omega),List.take_of_length_le (by omega)]
 have hd:(Y7 A (need A)++r).drop (need A)=r:=by
  rw[List.drop_append,List.drop_of_length_le (by omega),hl,fK0];rfl
 rw[ht,hd];obtain⟨h1,h2⟩:=PK A h;show(if VY (XO A)=0 then some (VC (XO A),r)else none)=_
 rw[i_ h2,h1]
theorem xb {l r:List UInt8}{A:Nat}(h:tkN l=some (A,r)):l=xmN A++r/\A<2^256:=by
 match l,h with
 |[],h=>cases h
 |b::s,h=>
  simp only[tkN]at h;by_cases h1:s.length<b.toNat
  ·rw[i_ h1]at h;cases h
  rw[j_ h1]at h;by_cases h2:VY ⟨(s.take b.toNat).toArray⟩=0
  ·rw[i_ h2]at h;simp only[aT0,dI0]at h;obtain⟨rfl,rfl⟩:=h;refine⟨?_,Ew _⟩;have hb:=LN _ h2
   have hs:Y7 (VC ⟨(s.take b.toNat).toArray⟩) (need (VC ⟨(s.take b.toNat).toArray⟩))=s.take b.toNat:=by
    have:=dB0 (fun x=>x.data.toList) hb
    simpa[XO]using this
   have hn:need (VC ⟨(s.take b.toNat).toArray⟩)=b.toNat:=by
    have:=dB0 List.length hs;rw[Yh,eA0]at this;omega
   show b::s=UInt8.ofNat _::_++_
   rw[List.cons_append,hs,hn,List.take_append_drop]
   congr 1
   simp
  ·rw[j_ h2]at h;cases h
theorem I1 (G:Nat->Nat){t m:Nat}(h:t<m): ∃r,xmT G m=xmT G t++(xmN (G t)++r):=by
 induction m with
 |zero=>omega
 |succ m ih=>
  by_cases hm:t<m
  ·obtain⟨r,hr⟩:=ih hm;exact⟨r++xmN (G m),by rw[xmT,hr];simp only[dO0]⟩
  ·obtain rfl:t=m:=by omega
   exact⟨[],by rw[xmT,dU0]⟩
theorem Qg {G G':Nat->Nat}: ∀{t:Nat} {r r':List UInt8},(∀i,i<t->G i<2^256)->(∀i,i<t->G' i<2^256)->xmT G t++r=xmT G' t++r'->(∀i,i<t->G i=G' i)/\r=r'
 |0,r,r',_,_,h=>⟨fun i hi=>by omega,h⟩
 |t+1,r,r',h1,h2,h=>by
  simp only[xmT,dO0]at h;obtain⟨ha,hr⟩:=Qg (fun i hi=>h1 i (by omega)) (fun i hi=>h2 i (by omega)) h;have e1:=Nb (h1 t (by omega)) r;rw[hr,Nb (h2 t (by omega)) r']at e1;simp only[aT0,dI0]at e1;refine⟨fun i hi=>?_,e1.2.symm⟩;by_cases hit:i=t
  ·subst hit;exact e1.1.symm
  ·exact ha i (by omega)
theorem Rc {a b:Nat}(ha:a<256)(hb:b<256)(h:UInt8.ofNat a=UInt8.ofNat b):a=b:=by
 have:=dB0 UInt8.toNat h;simp only[gG0]at this;omega
theorem AA {n k n' k':Nat}{G G':Nat->Nat}(h:XmV n k G)(h':XmV n' k' G')(he:xmL n k G=xmL n' k' G'):n=n'/\k=k'/\ ∀t,t<n*k->G t=G' t:=by
 simp only[xmL,List.cons.injEq]at he;obtain⟨e1,e2,e3⟩:=he;have:=h.n2;have:=h'.n2;have:=h.k2;have:=h'.k2;obtain rfl:=Rc (by omega) (by omega) e1;obtain rfl:=Rc (by omega) (by omega) e2;refine⟨rfl,rfl,(Qg (r:=[]) (r':=[]) h.lt h'.lt ?_).1⟩;rw[dU0,dU0,e3]
theorem wW {n k t:Nat}{G:Nat->Nat}{l r:List UInt8}(hn:n<256)(hk:k<256)(hl:l=UInt8.ofNat n::UInt8.ofNat k::(xmT G t++r))(hG: ∀i,i<t->G i<2^256)(ht:t<n*k)(hr:tkN r=none){n' k':Nat}{G':Nat->Nat}(h':XmV n' k' G'):l≠xmL n' k' G':=by
 intro he;rw[hl]at he;simp only[xmL,List.cons.injEq]at he;obtain⟨e1,e2,e3⟩:=he;have:=h'.n2;have:=h'.k2;obtain rfl:=Rc hn (by omega) e1;obtain rfl:=Rc hk (by omega) e2;obtain⟨r2,h2⟩:=I1 G' ht;rw[h2]at e3;obtain⟨_,rfl⟩:=Qg hG (fun i hi=>h'.lt i (by omega)) e3;rw[Nb (h'.lt t ht)]at hr;cases hr
theorem AB {n k:Nat}{G:Nat->Nat}{l r:List UInt8}(hn:n<256)(hk:k<256)(hl:l=UInt8.ofNat n::UInt8.ofNat k::(xmT G (n*k)++r))(hG: ∀i,i<n*k->G i<2^256)(hr:r≠[]){n' k':Nat}{G':Nat->Nat}(h':XmV n' k' G'):l≠xmL n' k' G':=by
 intro he;rw[hl]at he;simp only[xmL,List.cons.injEq]at he;obtain⟨e1,e2,e3⟩:=he;have:=h'.n2;have:=h'.k2;obtain rfl:=Rc hn (by omega) e1;obtain rfl:=Rc hk (by omega) e2;exact hr (Qg (r':=[]) hG h'.lt (by rw[dU0];exact e3)).2
theorem UQ {G:Nat->Nat}: ∀{t:Nat},(∀i,i<t->G i<2^256)->(xmT G t).length<=33*t
 |0,_=>e_ _
 |t+1,h=>by
  have h1:=UQ (fun i hi=>h i (cY0 hi));have h2:=UP (G t) (h t (by omega));rw[xmT,aS0,LO];omega
theorem xc {k j:Nat}(i:Nat)(h:j<k):(i*k+j)/k=i:=by
 rw[bT0,Nat.add_mul_div_right _ _ (by omega),K_ h,A_]
theorem xd {k j:Nat}(i:Nat)(h:j<k):(i*k+j)%k=j:=by
 rw[bT0,fR0,g_ h]
theorem xe {n k i j:Nat}(hi:i<n)(hj:j<k):i*k+j<n*k:=
 l_ (by rw[bT0];exact Nat.add_lt_add_right hj _) (by rw[bT0,<-fL0];exact y_ _ hi)
