import Derived.WalkKit
import Derived.Test.YtnagnkhbamhfmaaGreatDoorGH
import Derived.Test.YtnagnkhbamhfmaaGreatDoorGJ
import Derived.Laws.BitsAllLaws
set_option maxRecDepth 100000
set_option maxHeartbeats 8000000
namespace Go.Proofs.YtnagnkhbamhfmaaGreatDoor
set_option linter.all false
open Go.Proofs.Tryz
def rr (x n:Nat):Nat:=x/2^n|||x*2^(32-n)%4294967296
def ss0 (x:Nat):Nat:=rr x 7^^^rr x 18^^^x/2^3
def ss1 (x:Nat):Nat:=rr x 17^^^rr x 19^^^x/2^10
def bs0 (x:Nat):Nat:=rr x 2^^^rr x 13^^^rr x 22
def bs1 (x:Nat):Nat:=rr x 6^^^rr x 11^^^rr x 25
def chf (x y z:Nat):Nat:=x&&&y^^^(4294967295^^^x)&&&z
def mjf (x y z:Nat):Nat:=x&&&y^^^x&&&z^^^y&&&z
theorem Di {x y:Nat}(hx:x<4294967296)(hy:y<4294967296):x|||y<4294967296:=Nat.or_lt_two_pow (n:=32) hx hy
theorem FW {x y:Nat}(hx:x<4294967296)(hy:y<4294967296):x^^^y<4294967296:=Nat.xor_lt_two_pow (n:=32) hx hy
theorem OR {x y:Nat}(hx:x<4294967296):x&&&y<4294967296:=T_ Nat.and_le_left hx
theorem FY {x n:Nat}(hx:x<4294967296):x/n<4294967296:=T_ (bP0 _ _) hx
theorem Li (x:Nat):x%4294967296<4294967296:=m_ _ (by decide)
theorem WZ {x:Nat}(n:Nat)(hx:x<4294967296):rr x n<4294967296:=Di (FY hx) (Li _)
theorem xW (x y z:Nat)(hx:x<4294967296):x&&&y|||(4294967295-x)&&&z=chf x y z:=by
 apply y_;intro i
 have h1:(4294967295-x).testBit i=(decide (i<32)&& !x.testBit i):=by
  have:=Nat.testBit_two_pow_sub_succ (n:=32) hx i;rw[<-this,show 2^32-(x+1)=4294967295-x by omega]
 have h2:(4294967295:Nat).testBit i=decide (i<32):=by
  rw[show(4294967295:Nat)=2^32-1 from rfl,Nat.testBit_two_pow_sub_one]
 have h3: ¬i<32->x.testBit i=false:=fun h=>eY0 (l_ hx (by
  have:2^32<=2^i:=aF0 (by omega) (by omega)
  simpa using this))
 unfold chf;rw[cI0,gE0,gE0,hI0,gE0,gE0,hI0,h1,h2];by_cases h:i<32
 ·rw[d_ h]
  cases x.testBit i<;>cases y.testBit i<;>cases z.testBit i<;>rfl
 ·rw[e_ h,h3 h]
  cases y.testBit i<;>cases z.testBit i<;>rfl
theorem xX (x y z:Nat):x&&&y|||x&&&z|||y&&&z=mjf x y z:=by
 apply y_;intro i;unfold mjf;simp only[cI0,gE0,hI0]
 cases x.testBit i<;>cases y.testBit i<;>cases z.testBit i<;>rfl
def kL:List Nat:=[1116352408,1899447441,3049323471,3921009573,961987163,1508970993,2453635748,2870763221,3624381080,310598401,607225278,1426881987,1925078388,2162078206,2614888103,3248222580,3835390401,4022224774,264347078,604807628,770255983,1249150122,1555081692,1996064986,2554220882,2821834349,2952996808,3210313671,3336571891,3584528711,113926993,338241895,666307205,773529912,1294757372,1396182291,1695183700,1986661051,2177026350,2456956037,2730485921,2820302411,3259730800,3345764771,3516065817,3600352804,4094571909,275423344,430227734,506948616,659060556,883997877,958139571,1322822218,1537002063,1747873779,1955562222,2024104815,2227730452,2361852424,2428436474,2756734187,3204031479,3329325298]
def ivL:List Nat:=[1779033703,3144134277,1013904242,2773480762,1359893119,2600822924,528734635,1541459225]
def kf (t:Nat):Nat:=kL.getD t 0
def ivf (t:Nat):Nat:=ivL.getD t 0
theorem B1 {l:List Nat}{m:Nat}(h:l.all (fun x=>decide (x<m))=true)(hm:0<m)(t:Nat):l.getD t 0<m:=by
 rw[u_]
 cases hq:l[t]? with
 |none=>exact hm
 |some x=>exact fJ0 (aQ0.1 h x (List.mem_of_getElem? hq))
theorem yj (t:Nat):ivf t<4294967296:=B1 (by decide) (by decide) t
def wrd (b:Nat->Nat)(t:Nat):Nat:=b (4*t)*2^24|||b (4*t+1)*2^16|||b (4*t+2)*2^8|||b (4*t+3)
theorem yk {b:Nat->Nat}(hb: ∀i,b i<256)(t:Nat):wrd b t<4294967296:=by
 have h0:=hb (4*t);have h1:=hb (4*t+1);have h2:=hb (4*t+2);have h3:=hb (4*t+3);exact Di (Di (Di (by omega) (by omega)) (by omega)) (by omega)
def nxt (b:Nat->Nat)(l:List Nat)(n:Nat):Nat:=
 if n<16 then wrd b n else(ss1 (l.getD (n-2) 0)+l.getD (n-7) 0+ss0 (l.getD (n-15) 0)+l.getD (n-16) 0)%4294967296
def wl (b:Nat->Nat):Nat->List Nat
 |0=>[]
 |n+1=>wl b n++[nxt b (wl b n) n]
def wf (b:Nat->Nat)(t:Nat):Nat:=(wl b (t+1)).getD t 0
theorem Ut (b:Nat->Nat): ∀n,(wl b n).length=n
 |0=>rfl
 |n+1=>by unfold wl;rw[bC0,Ut b n];rfl
theorem Dj (b:Nat->Nat)(t:Nat):wf b t=nxt b (wl b t) t:=by
 show(wl b t++[nxt b (wl b t) t]).getD t 0=_
 rw[u_,fL0 (by rw[Ut];exact c_ _),Ut,fR0];rfl
theorem Pn (b:Nat->Nat)(t:Nat): ∀n,t<n->(wl b n).getD t 0=wf b t
 |0,h=>by omega
 |n+1,h=>by
  by_cases e:t=n
  ·subst e;rfl
  ·rw[<-Pn b t n (by omega)];show(wl b n++[_]).getD t 0=_
   rw[u_,eB0 (by rw[Ut];omega),<-u_]
theorem yl (b:Nat->Nat)(t:Nat)(h:t<16):wf b t=wrd b t:=by rw[Dj];unfold nxt;rw[j_ h]
theorem ym (b:Nat->Nat)(t:Nat)(h:16<=t):wf b t=(ss1 (wf b (t-2))+wf b (t-7)+ss0 (wf b (t-15))+wf b (t-16))%4294967296:=by
 rw[Dj];unfold nxt;rw[i_ (by omega),Pn b _ t (by omega),Pn b _ t (by omega),Pn b _ t (by omega),Pn b _ t (by omega)]
theorem yn {b:Nat->Nat}(hb: ∀i,b i<256)(t:Nat):wf b t<4294967296:=by
 by_cases h:t<16
 ·rw[yl b t h];exact yk hb t
 ·rw[ym b t (by omega)];exact Li _
theorem NX {b c:Nat->Nat}(h: ∀i,i<64->b i=c i): ∀n,wl b n=wl c n
 |0=>rfl
 |n+1=>by
  unfold wl;rw[NX h n];unfold nxt;by_cases hn:n<16
  ·rw[j_ hn,j_ hn];unfold wrd;rw[h _ (by omega),h _ (by omega),h _ (by omega),h _ (by omega)]
  ·rw[i_ hn,i_ hn]
theorem FZ {b c:Nat->Nat}(h: ∀i,i<64->b i=c i):wf b=wf c:=by
 funext t;unfold wf;rw[NX h]
def t1f (v:Nat->Nat)(k w:Nat):Nat:=v 7+bs1 (v 4)+chf (v 4) (v 5) (v 6)+k+w
def t2f (v:Nat->Nat):Nat:=bs0 (v 0)+mjf (v 0) (v 1) (v 2)
def stp (v:Nat->Nat)(k w:Nat)(i:Nat):Nat:=
 if i=0 then(t1f v k w+t2f v)%4294967296 else if i=4 then(v 3+t1f v k w)%4294967296 else v (i-1)
theorem yo {v:Nat->Nat}(hv: ∀i,v i<4294967296)(k w i:Nat):stp v k w i<4294967296:=by
 unfold stp
 split
 ·exact Li _
 ·split
  ·exact Li _
  ·exact hv _
def rnd (W:Nat->Nat)(v:Nat->Nat):Nat->Nat->Nat
 |0=>v
 |t+1=>stp (rnd W v t) (kf t) (W t)
theorem Dk {W v:Nat->Nat}(hv: ∀i,v i<4294967296): ∀t i,rnd W v t i<4294967296
 |0=>hv
 |t+1=>yo (Dk hv t) _ _
def cmp (v b:Nat->Nat)(i:Nat):Nat:=(v i+rnd (wf b) v 64 i)%4294967296
theorem B4 (v b:Nat->Nat)(i:Nat):cmp v b i<4294967296:=Li _
theorem It {v b c:Nat->Nat}(h: ∀i,i<64->b i=c i):cmp v b=cmp v c:=by
 funext i;unfold cmp;rw[FZ h]
def ab (f:Nat->Nat):Nat->Nat->Nat
 |0=>ivf
 |n+1=>cmp (ab f n) fun i=>f (64*n+i)
theorem xY (f:Nat->Nat): ∀n i,ab f n i<4294967296
 |0=>yj
 |_+1=>B4 _ _
theorem NY {f g:Nat->Nat}: ∀n,(∀i,i<64*n->f i=g i)->ab f n=ab g n
 |0,_=>rfl
 |n+1,h=>by
  unfold ab;rw[NY n fun i hi=>h i (by omega)];exact It fun i hi=>h _ (by omega)
def bf (l:List UInt8)(i:Nat):Nat:=(l.getD i 0).toNat
theorem yp (l:List UInt8)(i:Nat):bf l i<256:=UInt8.toNat_lt _
theorem Iu (l s:List UInt8)(i:Nat)(h:i<l.length):bf (l++s) i=bf l i:=by
 unfold bf;rw[u_,u_,eB0 h]
theorem Iw (l:List UInt8)(k i:Nat):bf (l.drop k) i=bf l (k+i):=by
 unfold bf;rw[u_,u_,List.getElem?_drop]
def be8 (m:Nat):List UInt8:=(List.range 8).map fun k=>UInt8.ofNat (m/2^(8*(7-k))%256)
def zs (n:Nat):Nat:=(119-n%64)%64
def tl (n:Nat):List UInt8:=128::(List.replicate (zs n) 0++be8 (8*n))
theorem Ll (m:Nat):(be8 m).length=8:=by simp[be8]
theorem Po (n:Nat):(tl n).length=9+zs n:=by simp[tl,Ll];omega
def sw (l:List UInt8):Nat->Nat:=ab (bf l) (l.length/64)
def NZ (v:Nat->Nat):List UInt8:=(List.range 32).map fun i=>UInt8.ofNat (v (i/4)/2^(8*(3-i%4))%256)
theorem V3 (v:Nat->Nat):(NZ v).length=32:=by simp[NZ]
def sha (l:List UInt8):List UInt8:=NZ (sw (l++tl l.length))
open Go.RowKit
def rC (k:IntKind)(n:Nat)(u:Nat->Nat):Array Value:=Array.ofFn (n:=n) fun i=>.int k (u i:Nat)
theorem Yc (k:IntKind)(n:Nat)(u:Nat->Nat):(rC k n u).size=n:=by simp[rC]
theorem Yx (k:IntKind)(n:Nat)(u:Nat->Nat)(i:Nat)(h:i<n):(rC k n u)[i]?=some (.int k (u i:Nat)):=by simp[rC,h]
theorem S9 (k:IntKind)(n:Nat)(u v:Nat->Nat)(i N:Nat)(hv: ∀j,j<n->v j=if j=i then N else u j):(rC k n u).setIfInBounds i (.int k (N:Nat))=rC k n v:=by
 apply C_;intro j;by_cases hj:j<n
 ·rw[Yx k n v j hj,U_,hv j hj];by_cases e:i=j
  ·subst e;rw[j_ rfl,j_ (by rw[Yc];exact hj),j_ rfl]
  ·rw[i_ e,i_ (fun x=>e x.symm),Yx k n u j hj]
 ·rw[h_ (by rw[eI0,Yc];omega),h_ (by rw[Yc];omega)]
theorem Pp (k:IntKind)(n:Nat)(u:Nat->Nat):(rC k n u).all (·.oneCell')=true:=by
 rw[gL0];intro i hi;simp[rC];rfl
theorem N0 (k:IntKind)(n:Nat){u v:Nat->Nat}(h: ∀i,i<n->u i=v i):rC k n u=rC k n v:=by
 apply C_;intro j;by_cases hj:j<n
 ·rw[Yx k n u j hj,Yx k n v j hj,h j hj]
 ·rw[h_ (by rw[Yc];omega),h_ (by rw[Yc];omega)]
section
variable {P:Program}{o:Oper}{ρ:Operand->Value}
theorem Wg (t:TypeId)(x y:Operand)(u:TypeId)(ho:o.op= .binOp .add t x y u)(n m r:Nat)(hx:ρ x= .int .u32 n)(hy:ρ y= .int .u32 m)(hr:(n+m)%4294967296=r)(w:World):
  (execOp ρ o).run P w= .ok (.value (.int .u32 (r:Int))) w:=by
 subst hr;unfold execOp;simp only[ho,hx,hy];simp[go_sem];rw[IntKind.wrap_u32']
theorem Vn (t:TypeId)(x y:Operand)(u:TypeId)(ho:o.op= .binOp .xor t x y u)(n m:Nat)(hx:ρ x= .int .u32 n)(hy:ρ y= .int .u32 m)(hn:n<4294967296)(hm:m<4294967296)(w:World):
  (execOp ρ o).run P w= .ok (.value (.int .u32 ((n^^^m:Nat):Int))) w:=by
 unfold execOp;simp only[ho,hx,hy];simp[go_sem];rw[u32_xor_nat n m hn hm]
theorem Sr (t:TypeId)(x y:Operand)(u:TypeId)(ho:o.op= .binOp .and t x y u)(n m:Nat)(hx:ρ x= .int .u32 n)(hy:ρ y= .int .u32 m)(hn:n<4294967296)(hm:m<4294967296)(w:World):
  (execOp ρ o).run P w= .ok (.value (.int .u32 ((n&&&m:Nat):Int))) w:=by
 unfold execOp;simp only[ho,hx,hy];simp[go_sem];rw[u32_and_nat n m hn hm]
theorem Ss (t:TypeId)(x y:Operand)(u:TypeId)(ho:o.op= .binOp .or t x y u)(n m:Nat)(hx:ρ x= .int .u32 n)(hy:ρ y= .int .u32 m)(hn:n<4294967296)(hm:m<4294967296)(w:World):
  (execOp ρ o).run P w= .ok (.value (.int .u32 ((n|||m:Nat):Int))) w:=by
 unfold execOp;simp only[ho,hx,hy];simp[go_sem];rw[u32_or_nat n m hn hm]
theorem B5 (n:Nat)(hn:n<4294967296):4294967295^^^n=4294967295-n:=by
 apply y_;intro i;have h1:=Nat.testBit_two_pow_sub_succ (n:=32) hn i;rw[show 2^32-(n+1)=4294967295-n by omega]at h1
 have h2:(4294967295:Nat).testBit i=decide (i<32):=by
  rw[show(4294967295:Nat)=2^32-1 from rfl,Nat.testBit_two_pow_sub_one]
 rw[h1,hI0,h2];by_cases h:i<32
 ·rw[d_ h]
  cases n.testBit i<;>rfl
 ·rw[e_ h,eY0 (l_ hn (by
   have:2^32<=2^i:=aF0 (by omega) (by omega)
   simpa using this))]
  rfl
theorem B6 (t:TypeId)(x:Operand)(ho:o.op= .unOp .xor t x)(n:Nat)(hx:ρ x= .int .u32 n)(hn:n<4294967296)(w:World):
  (execOp ρ o).run P w= .ok (.value (.int .u32 ((4294967295-n:Nat):Int))) w:=by
 have h:bits .xor .u32 4294967295 (n:Int)=((4294967295-n:Nat):Int):=by
  rw[show(4294967295:Int)=((4294967295:Nat):Int)from rfl,u32_xor_nat _ n (by decide) hn,B5 n hn]
 unfold execOp;simp only[ho,hx];simp[go_sem];exact h
theorem R6 (t:TypeId)(x y:Operand)(u:TypeId)(ho:o.op= .binOp .shr t x y u)(n s:Nat)(k:IntKind)(hx:ρ x= .int .u32 n)(hy:ρ y= .int k s)(hs:s<=32)(w:World):
  (execOp ρ o).run P w= .ok (.value (.int .u32 ((n/2^s:Nat):Int))) w:=by
 unfold execOp;simp only[ho,hx,hy];simp[go_sem]
theorem R7 (t:TypeId)(x y:Operand)(u:TypeId)(ho:o.op= .binOp .shl t x y u)(n s r:Nat)(k:IntKind)(hx:ρ x= .int .u32 n)(hy:ρ y= .int k s)(hs:s<=32)(hr:n*2^s%4294967296=r)(w:World):
  (execOp ρ o).run P w= .ok (.value (.int .u32 (r:Int))) w:=by
 subst hr;unfold execOp;simp only[ho,hx,hy];simp[go_sem];rw[IntKind.wrap_u32']
theorem XE (t:TypeId)(x y:Operand)(u:TypeId)(ho:o.op= .binOp .add t x y u)(n m:Nat)(hx:ρ x= .int .i64 n)(hy:ρ y= .int .i64 m)(h:n+m<9223372036854775808)(w:World):
  (execOp ρ o).run P w= .ok (.value (.int .i64 ((n+m:Nat):Int))) w:=by
 unfold execOp;simp only[ho,hx,hy];simp[go_sem];rw[J_];omega
theorem Su (t:TypeId)(x y:Operand)(u:TypeId)(ho:o.op= .binOp .sub t x y u)(n m:Nat)(hx:ρ x= .int .i64 n)(hy:ρ y= .int .i64 m)(hm:m<=n)(h:n<9223372036854775808)(w:World):
  (execOp ρ o).run P w= .ok (.value (.int .i64 ((n-m:Nat):Int))) w:=by
 unfold execOp;simp only[ho,hx,hy];simp[go_sem];rw[J_];omega
theorem N1 (t:TypeId)(x y:Operand)(u:TypeId)(ho:o.op= .binOp .mul t x y u)(n m r:Nat)(hx:ρ x= .int .i64 n)(hy:ρ y= .int .i64 m)(hr:n*m=r)(h:r<9223372036854775808)(w:World):
  (execOp ρ o).run P w= .ok (.value (.int .i64 (r:Int))) w:=by
 subst hr;unfold execOp;simp only[ho,hx,hy];simp[go_sem];rw[<-cJ0,J_];omega
theorem yq (t:TypeId)(x:Operand)(ho:o.op= .unOp .neg t x)(n:Nat)(hx:ρ x= .int .i64 n)(h:n<9223372036854775808)(w:World):
  (execOp ρ o).run P w= .ok (.value (.int .i64 (-(n:Int)))) w:=by
 unfold execOp;simp only[ho,hx];simp[go_sem];rw[J_];omega
theorem B7 (t:TypeId)(x y:Operand)(u:TypeId)(ho:o.op= .binOp .add t x y u)(n m:Nat)(hx:ρ x= .int .u64 n)(hy:ρ y= .int .u64 m)(h:n+m<18446744073709551616)(w:World):
  (execOp ρ o).run P w= .ok (.value (.int .u64 ((n+m:Nat):Int))) w:=by
 unfold execOp;simp only[ho,hx,hy];simp[go_sem];rw[P_];omega
theorem B8 (t:TypeId)(x y:Operand)(u:TypeId)(ho:o.op= .binOp .sub t x y u)(n m:Nat)(hx:ρ x= .int .u64 n)(hy:ρ y= .int .u64 m)(hm:m<=n)(h:n<18446744073709551616)(w:World):
  (execOp ρ o).run P w= .ok (.value (.int .u64 ((n-m:Nat):Int))) w:=by
 unfold execOp;simp only[ho,hx,hy];simp[go_sem];rw[P_];omega
theorem B9 (t:TypeId)(x y:Operand)(u:TypeId)(ho:o.op= .binOp .mul t x y u)(n m r:Nat)(hx:ρ x= .int .u64 n)(hy:ρ y= .int .u64 m)(hr:n*m=r)(h:r<18446744073709551616)(w:World):
  (execOp ρ o).run P w= .ok (.value (.int .u64 (r:Int))) w:=by
 subst hr;unfold execOp;simp only[ho,hx,hy];simp[go_sem];rw[<-cJ0,P_];omega
theorem Aa (t:TypeId)(x y:Operand)(u:TypeId)(ho:o.op= .binOp .shr t x y u)(n s:Nat)(k:IntKind)(hx:ρ x= .int .u64 n)(hy:ρ y= .int k s)(hs:s<=64)(w:World):
  (execOp ρ o).run P w= .ok (.value (.int .u64 ((n/2^s:Nat):Int))) w:=by
 unfold execOp;simp only[ho,hx,hy];simp[go_sem]
theorem Ab (t:TypeId)(x y:Operand)(u:TypeId)(ho:o.op= .binOp .rem t x y u)(n m:Nat)(hx:ρ x= .int .u64 n)(hy:ρ y= .int .u64 m)(hm:0<m)(w:World):
  (execOp ρ o).run P w= .ok (.value (.int .u64 ((n%m:Nat):Int))) w:=by
 have h0: ¬(m=0):=by omega
 unfold execOp;simp only[ho,hx,hy];simp[go_sem];rw[i_ h0,dS0 (by omega)]
theorem Ac (t:TypeId)(x y:Operand)(u:TypeId)(ho:o.op= .binOp .and t x y u)(n m r:Nat)(hx:ρ x= .int .u64 n)(hy:ρ y= .int .u64 m)(hn:n<18446744073709551616)(hm:m<18446744073709551616)(hr:n&&&m=r)(w:World):
  (execOp ρ o).run P w= .ok (.value (.int .u64 (r:Int))) w:=by
 subst hr;unfold execOp;simp only[ho,hx,hy];simp[go_sem];rw[u64_and_nat n m hn hm]
theorem Uu (s d:TypeId)(x:Operand)(ho:o.op= .convert s d x)(ks kd:IntKind)(hs:P.underlying s=some (.int ks))(hd:P.underlying d=some (.int kd))(n:Int)(r:Int)(hx:ρ x= .int ks n)(hr:kd.wrap n=r)(w:World):
  (execOp ρ o).run P w= .ok (.value (.int kd r)) w:=by
 subst hr;unfold execOp;simp only[ho,hx];simp[convert,V_ hs,V_ hd,go_sem]
theorem wF (n:Nat)(r:Nat)(h:n%256=r):IntKind.u8.wrap (n:Int)=(r:Int):=by rw[IntKind.wrap_u8'];omega
theorem F0 (n:Nat)(r:Nat)(h:n%4294967296=r):IntKind.u32.wrap (n:Int)=(r:Int):=by rw[IntKind.wrap_u32'];omega
theorem xZ (n:Nat)(h:n<18446744073709551616):IntKind.u64.wrap (n:Int)=(n:Int):=by rw[P_];omega
theorem Dl (t:TypeId)(x:Operand)(ho:o.op= .call {callee:=.builtin .len,args:=#[x],argTypes:=#[t]})(s:ByteArray)(hx:ρ x= .string s)(hu:P.underlying t=some .string)(w:World):
  (execOp ρ o).run P w= .ok (.value (.int .i64 s.size)) w:=by
 unfold execOp;simp only[ho];simp[resolve,invoke,builtin,hx,go_sem,goInt,hu]
theorem PC (t:TypeId)(x y:Operand)(u:TypeId)(ho:o.op= .binOp .lss t x y u)(n m:Int)(hx:ρ x= .int .i64 n)(hy:ρ y= .int .i64 m)(b:Bool)(hb:decide (n<m)=b)(w:World):
  (execOp ρ o).run P w= .ok (.value (.bool b)) w:=by
 subst hb;unfold execOp;simp only[ho,hx,hy];simp[go_sem]
theorem Dm (t:TypeId)(x y:Operand)(u:TypeId)(ho:o.op= .binOp .eql t x y u)(q:Option Addr)(hx:ρ x= .pointer q)(hy:ρ y= .pointer none)(e:TypeId)(ht:P.underlying t=some (.pointer e))(w:World):
  (execOp ρ o).run P w= .ok (.value (.bool q.isNone)) w:=by
 have ht':P.underlying t=some (.pointer (P.pointee t)):=by simp[Program.pointee,ht]
 unfold execOp;simp only[ho,hx,hy];simp[eqGuard,run_eql_pointer_nil w t q ht']
end
theorem Ad (n:Nat)(h1:1<=n)(h2:n<=31):(18446744073709551616-n)&&&31=32-n:=by
 rw[show 31=2^5-1 from rfl,cX0];omega
theorem F3 (x n:Nat)(w:World)(hx:x<4294967296)(h1:1<=n)(h2:n<=31):
  Calls prog 214 #[.int .u32 x,.int .i64 (-(n:Int))] w fun e w'=>e= .returned (.int .u32 (rr x n:Nat))/\Below w.heap.size w w':=by
 go_enter func214,ntmps214
 iterate 2 go_step
 apply Za [] [_] trivial a_
 ·intro p;refine Ze (.int .u32 0) (fun _=>rfl) ?_;simp only[pv];refine Zf ?_;intro w2 hkw hrw hnew hdis;have sb:=k_b hkw;clear hkw hrw hnew hdis;iterate 3 go_step
  refine ZB ?_;refine q_m ?_;simp only[pv];refine q_v (.int .u64 (18446744073709551616-n:Nat)) (Uu _ _ _ rfl .i64 .u64 bS0 underlying42 (-(n:Int)) _ rfl (by rw[P_];omega)) ?_;simp only[pv];refine q_v (.int .u64 (32-n:Nat)) (Ac _ _ _ _ rfl (18446744073709551616-n) 31 _ rfl rfl (by omega) (by decide) (Ad n h1 h2)) ?_;refine q_a ?_;simp only[pv];refine ZR ?_;intro w3 hqb;replace sb:=b_o sb hqb;clear hqb;iterate 3 go_step
  refine ZB ?_;refine q_m ?_;refine q_m ?_;simp only[pv];refine q_v (.int .u32 (x*2^(32-n)%4294967296:Nat)) (R7 _ _ _ _ rfl x (32-n) _ .u64 rfl rfl (by omega) rfl) ?_;refine q_m ?_;refine q_m ?_;simp only[pv];refine q_v (.int .u64 (n:Nat)) ((fun w'=>(B8 _ _ _ _ rfl 32 (32-n) rfl rfl (by omega) (by decide) w').trans (by rw[show 32-(32-n)=n by omega]))) ?_;simp only[pv];refine q_v _ (R6 _ _ _ _ rfl (x) (n) .u64 rfl rfl (by omega)) ?_;simp only[pv];refine q_v (.int .u32 (rr x n:Nat)) ((fun w'=>(Ss _ _ _ _ rfl (x*2^(32-n)%4294967296) (x/2^n) rfl rfl (Li _) (FY hx) w').trans (by rw[Nat.or_comm];rfl))) ?_;refine q_a ?_;simp only[pv];refine ZR ?_;intro w4 hqb;replace sb:=b_o sb hqb;clear hqb;go_wp2;go_ret;exact⟨rfl,sb⟩
 ·rfl
theorem XN (x n:Nat)(w:World)(hx:x<4294967296)(h1:1<=n)(h2:n<=31):
  Calls prog 213 #[.int .u32 x,.int .i64 n] w fun e w'=>e= .returned (.int .u32 (rr x n:Nat))/\Below w.heap.size w w':=by
 go_enter iD0,ntmps213
 iterate 2 go_step
 apply Za [] [_] trivial a_
 ·intro p;refine Ze (.int .u32 0) (fun _=>rfl) ?_;simp only[pv];refine Zf ?_;intro w2 hkw hrw hnew hdis;have sb:=k_b hkw;clear hkw hrw hnew hdis;iterate 3 go_step
  refine ZB ?_;refine q_m ?_;refine q_m ?_;simp only[pv];refine q_v _ (yq _ _ rfl n rfl (by omega)) ?_;simp only[pv];refine q_c 214 func214 #[.int .u32 x,.int .i64 (-(n:Int))] (fun w'=>F3 x n w' hx h1 h2) ?_;refine q_a ?_;simp only[pv];refine ZR ?_;intro w3 hqb;replace sb:=b_o sb hqb;clear hqb;go_wp2;go_ret;exact⟨rfl,sb⟩
 ·rfl
theorem Lp (x:Nat)(w:World)(hx:x<4294967296):
  Calls prog 212 #[.int .u32 x] w fun e w'=>e= .returned (.int .u32 (ss0 x:Nat))/\Below w.heap.size w w':=by
 go_enter func212,ntmps212
 iterate 2 go_step
 apply Za [] [_] trivial a_
 ·intro p;refine Ze (.int .u32 0) (fun _=>rfl) ?_;simp only[pv];refine Zf ?_;intro w2 hkw hrw hnew hdis;have sb:=k_b hkw;clear hkw hrw hnew hdis;iterate 3 go_step
  refine ZB ?_;refine q_m ?_;simp only[pv];refine q_c 213 iD0 #[.int .u32 x,.int .i64 7] (fun w'=>XN x 7 w' hx (by decide) (by decide)) ?_;refine q_m ?_;simp only[pv];refine q_c 213 iD0 #[.int .u32 x,.int .i64 18] (fun w'=>XN x 18 w' hx (by decide) (by decide)) ?_;simp only[pv];refine q_v _ (Vn _ _ _ _ rfl (rr x 7) (rr x 18) rfl rfl (WZ 7 hx) (WZ 18 hx)) ?_;refine q_m ?_;simp only[pv];refine q_v _ (R6 _ _ _ _ rfl (x) (3) .u64 rfl rfl (by omega)) ?_;simp only[pv];refine q_v _ (Vn _ _ _ _ rfl ((rr x 7)^^^(rr x 18)) ((x)/2^3) rfl rfl (FW (WZ 7 hx) (WZ 18 hx)) (FY hx)) ?_;refine q_a ?_;simp only[pv];refine ZR ?_;intro w3 hqb;replace sb:=b_o sb hqb;clear hqb;go_wp2;go_ret;exact⟨rfl,sb⟩
 ·rfl
theorem Lq (x:Nat)(w:World)(hx:x<4294967296):
  Calls prog 211 #[.int .u32 x] w fun e w'=>e= .returned (.int .u32 (ss1 x:Nat))/\Below w.heap.size w w':=by
 go_enter func211,ntmps211
 iterate 2 go_step
 apply Za [] [_] trivial a_
 ·intro p;refine Ze (.int .u32 0) (fun _=>rfl) ?_;simp only[pv];refine Zf ?_;intro w2 hkw hrw hnew hdis;have sb:=k_b hkw;clear hkw hrw hnew hdis;iterate 3 go_step
  refine ZB ?_;refine q_m ?_;simp only[pv];refine q_c 213 iD0 #[.int .u32 x,.int .i64 17] (fun w'=>XN x 17 w' hx (by decide) (by decide)) ?_;refine q_m ?_;simp only[pv];refine q_c 213 iD0 #[.int .u32 x,.int .i64 19] (fun w'=>XN x 19 w' hx (by decide) (by decide)) ?_;simp only[pv];refine q_v _ (Vn _ _ _ _ rfl (rr x 17) (rr x 19) rfl rfl (WZ 17 hx) (WZ 19 hx)) ?_;refine q_m ?_;simp only[pv];refine q_v _ (R6 _ _ _ _ rfl (x) (10) .u64 rfl rfl (by omega)) ?_;simp only[pv];refine q_v _ (Vn _ _ _ _ rfl ((rr x 17)^^^(rr x 19)) ((x)/2^10) rfl rfl (FW (WZ 17 hx) (WZ 19 hx)) (FY hx)) ?_;refine q_a ?_;simp only[pv];refine ZR ?_;intro w3 hqb;replace sb:=b_o sb hqb;clear hqb;go_wp2;go_ret;exact⟨rfl,sb⟩
 ·rfl
theorem F4 (x:Nat)(w:World)(hx:x<4294967296):
  Calls prog 202 #[.int .u32 x] w fun e w'=>e= .returned (.int .u32 (bs0 x:Nat))/\Below w.heap.size w w':=by
 go_enter func202,ntmps202
 iterate 2 go_step
 apply Za [] [_] trivial a_
 ·intro p;refine Ze (.int .u32 0) (fun _=>rfl) ?_;simp only[pv];refine Zf ?_;intro w2 hkw hrw hnew hdis;have sb:=k_b hkw;clear hkw hrw hnew hdis;iterate 3 go_step
  refine ZB ?_;refine q_m ?_;simp only[pv];refine q_c 213 iD0 #[.int .u32 x,.int .i64 2] (fun w'=>XN x 2 w' hx (by decide) (by decide)) ?_;refine q_m ?_;simp only[pv];refine q_c 213 iD0 #[.int .u32 x,.int .i64 13] (fun w'=>XN x 13 w' hx (by decide) (by decide)) ?_;simp only[pv];refine q_v _ (Vn _ _ _ _ rfl (rr x 2) (rr x 13) rfl rfl (WZ 2 hx) (WZ 13 hx)) ?_;refine q_m ?_;simp only[pv];refine q_c 213 iD0 #[.int .u32 x,.int .i64 22] (fun w'=>XN x 22 w' hx (by decide) (by decide)) ?_;simp only[pv];refine q_v _ (Vn _ _ _ _ rfl ((rr x 2)^^^(rr x 13)) (rr x 22) rfl rfl (FW (WZ 2 hx) (WZ 13 hx)) (WZ 22 hx)) ?_;refine q_a ?_;simp only[pv];refine ZR ?_;intro w3 hqb;replace sb:=b_o sb hqb;clear hqb;go_wp2;go_ret;exact⟨rfl,sb⟩
 ·rfl
theorem F5 (x:Nat)(w:World)(hx:x<4294967296):
  Calls prog 200 #[.int .u32 x] w fun e w'=>e= .returned (.int .u32 (bs1 x:Nat))/\Below w.heap.size w w':=by
 go_enter func200,ntmps200
 iterate 2 go_step
 apply Za [] [_] trivial a_
 ·intro p;refine Ze (.int .u32 0) (fun _=>rfl) ?_;simp only[pv];refine Zf ?_;intro w2 hkw hrw hnew hdis;have sb:=k_b hkw;clear hkw hrw hnew hdis;iterate 3 go_step
  refine ZB ?_;refine q_m ?_;simp only[pv];refine q_c 213 iD0 #[.int .u32 x,.int .i64 6] (fun w'=>XN x 6 w' hx (by decide) (by decide)) ?_;refine q_m ?_;simp only[pv];refine q_c 213 iD0 #[.int .u32 x,.int .i64 11] (fun w'=>XN x 11 w' hx (by decide) (by decide)) ?_;simp only[pv];refine q_v _ (Vn _ _ _ _ rfl (rr x 6) (rr x 11) rfl rfl (WZ 6 hx) (WZ 11 hx)) ?_;refine q_m ?_;simp only[pv];refine q_c 213 iD0 #[.int .u32 x,.int .i64 25] (fun w'=>XN x 25 w' hx (by decide) (by decide)) ?_;simp only[pv];refine q_v _ (Vn _ _ _ _ rfl ((rr x 6)^^^(rr x 11)) (rr x 25) rfl rfl (FW (WZ 6 hx) (WZ 11 hx)) (WZ 25 hx)) ?_;refine q_a ?_;simp only[pv];refine ZR ?_;intro w3 hqb;replace sb:=b_o sb hqb;clear hqb;go_wp2;go_ret;exact⟨rfl,sb⟩
 ·rfl
theorem Lr (x y z:Nat)(w:World)(hx:x<4294967296)(hy:y<4294967296)(hz:z<4294967296):
  Calls prog 201 #[.int .u32 x,.int .u32 y,.int .u32 z] w fun e w'=>e= .returned (.int .u32 (chf x y z:Nat))/\Below w.heap.size w w':=by
 go_enter func201,ntmps201
 iterate 2 go_step
 apply Za [] [_] trivial a_
 ·intro p;refine Ze (.int .u32 0) (fun _=>rfl) ?_;simp only[pv];refine Zf ?_;intro w2 hkw hrw hnew hdis;have sb:=k_b hkw;clear hkw hrw hnew hdis;iterate 3 go_step
  refine ZB ?_;refine q_m ?_;refine q_m ?_;simp only[pv];refine q_v _ (Sr _ _ _ _ rfl (x) (y) rfl rfl hx hy) ?_;refine q_m ?_;simp only[pv];refine q_v _ (B6 _ _ rfl (x) rfl hx) ?_;refine q_m ?_;simp only[pv];refine q_v _ (Sr _ _ _ _ rfl (4294967295-(x)) (z) rfl rfl (by omega) hz) ?_;simp only[pv];refine q_v _ (Ss _ _ _ _ rfl ((x)&&&(y)) ((4294967295-(x))&&&(z)) rfl rfl (OR hx) (OR (by omega))) ?_;refine q_a ?_;simp only[pv];refine ZR ?_;intro w3 hqb;replace sb:=b_o sb hqb;clear hqb;go_wp2;go_ret;exact⟨by rw[<-xW x y z hx];rfl,sb⟩
 ·rfl
theorem Ix (x y z:Nat)(w:World)(hx:x<4294967296)(hy:y<4294967296)(hz:z<4294967296):
  Calls prog 203 #[.int .u32 x,.int .u32 y,.int .u32 z] w fun e w'=>e= .returned (.int .u32 (mjf x y z:Nat))/\Below w.heap.size w w':=by
 go_enter func203,ntmps203
 iterate 2 go_step
 apply Za [] [_] trivial a_
 ·intro p;refine Ze (.int .u32 0) (fun _=>rfl) ?_;simp only[pv];refine Zf ?_;intro w2 hkw hrw hnew hdis;have sb:=k_b hkw;clear hkw hrw hnew hdis;iterate 3 go_step
  refine ZB ?_;refine q_m ?_;refine q_m ?_;simp only[pv];refine q_v _ (Sr _ _ _ _ rfl (x) (y) rfl rfl hx hy) ?_;refine q_m ?_;refine q_m ?_;simp only[pv];refine q_v _ (Sr _ _ _ _ rfl (x) (z) rfl rfl hx hz) ?_;simp only[pv];refine q_v _ (Ss _ _ _ _ rfl ((x)&&&(y)) ((x)&&&(z)) rfl rfl (OR hx) (OR hx)) ?_;refine q_m ?_;refine q_m ?_;simp only[pv];refine q_v _ (Sr _ _ _ _ rfl (y) (z) rfl rfl hy hz) ?_;simp only[pv];refine q_v _ (Ss _ _ _ _ rfl (((x)&&&(y))|||((x)&&&(z))) ((y)&&&(z)) rfl rfl (Di (OR hx) (OR hx)) (OR hy)) ?_;refine q_a ?_;simp only[pv];refine ZR ?_;intro w3 hqb;replace sb:=b_o sb hqb;clear hqb;go_wp2;go_ret;exact⟨by rw[<-xX x y z];rfl,sb⟩
 ·rfl
theorem lt8 {n:Nat}(h:n<256):n<4294967296:=by omega
theorem Iy:(prog.info? 197).map (fun i=>(i.zero,i.size))=some (some (.agg (rC .u32 8 fun _=>0)),8):=by kernel_rfl
theorem Iz (w:World):(zeroValue 197).run prog w= .ok (.agg (rC .u32 8 fun _=>0)) w:=(Q_ Iy).1 w
theorem UP:(prog.info? 197).map (·.size)=some 8:=(Q_ Iy).2
theorem N2:(prog.info? 228).map (fun i=>(i.zero,i.size))=some (some (.agg (rC .u32 64 fun _=>0)),64):=by kernel_rfl
theorem R8 (w:World):(zeroValue 228).run prog w= .ok (.agg (rC .u32 64 fun _=>0)) w:=(Q_ N2).1 w
theorem Tj:(prog.info? 228).map (·.size)=some 64:=(Q_ N2).2
theorem F6:(prog.info? 198).map (fun i=>(i.zero,i.size))=some (some (.agg (rC .u8 64 fun _=>0)),64):=by kernel_rfl
theorem N4:(prog.info? 198).map (·.size)=some 64:=(Q_ F6).2
theorem F7:(prog.info? 164).map (fun i=>(i.zero,i.size))=some (some (.agg (rC .u8 32 fun _=>0)),32):=by kernel_rfl
theorem F8 (w:World):(zeroValue 164).run prog w= .ok (.agg (rC .u8 32 fun _=>0)) w:=(Q_ F7).1 w
theorem N5 (v:Nat->Nat):prog.built 197 [(0,.int .u32 (v 0:Nat)),(1,.int .u32 (v 1:Nat)),(2,.int .u32 (v 2:Nat)),(3,.int .u32 (v 3:Nat)),(4,.int .u32 (v 4:Nat)),(5,.int .u32 (v 5:Nat)),(6,.int .u32 (v 6:Nat)),(7,.int .u32 (v 7:Nat))]=some (rC .u32 8 v):=by kernel_rfl
theorem UQ {P:Program}{o:Oper}{ρ:Operand->Value}(t:TypeId)(l:List (Nat×Operand))(ho:o.op= .build t l.toArray)(vs:List (Nat×Value))(hv:l.map (fun q=>(q.1,ρ q.2))=vs)(c:Array Value)(hb:P.built t vs=some c)(w:World):
  (execOp ρ o).run P w= .ok (.value (.agg c)) w:=by
 unfold execOp;simp only[ho,cF0,p_];rw[show(l.map fun x=>match x with|(i,y)=>(i,ρ y))=vs from hv,iE0 w t vs.toArray c (by simpa using hb)];rfl
def W0 (F:Nat->Nat)(i j:Nat):Nat:=if j<i then F j else 0
theorem Tk (F:Nat->Nat)(i N:Nat)(hN:F i=N)(n:Nat): ∀j,j<n->W0 F (i+1) j=if j=i then N else W0 F i j:=by
 intro j _;unfold W0;by_cases e:j=i
 ·subst e;rw[j_ rfl,j_ (by omega),hN]
 ·rw[i_ e];by_cases h:j<i
  ·rw[j_ h,j_ (by omega)]
  ·rw[i_ h,i_ (by omega)]
theorem V4 (F:Nat->Nat)(i j:Nat)(h:j<i):W0 F i j=F j:=j_ h
theorem Pq (F:Nat->Nat):W0 F 0=fun _=>0:=by funext j;unfold W0;rw[i_ (by omega)]
structure SpH (wr w:World)(g1 g2 g3:Nat)(b u:Nat->Nat):Prop where
 x:Row wr g1 (rC .u8 64 b) 198
 z:Row wr g2 (rC .u32 64 fun _=>0) 228
 o:Row wr g3 (rC .u32 64 u) 228
 below:Below w.heap.size w wr
theorem Ls (b:Nat->Nat)(hb: ∀i,b i<256)(w:World):
  Calls prog 199 #[.agg (rC .u8 64 b)] w fun e w'=>e= .returned (.agg (rC .u32 64 (wf b)))/\Below w.heap.size w w':=by
 go_enter func199,ntmps199
 iterate 2 go_step
 apply Za [] [_,_] trivial a_
 ·intro p;refine Ya 198 _ rfl _ rfl ?_;simp only[pv];refine XP 228 rfl _ R8 ?_;simp only[pv];refine Zf ?_;intro w2 hkw hrw hnew hdis;have n1:=hnew 0 rfl;have n2:=hnew 1 rfl;have zr1:Row w2 (p 0) (rC .u8 64 b) 198:=hrw 1 (198,rC .u8 64 b) rfl;have zr2:Row w2 (p 1) (rC .u32 64 fun _=>0) 228:=hrw 3 (228,rC .u32 64 fun _=>0) rfl;have d1x2:=hdis 0 1 (by omega) rfl rfl;have sb:=k_b hkw;have b2:w.heap.size<=p 1:=n2;clear hkw hrw hnew hdis n1 n2;generalize p 0=g1 at*;generalize p 1=g2 at*;have r1:=zr1;clear zr1;have r2:=zr2;clear zr2;iterate 3 go_step
  apply Za [] [_] trivial a_
  ·intro p;refine XP 228 rfl _ R8 ?_;simp only[pv];refine Zf ?_;intro w3 hkw hrw hnew hdis;have n3:=hnew 0 rfl;have zr3:Row w3 (p 0) (rC .u32 64 fun _=>0) 228:=hrw 1 (228,rC .u32 64 fun _=>0) rfl;have d1x3:=l_l r1.lt n3;have d2x3:=l_l r2.lt n3;replace r1:=hkw.ro r1;replace r2:=hkw.ro r2;have b3:=f_ sb.size n3;replace sb:=kk sb hkw;clear hkw hrw hnew hdis n3;generalize p 0=g3 at*;have r3:=zr3;clear zr3;have H0:SpH w3 w g1 g2 g3 b (W0 (wf b) 0):=⟨r1,r2,by rw[Pq];exact r3,sb⟩;have HX:Hid (g1≠g2/\g1≠g3/\g2≠g3/\w.heap.size<=g2/\w.heap.size<=g3):=⟨by omega,by omega,by omega,b2,b3⟩;clear r1 r2 r3 sb b2 b3 d1x2 d1x3 d2x3
   go_wp2_with fail
   go_loopg [8] 16 (fun g s8 wr=> ∃i:Nat,i+g=16/\s8= .int .i64 i/\SpH wr w g1 g2 g3 b (W0 (wf b) i))
   case atStart=>exact⟨0,by omega,rfl,H0⟩
   case round=>
    obtain⟨i,hi,rfl,r1,r2,r3,sb⟩:=hrel;obtain⟨x1,x2,x3,x4,x5⟩:=HX.out;clear H0
    cases gk with
    |zero=>
     obtain rfl:i=16:=by omega
     clear hi
     go_step
     apply Za [] [_] trivial a_
     ·intro p;refine Ze _ (PC _ _ _ _ rfl 16 16 rfl rfl false rfl) ?_;simp only[pv];refine Zf ?_;intro w4 hkw hrw hnew hdis;replace r1:=hkw.ro r1;replace r2:=hkw.ro r2;replace r3:=hkw.ro r3;replace sb:=kk sb hkw;clear hkw hrw hnew hdis;have H1:SpH w4 w g1 g2 g3 b (W0 (wf b) 16):=⟨r1,r2,r3,sb⟩;clear r1 r2 r3 sb x1 x2 x3 x4 x5
      go_wp2_with fail
      go_loopg [41] 48 (fun g s41 wr=> ∃i:Nat,i+g=48/\s41= .int .i64 i/\SpH wr w g1 g2 g3 b (W0 (wf b) (16+i)))
      case atStart=>exact⟨0,by omega,rfl,H1⟩
      case round=>
       obtain⟨i,hi,rfl,r1,r2,r3,sb⟩:=hrel;obtain⟨x1,x2,x3,x4,x5⟩:=HX.out;clear H1
       cases gk with
       |zero=>
        obtain rfl:i=48:=by omega
        clear hi
        go_step
        apply Za [] [_] trivial a_
        ·intro p;refine Ze _ (PC _ _ _ _ rfl 48 48 rfl rfl false rfl) ?_;simp only[pv];refine Zf ?_;intro w5 hkw hrw hnew hdis;replace r1:=hkw.ro r1;replace r2:=hkw.ro r2;replace r3:=hkw.ro r3;replace sb:=kk sb hkw;clear hkw hrw hnew hdis;iterate 8 go_step
         apply Za [(g2,228,rC .u32 64 fun _=>0)] [_,_] ⟨r2,trivial⟩ (by simp<;>omega)
         ·intro p;refine Xv 228 _ rfl _ rfl r3 (by simp<;>omega) 64 _ cW0 (by rw[Yc];exact Tj) ?_;simp only[pv];refine Xc 0 228 _ _ rfl rfl rfl (rC .u32 64 (W0 (wf b) (16+48))) rfl (by rw[Yc];exact Tj) (by simp only[Yc]) (Pp _ _ _) ?_;simp only[Act.put];refine Zf ?_;intro w6 hkw hrw hnew hdis;have zr2:Row w6 (g2) (rC .u32 64 (W0 (wf b) (16+48))) 228:=hrw 0 (228,rC .u32 64 (W0 (wf b) (16+48))) rfl;replace sb:=kk sb hkw;clear hkw hrw hnew hdis r2;have r2:=zr2;clear zr2;go_wp2;exact ZM rfl _ rfl r2 64 _ cW0 (by rw[Yc];exact Tj) rfl ⟨by rw[N0 .u32 64 fun i hi=>V4 (wf b) (16+48) i hi],sb⟩
         ·rfl
        ·rfl
       |succ g=>
        go_step
        apply Za [] [_] trivial a_
        ·intro p;refine Ze _ (PC _ _ _ _ rfl i 48 rfl rfl true (d_ (by omega))) ?_;simp only[pv];refine Zf ?_;intro w5 hkw hrw hnew hdis;replace r1:=hkw.ro r1;replace r2:=hkw.ro r2;replace r3:=hkw.ro r3;replace sb:=kk sb hkw;clear hkw hrw hnew hdis;iterate 10 go_step
         apply Za [] [_,_] trivial a_
         ·intro p;refine m_m ?_;refine m_a ?_;simp only[pv];refine Zf ?_;intro w6 hkw hrw hnew hdis;replace r1:=hkw.ro r1;replace r2:=hkw.ro r2;replace r3:=hkw.ro r3;replace sb:=kk sb hkw;clear hkw hrw hnew hdis;iterate 3 go_step
          apply Za [] [_,_,_] trivial a_
          ·intro p;refine m_m ?_;simp only[pv];refine Ze _ (XE _ _ _ _ rfl 16 i rfl rfl (by omega)) ?_;refine m_a ?_;simp only[pv];refine Zf ?_;intro w7 hkw hrw hnew hdis;replace r1:=hkw.ro r1;replace r2:=hkw.ro r2;replace r3:=hkw.ro r3;replace sb:=kk sb hkw;clear hkw hrw hnew hdis
           have hN:wf b (16+i)=(((ss1 (wf b (16+i-2))+wf b (16+i-7))%4294967296+ss0 (wf b (16+i-15)))%4294967296+wf b (16+i-16))%4294967296:=by
            rw[ym b _ (by omega)];generalize ss1 (wf b (16+i-2))=y1;generalize wf b (16+i-7)=y2;generalize ss0 (wf b (16+i-15))=y3;generalize wf b (16+i-16)=y4;omega
           iterate 2 go_step
           apply Zi (by kernel_rfl) [(g3,228,rC .u32 64 (W0 (wf b) (16+i)))] [_,_,_,_,_,_,_,_,_,_,_,_,_,_,_,_,_,_,_,_,_,_,_,_] ⟨r3,trivial⟩ (by simp<;>omega)
           ·intro p;refine m_m ?_;refine m_m ?_;simp only[pv];refine Ze _ (Su _ _ _ _ rfl (16+i) (2) rfl rfl (by omega) (by omega)) ?_;simp only[pv];refine Ze _ (Zt 228 _ _ rfl (g3) rfl (16+i-2) 64 rfl (by omega) _ cW0 cH0) ?_;simp only[pv];refine YY 0 196 _ rfl (16+i-2) rfl rfl (.int .u32 (wf b (16+i-2):Nat)) ((Yx _ _ _ _ (by omega)).trans (by rw[V4 _ _ _ (by omega)])) eC0 ?_;simp only[pv];refine m_c 211 func211 #[.int .u32 (wf b (16+i-2):Nat)] (fun w'=>Lq (wf b (16+i-2)) w' (yn hb _)) ?_;refine m_m ?_;simp only[pv];refine Ze _ (Su _ _ _ _ rfl (16+i) (7) rfl rfl (by omega) (by omega)) ?_;simp only[pv];refine Ze _ (Zt 228 _ _ rfl (g3) rfl (16+i-7) 64 rfl (by omega) _ cW0 cH0) ?_;simp only[pv];refine YY 0 196 _ rfl (16+i-7) rfl rfl (.int .u32 (wf b (16+i-7):Nat)) ((Yx _ _ _ _ (by omega)).trans (by rw[V4 _ _ _ (by omega)])) eC0 ?_;simp only[pv];refine Ze _ (Wg _ _ _ _ rfl (ss1 (wf b (16+i-2))) (wf b (16+i-7)) _ rfl rfl rfl) ?_;refine m_m ?_;simp only[pv];refine Ze _ (Su _ _ _ _ rfl (16+i) (15) rfl rfl (by omega) (by omega)) ?_;simp only[pv];refine Ze _ (Zt 228 _ _ rfl (g3) rfl (16+i-15) 64 rfl (by omega) _ cW0 cH0) ?_;simp only[pv];refine YY 0 196 _ rfl (16+i-15) rfl rfl (.int .u32 (wf b (16+i-15):Nat)) ((Yx _ _ _ _ (by omega)).trans (by rw[V4 _ _ _ (by omega)])) eC0 ?_;simp only[pv];refine m_c 212 func212 #[.int .u32 (wf b (16+i-15):Nat)] (fun w'=>Lp (wf b (16+i-15)) w' (yn hb _)) ?_;simp only[pv];refine Ze _ (Wg _ _ _ _ rfl ((ss1 (wf b (16+i-2))+wf b (16+i-7))%4294967296) (ss0 (wf b (16+i-15))) _ rfl rfl rfl) ?_;refine m_m ?_;simp only[pv];refine Ze _ (Su _ _ _ _ rfl (16+i) (16) rfl rfl (by omega) (by omega)) ?_;simp only[pv];refine Ze _ (Zt 228 _ _ rfl (g3) rfl (16+i-16) 64 rfl (by omega) _ cW0 cH0) ?_;simp only[pv];refine YY 0 196 _ rfl (16+i-16) rfl rfl (.int .u32 (wf b (16+i-16):Nat)) ((Yx _ _ _ _ (by omega)).trans (by rw[V4 _ _ _ (by omega)])) eC0 ?_;simp only[pv];refine Ze _ (Wg _ _ _ _ rfl (((ss1 (wf b (16+i-2))+wf b (16+i-7))%4294967296+ss0 (wf b (16+i-15)))%4294967296) (wf b (16+i-16)) _ rfl rfl rfl) ?_;simp only[pv];refine Ze _ (Zt 228 _ _ rfl (g3) rfl (16+i) 64 rfl (by omega) _ cW0 cH0) ?_;simp only[pv];refine Xk 0 196 _ _ rfl (16+i) rfl rfl .u32 ((((((ss1 (wf b (16+i-2))+wf b (16+i-7))%4294967296+ss0 (wf b (16+i-15)))%4294967296+wf b (16+i-16))%4294967296:Nat):Int)) rfl cH0 (by rw[Yc];omega) (rC .u32 64 (W0 (wf b) (16+i+1))) (S9 _ _ _ _ _ _ (Tk _ _ _ hN _)) ?_;simp only[Act.put];refine Zf ?_;intro w8 hkw hrw hnew hdis;have zr3:Row w8 (g3) (rC .u32 64 (W0 (wf b) (16+i+1))) 228:=hrw 0 (228,rC .u32 64 (W0 (wf b) (16+i+1))) rfl;replace r1:=hkw.ro r1;replace r2:=hkw.ro r2;replace sb:=kk sb hkw;clear hkw hrw hnew hdis r3;have r3:=zr3;clear zr3;iterate 2 go_step
            apply Za [] [_,_] trivial a_
            ·intro p;refine Ze _ (XE _ _ _ _ rfl i 1 rfl rfl (by omega)) ?_;refine m_m ?_;simp only[pv];refine Zf ?_;intro w9 hkw hrw hnew hdis;replace r1:=hkw.ro r1;replace r2:=hkw.ro r2;replace r3:=hkw.ro r3;replace sb:=kk sb hkw;clear hkw hrw hnew hdis;go_wp2
             go_roundg g
             case measure=>omega
             case rel=>exact⟨i+1,by omega,rfl,r1,r2,r3,sb⟩
            ·rfl
           ·kernel_rfl
          ·rfl
         ·rfl
        ·rfl
     ·rfl
    |succ g=>
     go_step
     apply Za [] [_] trivial a_
     ·intro p;refine Ze _ (PC _ _ _ _ rfl i 16 rfl rfl true (d_ (by omega))) ?_;simp only[pv];refine Zf ?_;intro w4 hkw hrw hnew hdis;replace r1:=hkw.ro r1;replace r2:=hkw.ro r2;replace r3:=hkw.ro r3;replace sb:=kk sb hkw;clear hkw hrw hnew hdis;iterate 10 go_step
      apply Za [] [_,_] trivial a_
      ·intro p;refine m_m ?_;refine m_a ?_;simp only[pv];refine Zf ?_;intro w5 hkw hrw hnew hdis;replace r1:=hkw.ro r1;replace r2:=hkw.ro r2;replace r3:=hkw.ro r3;replace sb:=kk sb hkw;clear hkw hrw hnew hdis;iterate 3 go_step
       apply Za [] [_,_,_] trivial a_
       ·intro p;refine m_m ?_;simp only[pv];refine Ze _ (N1 _ _ _ _ rfl i 4 _ rfl rfl rfl (by omega)) ?_;refine m_a ?_;simp only[pv];refine Zf ?_;intro w6 hkw hrw hnew hdis;replace r1:=hkw.ro r1;replace r2:=hkw.ro r2;replace r3:=hkw.ro r3;replace sb:=kk sb hkw;clear hkw hrw hnew hdis
        have hN:wf b i=((((b (i*4))*2^24)|||((b (i*4+1))*2^16))|||((b (i*4+2))*2^8))|||(b (i*4+3)):=by
         rw[yl b i (by omega)];unfold wrd;rw[t_ 4 i]
        iterate 2 go_step
        apply Zi (by kernel_rfl) [(g3,228,rC .u32 64 (W0 (wf b) i))] [_,_,_,_,_,_,_,_,_,_,_,_,_,_,_,_,_,_,_,_,_,_,_,_,_,_,_,_] ⟨r3,trivial⟩ (by simp<;>omega)
        ·intro p;refine m_m ?_;refine m_m ?_;simp only[pv];refine Ze _ (Zt 198 _ _ rfl (g1) rfl (i*4) 64 rfl (by omega) _ eV0 fG0) ?_;simp only[pv];refine Zs 5 _ rfl _ (i*4) rfl r1 (by simp<;>omega) (.int .u8 (b (i*4):Nat)) (Yx _ _ _ _ (by omega)) isAgg5 ?_;simp only[pv];refine Ze (.int .u32 (b (i*4):Nat)) (Uu _ _ _ rfl .u8 .u32 bX0 gF0 ((b (i*4):Nat):Int) _ rfl (F0 _ _ (g_ (by have:=(hb (i*4));omega)))) ?_;simp only[pv];refine Ze (.int .u32 ((b (i*4))*2^24:Nat)) (R7 _ _ _ _ rfl (b (i*4)) (24) _ .u64 rfl rfl (by omega) (by have:=(hb (i*4));omega)) ?_;refine m_m ?_;simp only[pv];refine Ze _ (XE _ _ _ _ rfl (i*4) (1) rfl rfl (by omega)) ?_;simp only[pv];refine Ze _ (Zt 198 _ _ rfl (g1) rfl (i*4+1) 64 rfl (by omega) _ eV0 fG0) ?_;simp only[pv];refine Zs 5 _ rfl _ (i*4+1) rfl r1 (by simp<;>omega) (.int .u8 (b (i*4+1):Nat)) (Yx _ _ _ _ (by omega)) isAgg5 ?_;simp only[pv];refine Ze (.int .u32 (b (i*4+1):Nat)) (Uu _ _ _ rfl .u8 .u32 bX0 gF0 ((b (i*4+1):Nat):Int) _ rfl (F0 _ _ (g_ (by have:=(hb (i*4+1));omega)))) ?_;simp only[pv];refine Ze (.int .u32 ((b (i*4+1))*2^16:Nat)) (R7 _ _ _ _ rfl (b (i*4+1)) (16) _ .u64 rfl rfl (by omega) (by have:=(hb (i*4+1));omega)) ?_;simp only[pv];refine Ze _ (Ss _ _ _ _ rfl ((b (i*4))*2^24) ((b (i*4+1))*2^16) rfl rfl (by have:=(hb (i*4));omega) (by have:=(hb (i*4+1));omega)) ?_;refine m_m ?_;simp only[pv];refine Ze _ (XE _ _ _ _ rfl (i*4) (2) rfl rfl (by omega)) ?_;simp only[pv];refine Ze _ (Zt 198 _ _ rfl (g1) rfl (i*4+2) 64 rfl (by omega) _ eV0 fG0) ?_;simp only[pv];refine Zs 5 _ rfl _ (i*4+2) rfl r1 (by simp<;>omega) (.int .u8 (b (i*4+2):Nat)) (Yx _ _ _ _ (by omega)) isAgg5 ?_;simp only[pv];refine Ze (.int .u32 (b (i*4+2):Nat)) (Uu _ _ _ rfl .u8 .u32 bX0 gF0 ((b (i*4+2):Nat):Int) _ rfl (F0 _ _ (g_ (by have:=(hb (i*4+2));omega)))) ?_;simp only[pv];refine Ze (.int .u32 ((b (i*4+2))*2^8:Nat)) (R7 _ _ _ _ rfl (b (i*4+2)) (8) _ .u64 rfl rfl (by omega) (by have:=(hb (i*4+2));omega)) ?_;simp only[pv];refine Ze _ (Ss _ _ _ _ rfl (((b (i*4))*2^24)|||((b (i*4+1))*2^16)) ((b (i*4+2))*2^8) rfl rfl (Di (by have:=(hb (i*4));omega) (by have:=(hb (i*4+1));omega)) (by have:=(hb (i*4+2));omega)) ?_;refine m_m ?_;simp only[pv];refine Ze _ (XE _ _ _ _ rfl (i*4) (3) rfl rfl (by omega)) ?_;simp only[pv];refine Ze _ (Zt 198 _ _ rfl (g1) rfl (i*4+3) 64 rfl (by omega) _ eV0 fG0) ?_;simp only[pv];refine Zs 5 _ rfl _ (i*4+3) rfl r1 (by simp<;>omega) (.int .u8 (b (i*4+3):Nat)) (Yx _ _ _ _ (by omega)) isAgg5 ?_;simp only[pv];refine Ze (.int .u32 (b (i*4+3):Nat)) (Uu _ _ _ rfl .u8 .u32 bX0 gF0 ((b (i*4+3):Nat):Int) _ rfl (F0 _ _ (g_ (by have:=(hb (i*4+3));omega)))) ?_;simp only[pv];refine Ze _ (Ss _ _ _ _ rfl ((((b (i*4))*2^24)|||((b (i*4+1))*2^16))|||((b (i*4+2))*2^8)) (b (i*4+3)) rfl rfl (Di (Di (by have:=(hb (i*4));omega) (by have:=(hb (i*4+1));omega)) (by have:=(hb (i*4+2));omega)) (lt8 (hb (i*4+3)))) ?_;simp only[pv];refine Ze _ (Zt 228 _ _ rfl (g3) rfl (i) 64 rfl (by omega) _ cW0 cH0) ?_;simp only[pv];refine Xk 0 196 _ _ rfl (i) rfl rfl .u32 (((((((b (i*4))*2^24)|||((b (i*4+1))*2^16))|||((b (i*4+2))*2^8))|||(b (i*4+3)):Nat):Int)) rfl cH0 (by rw[Yc];omega) (rC .u32 64 (W0 (wf b) (i+1))) (S9 _ _ _ _ _ _ (Tk _ _ _ hN _)) ?_;simp only[Act.put];refine Zf ?_;intro w7 hkw hrw hnew hdis;have zr3:Row w7 (g3) (rC .u32 64 (W0 (wf b) (i+1))) 228:=hrw 0 (228,rC .u32 64 (W0 (wf b) (i+1))) rfl;replace r1:=hkw.ro r1;replace r2:=hkw.ro r2;replace sb:=kk sb hkw;clear hkw hrw hnew hdis r3;have r3:=zr3;clear zr3;iterate 2 go_step
         apply Za [] [_,_] trivial a_
         ·intro p;refine Ze _ (XE _ _ _ _ rfl i 1 rfl rfl (by omega)) ?_;refine m_m ?_;simp only[pv];refine Zf ?_;intro w8 hkw hrw hnew hdis;replace r1:=hkw.ro r1;replace r2:=hkw.ro r2;replace r3:=hkw.ro r3;replace sb:=kk sb hkw;clear hkw hrw hnew hdis;go_wp2
          go_roundg g
          case measure=>omega
          case rel=>exact⟨i+1,by omega,rfl,r1,r2,r3,sb⟩
         ·rfl
        ·kernel_rfl
       ·rfl
      ·rfl
     ·rfl
  ·rfl
 ·rfl
def KT (w:World):Prop:= ∃cs t,WV w 0 cs t/\ ∀i,i<64->cs[i]?=some (.int .u32 (kf i:Nat))
theorem KT.below {w w2:World}(h:KT w)(hb:Below w.heap.size w w2):KT w2:=by
 obtain⟨cs,t,r,hk⟩:=h;exact⟨cs,t,r.belowAll hb,hk⟩
theorem KT.kept {w w2:World}{S:List Nat}(h:KT w)(hk:Kept S w w2)(hS:0∉S):KT w2:=by
 obtain⟨cs,t,r,hc⟩:=h;exact⟨cs,t,hk.rowR r hS,hc⟩
theorem KT.lt {w:World}(h:KT w):0<w.heap.size:=by
 obtain⟨cs,t,r,hc⟩:=h;exact r.lt
def PD (F G:Nat->Nat)(i j:Nat):Nat:=if j<i then F j else G j
theorem F9 (F G:Nat->Nat)(i N:Nat)(hN:F i=N)(n:Nat): ∀j,j<n->PD F G (i+1) j=if j=i then N else PD F G i j:=by
 intro j _;unfold PD;by_cases e:j=i
 ·subst e;rw[j_ rfl,j_ (by omega),hN]
 ·rw[i_ e];by_cases h:j<i
  ·rw[j_ h,j_ (by omega)]
  ·rw[i_ h,i_ (by omega)]
theorem Ae (F G:Nat->Nat)(i j:Nat)(h:j<i):PD F G i j=F j:=j_ h
theorem Af (F G:Nat->Nat)(i j:Nat)(h:i<=j):PD F G i j=G j:=i_ (by omega)
theorem IA (F G:Nat->Nat):PD F G 0=G:=by funext j;unfold PD;rw[i_ (by omega)]
theorem wa (v:Nat->Nat)(k w:Nat):stp v k w 0=((((((v 7+bs1 (v 4))%4294967296+chf (v 4) (v 5) (v 6))%4294967296+k)%4294967296+w)%4294967296)+(bs0 (v 0)+mjf (v 0) (v 1) (v 2))%4294967296)%4294967296:=by
 show(t1f v k w+t2f v)%4294967296=_
 unfold t1f t2f;generalize bs1 (v 4)=y1;generalize chf (v 4) (v 5) (v 6)=y2;generalize bs0 (v 0)=y3;generalize mjf (v 0) (v 1) (v 2)=y4;omega
theorem wc (v:Nat->Nat)(k w:Nat):stp v k w 4=(v 3+((((v 7+bs1 (v 4))%4294967296+chf (v 4) (v 5) (v 6))%4294967296+k)%4294967296+w)%4294967296)%4294967296:=by
 show(v 3+t1f v k w)%4294967296=_
 unfold t1f;generalize bs1 (v 4)=y1;generalize chf (v 4) (v 5) (v 6)=y2;omega
structure MiH (wr w:World)(g2 g3 g4 g5:Nat)(b v:Nat->Nat):Prop where
 r2:Row wr g2 (rC .u32 8 v) 197
 r3:Row wr g3 (rC .u8 64 b) 198
 r4:Row wr g4 (rC .u32 8 fun _=>0) 197
 r5:Row wr g5 (rC .u32 64 (wf b)) 228
 below:Below w.heap.size w wr
theorem IC (v b:Nat->Nat)(hv: ∀i,v i<4294967296)(hb: ∀i,b i<256)(w:World)(kT:KT w):
  Calls prog 170 #[.agg (rC .u32 8 v),.agg (rC .u8 64 b)] w fun e w'=>e= .returned (.agg (rC .u32 8 (cmp v b)))/\Below w.heap.size w w':=by
 go_enter func170,ntmps170
 iterate 2 go_step
 apply Za [] [_,_,_] trivial a_
 ·intro p;refine Ya 197 _ rfl _ rfl ?_;simp only[pv];refine Ya 198 _ rfl _ rfl ?_;simp only[pv];refine XP 197 rfl _ Iz ?_;simp only[pv];refine Zf ?_;intro w2 hkw hrw hnew hdis;have n2:=hnew 0 rfl;have n3:=hnew 1 rfl;have n4:=hnew 2 rfl;have zr2:Row w2 (p 0) (rC .u32 8 v) 197:=hrw 1 (197,rC .u32 8 v) rfl;have zr3:Row w2 (p 1) (rC .u8 64 b) 198:=hrw 3 (198,rC .u8 64 b) rfl;have zr4:Row w2 (p 2) (rC .u32 8 fun _=>0) 197:=hrw 5 (197,rC .u32 8 fun _=>0) rfl;have d2x3:=hdis 0 1 (by omega) rfl rfl;have d2x4:=hdis 0 2 (by omega) rfl rfl;have d3x4:=hdis 1 2 (by omega) rfl rfl;have sb:=k_b hkw;have b2:w.heap.size<=p 0:=n2;have b4:w.heap.size<=p 2:=n4;clear hkw hrw hnew hdis n2 n3 n4;generalize p 0=g2 at*;generalize p 1=g3 at*;generalize p 2=g4 at*;have r2:=zr2;clear zr2;have r3:=zr3;clear zr3;have r4:=zr4;clear zr4;iterate 3 go_step
  apply Za [] [_,_,_,_] trivial a_
  ·intro p;refine Xv 198 _ rfl _ rfl r3 (by simp<;>omega) 64 _ eV0 (by rw[Yc];exact N4) ?_;simp only[pv];refine m_c 199 func199 #[.agg (rC .u8 64 b)] (fun w'=>Ls b hb w') ?_;simp only[pv];refine XP 228 rfl _ R8 ?_;simp only[pv];refine Xc 5 228 _ _ rfl rfl rfl (rC .u32 64 (wf b)) rfl (by rw[Yc];exact Tj) (by simp only[Yc]) (Pp _ _ _) ?_;simp only[Act.put];refine Zf ?_;intro w3 hkw hrw hnew hdis;have n5:=hnew 2 rfl;have zr5:Row w3 (p 2) (rC .u32 64 (wf b)) 228:=hrw 5 (228,rC .u32 64 (wf b)) rfl;have d2x5:=l_l r2.lt n5;have d4x5:=l_l r4.lt n5;replace r2:=hkw.ro r2;replace r3:=hkw.ro r3;replace r4:=hkw.ro r4;replace sb:=kk sb hkw;clear hkw hrw hnew hdis n5;generalize p 2=g5 at*;have r5:=zr5;clear zr5;iterate 3 go_step
   refine ZD (by kernel_rfl) (by kernel_rfl) ?_;refine q_v _ (Zt 197 _ _ rfl (g2) rfl (0) 8 rfl (by omega) _ bY0 cH0) ?_;simp only[pv];refine ZS (by rfl) 196 _ rfl _ (0) rfl r2 (.int .u32 (v 0:Nat)) (Yx _ _ _ _ (by omega)) eC0 ?_;simp only[pv];refine q_v _ (Zt 197 _ _ rfl (g2) rfl (1) 8 rfl (by omega) _ bY0 cH0) ?_;simp only[pv];refine ZS (by rfl) 196 _ rfl _ (1) rfl r2 (.int .u32 (v 1:Nat)) (Yx _ _ _ _ (by omega)) eC0 ?_;simp only[pv];refine q_v _ (Zt 197 _ _ rfl (g2) rfl (2) 8 rfl (by omega) _ bY0 cH0) ?_;simp only[pv];refine ZS (by rfl) 196 _ rfl _ (2) rfl r2 (.int .u32 (v 2:Nat)) (Yx _ _ _ _ (by omega)) eC0 ?_;simp only[pv];refine q_v _ (Zt 197 _ _ rfl (g2) rfl (3) 8 rfl (by omega) _ bY0 cH0) ?_;simp only[pv];refine ZS (by rfl) 196 _ rfl _ (3) rfl r2 (.int .u32 (v 3:Nat)) (Yx _ _ _ _ (by omega)) eC0 ?_;refine q_a ?_;refine q_a ?_;refine q_a ?_;refine q_a ?_;simp only[pv];refine ZR ?_;intro w4 hqb;replace r2:=r2.belowAll hqb;replace r3:=r3.belowAll hqb;replace r4:=r4.belowAll hqb;replace r5:=r5.belowAll hqb;replace sb:=b_o sb hqb;clear hqb;iterate 3 go_step
   refine ZD (by kernel_rfl) (by kernel_rfl) ?_;refine q_v _ (Zt 197 _ _ rfl (g2) rfl (4) 8 rfl (by omega) _ bY0 cH0) ?_;simp only[pv];refine ZS (by rfl) 196 _ rfl _ (4) rfl r2 (.int .u32 (v 4:Nat)) (Yx _ _ _ _ (by omega)) eC0 ?_;simp only[pv];refine q_v _ (Zt 197 _ _ rfl (g2) rfl (5) 8 rfl (by omega) _ bY0 cH0) ?_;simp only[pv];refine ZS (by rfl) 196 _ rfl _ (5) rfl r2 (.int .u32 (v 5:Nat)) (Yx _ _ _ _ (by omega)) eC0 ?_;simp only[pv];refine q_v _ (Zt 197 _ _ rfl (g2) rfl (6) 8 rfl (by omega) _ bY0 cH0) ?_;simp only[pv];refine ZS (by rfl) 196 _ rfl _ (6) rfl r2 (.int .u32 (v 6:Nat)) (Yx _ _ _ _ (by omega)) eC0 ?_;simp only[pv];refine q_v _ (Zt 197 _ _ rfl (g2) rfl (7) 8 rfl (by omega) _ bY0 cH0) ?_;simp only[pv];refine ZS (by rfl) 196 _ rfl _ (7) rfl r2 (.int .u32 (v 7:Nat)) (Yx _ _ _ _ (by omega)) eC0 ?_;refine q_a ?_;refine q_a ?_;refine q_a ?_;refine q_a ?_;simp only[pv];refine ZR ?_;intro w5 hqb;replace r2:=r2.belowAll hqb;replace r3:=r3.belowAll hqb;replace r4:=r4.belowAll hqb;replace r5:=r5.belowAll hqb;replace sb:=b_o sb hqb;clear hqb;have H0:MiH w5 w g2 g3 g4 g5 b v:=⟨r2,r3,r4,r5,sb⟩;have HX:Hid (g2≠g4/\g5≠g4/\g3≠g4/\g3≠g2/\g4≠g2/\g5≠g2/\w.heap.size<=g2/\w.heap.size<=g4):=⟨by omega,by omega,by omega,by omega,by omega,by omega,b2,b4⟩;clear r2 r3 r4 r5 sb b2 b4 d2x3 d2x4 d3x4 d2x5 d4x5
   go_wp2_with fail
   go_loopg [6,7,8,9,10,11,12,13,37] 64 (fun g s6 s7 s8 s9 s10 s11 s12 s13 s37 wr=> ∃t:Nat,t+g=64/\s37= .int .i64 t/\s6= .int .u32 (rnd (wf b) v t 0:Nat)/\s7= .int .u32 (rnd (wf b) v t 1:Nat)/\s8= .int .u32 (rnd (wf b) v t 2:Nat)/\s9= .int .u32 (rnd (wf b) v t 3:Nat)/\s10= .int .u32 (rnd (wf b) v t 4:Nat)/\s11= .int .u32 (rnd (wf b) v t 5:Nat)/\s12= .int .u32 (rnd (wf b) v t 6:Nat)/\s13= .int .u32 (rnd (wf b) v t 7:Nat)/\MiH wr w g2 g3 g4 g5 b v)
   case atStart=>exact⟨0,by omega,rfl,rfl,rfl,rfl,rfl,rfl,rfl,rfl,rfl,H0⟩
   case round=>
    obtain⟨t,ht,rfl,rfl,rfl,rfl,rfl,rfl,rfl,rfl,rfl,r2,r3,r4,r5,sb⟩:=hrel;have hV: ∀i,rnd (wf b) v t i<4294967296:=Dk hv t
    clear H0
    cases gk with
    |zero=>
     obtain rfl:t=64:=by omega
     clear ht;have HC:Hid (∀i,cmp v b i=(v i+rnd (wf b) v 64 i)%4294967296):=fun _=>rfl
     generalize rnd (wf b) v 64=V at*
     go_step
     apply Za [] [_] trivial a_
     ·intro p;refine Ze _ (PC _ _ _ _ rfl 64 64 rfl rfl false rfl) ?_;simp only[pv];refine Zf ?_;intro w6 hkw hrw hnew hdis;replace r2:=hkw.ro r2;replace r3:=hkw.ro r3;replace r4:=hkw.ro r4;replace r5:=hkw.ro r5;replace sb:=kk sb hkw;clear hkw hrw hnew hdis;iterate 8 go_step
      apply Za [] [_,_,_,_,_,_,_,_,_,_,_] trivial a_
      ·intro p;refine m_m ?_;refine m_m ?_;refine m_m ?_;refine m_m ?_;refine m_m ?_;simp only[pv];refine m_m ?_;refine m_m ?_;refine m_m ?_;simp only[pv];refine Ze _ (UQ _ [(0,.tmp 77),(1,.tmp 78),(2,.tmp 79),(3,.tmp 80),(4,.tmp 81),(5,.tmp 82),(6,.tmp 83),(7,.tmp 84)] rfl _ rfl _ (N5 V)) ?_;simp only[pv];refine XP 197 rfl _ Iz ?_;simp only[pv];refine Xc 19 197 _ _ rfl rfl rfl (rC .u32 8 V) rfl (by rw[Yc];exact UP) (by simp only[Yc]) (Pp _ _ _) ?_;simp only[Act.put];refine Zf ?_;intro w7 hkw hrw hnew hdis;have n17:=hnew 9 rfl;have zr17:Row w7 (p 9) (rC .u32 8 V) 197:=hrw 19 (197,rC .u32 8 V) rfl;have d2x17:=l_l r2.lt n17;have d4x17:=l_l r4.lt n17;replace r2:=hkw.ro r2;replace r3:=hkw.ro r3;replace r4:=hkw.ro r4;replace r5:=hkw.ro r5;replace sb:=kk sb hkw;clear hkw hrw hnew hdis n17;generalize p 9=g17 at*;have r17:=zr17;clear zr17;have H1:MiH w7 w g2 g3 g4 g5 b (PD (fun j=>(v j+V j)%4294967296) v 0):=⟨by rw[IA];exact r2,r3,r4,r5,sb⟩;have H2:Row w7 g17 (rC .u32 8 V) 197:=r17;have HY:Hid (g17≠g2/\g17≠g4):=⟨by omega,by omega⟩;clear r2 r3 r4 r5 r17 sb d2x17 d4x17
       go_wp2_with fail
       go_loopg [86] 8 (fun g s86 wr=> ∃i:Nat,i+g=8/\s86= .int .i64 i/\MiH wr w g2 g3 g4 g5 b (PD (fun j=>(v j+V j)%4294967296) v i)/\Row wr g17 (rC .u32 8 V) 197)
       case atStart=>exact⟨0,by omega,rfl,H1,H2⟩
       case round=>
        obtain⟨i,hi,rfl,⟨r2,r3,r4,r5,sb⟩,r17⟩:=hrel;obtain⟨x1,x2,x3,x4,x5,x6,x7,x8⟩:=HX.out;obtain⟨y1,y2⟩:=HY.out;clear H1 H2
        cases gk with
        |zero=>
         obtain rfl:i=8:=by omega
         clear hi
         go_step
         apply Za [] [_] trivial a_
         ·intro p;refine Ze _ (PC _ _ _ _ rfl 8 8 rfl rfl false rfl) ?_;simp only[pv];refine Zf ?_;intro w8 hkw hrw hnew hdis;replace r2:=hkw.ro r2;replace r3:=hkw.ro r3;replace r4:=hkw.ro r4;replace r5:=hkw.ro r5;replace sb:=kk sb hkw;clear hkw hrw hnew hdis;iterate 8 go_step
          apply Za [(g4,197,rC .u32 8 fun _=>0)] [_,_] ⟨r4,trivial⟩ (by simp<;>omega)
          ·intro p;refine Xv 197 _ rfl _ rfl r2 (by simp<;>omega) 8 _ bY0 (by rw[Yc];exact UP) ?_;simp only[pv];refine Xc 0 197 _ _ rfl rfl rfl (rC .u32 8 (PD (fun j=>(v j+V j)%4294967296) v 8)) rfl (by rw[Yc];exact UP) (by simp only[Yc]) (Pp _ _ _) ?_;simp only[Act.put];refine Zf ?_;intro w9 hkw hrw hnew hdis;have zr4:Row w9 (g4) (rC .u32 8 (PD (fun j=>(v j+V j)%4294967296) v 8)) 197:=hrw 0 (197,rC .u32 8 (PD (fun j=>(v j+V j)%4294967296) v 8)) rfl;replace sb:=kk sb hkw;clear hkw hrw hnew hdis r4;have r4:=zr4;clear zr4;go_wp2;exact ZM rfl _ rfl r4 8 _ bY0 (by rw[Yc];exact UP) rfl ⟨by rw[N0 .u32 8 fun i hi=>(Ae _ v 8 i hi).trans (HC.out i).symm],sb⟩
          ·rfl
         ·rfl
        |succ g=>
         go_step
         apply Za [] [_] trivial a_
         ·intro p;refine Ze _ (PC _ _ _ _ rfl i 8 rfl rfl true (d_ (by omega))) ?_;simp only[pv];refine Zf ?_;intro w8 hkw hrw hnew hdis;replace r2:=hkw.ro r2;replace r3:=hkw.ro r3;replace r4:=hkw.ro r4;replace r5:=hkw.ro r5;replace r17:=hkw.ro r17;replace sb:=kk sb hkw;clear hkw hrw hnew hdis;iterate 10 go_step
          apply Za [] [_,_] trivial a_
          ·intro p;refine m_m ?_;refine m_a ?_;simp only[pv];refine Zf ?_;intro w9 hkw hrw hnew hdis;replace r2:=hkw.ro r2;replace r3:=hkw.ro r3;replace r4:=hkw.ro r4;replace r5:=hkw.ro r5;replace r17:=hkw.ro r17;replace sb:=kk sb hkw;clear hkw hrw hnew hdis;iterate 2 go_step
           apply Zi (by kernel_rfl) [(g2,197,rC .u32 8 (PD (fun j=>(v j+V j)%4294967296) v i))] [_,_,_,_,_,_,_,_,_] ⟨r2,trivial⟩ (by simp<;>omega)
           ·intro p;refine m_m ?_;simp only[pv];refine Ze _ (Zt 197 _ _ rfl (g2) rfl (i) 8 rfl (by omega) _ bY0 cH0) ?_;simp only[pv];refine YY 0 196 _ rfl (i) rfl rfl (.int .u32 (v i:Nat)) ((Yx _ _ _ _ (by omega)).trans (by rw[Af _ _ _ _ (by omega)])) eC0 ?_;refine m_m ?_;simp only[pv];refine Ze _ (Zt 197 _ _ rfl (g17) rfl (i) 8 rfl (by omega) _ bY0 cH0) ?_;simp only[pv];refine Zs 196 _ rfl _ (i) rfl r17 (by simp<;>omega) (.int .u32 (V i:Nat)) (Yx _ _ _ _ (by omega)) eC0 ?_;simp only[pv];refine Ze _ (Wg _ _ _ _ rfl (v i) (V i) _ rfl rfl rfl) ?_;simp only[pv];refine Ze _ (Zt 197 _ _ rfl (g2) rfl (i) 8 rfl (by omega) _ bY0 cH0) ?_;simp only[pv];refine Xk 0 196 _ _ rfl (i) rfl rfl .u32 ((((v i+V i)%4294967296:Nat):Int)) rfl cH0 (by rw[Yc];omega) (rC .u32 8 (PD (fun j=>(v j+V j)%4294967296) v (i+1))) (S9 _ _ _ _ _ _ (F9 _ _ _ _ rfl _)) ?_;simp only[Act.put];refine Zf ?_;intro w10 hkw hrw hnew hdis;have zr2:Row w10 (g2) (rC .u32 8 (PD (fun j=>(v j+V j)%4294967296) v (i+1))) 197:=hrw 0 (197,rC .u32 8 (PD (fun j=>(v j+V j)%4294967296) v (i+1))) rfl;replace r3:=hkw.ro r3;replace r4:=hkw.ro r4;replace r5:=hkw.ro r5;replace r17:=hkw.ro r17;replace sb:=kk sb hkw;clear hkw hrw hnew hdis r2;have r2:=zr2;clear zr2;iterate 2 go_step
            apply Za [] [_,_] trivial a_
            ·intro p;refine Ze _ (XE _ _ _ _ rfl i 1 rfl rfl (by omega)) ?_;refine m_m ?_;simp only[pv];refine Zf ?_;intro w11 hkw hrw hnew hdis;replace r2:=hkw.ro r2;replace r3:=hkw.ro r3;replace r4:=hkw.ro r4;replace r5:=hkw.ro r5;replace r17:=hkw.ro r17;replace sb:=kk sb hkw;clear hkw hrw hnew hdis;go_wp2
             go_roundg g
             case measure=>omega
             case rel=>exact⟨i+1,by omega,rfl,⟨r2,r3,r4,r5,sb⟩,r17⟩
            ·rfl
           ·kernel_rfl
          ·rfl
         ·rfl
      ·rfl
     ·rfl
    |succ g=>
     have HC:Hid (rnd (wf b) v (t+1)=stp (rnd (wf b) v t) (kf t) (wf b t)):=rfl;generalize rnd (wf b) v t=V at*;have HS:=wa V (kf t) (wf b t);have HE:=wc V (kf t) (wf b t)
     go_step
     apply Za [] [_] trivial a_
     ·intro p;refine Ze _ (PC _ _ _ _ rfl t 64 rfl rfl true (d_ (by omega))) ?_;simp only[pv];refine Zf ?_;intro w6 hkw hrw hnew hdis;replace r2:=hkw.ro r2;replace r3:=hkw.ro r3;replace r4:=hkw.ro r4;replace r5:=hkw.ro r5;replace sb:=kk sb hkw;clear hkw hrw hnew hdis;iterate 10 go_step
      apply Za [] [_,_] trivial a_
      ·intro p;refine m_m ?_;refine m_a ?_;simp only[pv];refine Zf ?_;intro w7 hkw hrw hnew hdis;replace r2:=hkw.ro r2;replace r3:=hkw.ro r3;replace r4:=hkw.ro r4;replace r5:=hkw.ro r5;replace sb:=kk sb hkw;clear hkw hrw hnew hdis;obtain⟨kcs,kt,rK,hK⟩:=kT.below sb;iterate 3 go_step
       refine ZD (by kernel_rfl) (by kernel_rfl) ?_;refine q_m ?_;refine q_m ?_;simp only[pv];refine q_c 200 func200 #[.int .u32 (V 4:Nat)] (fun w'=>F5 (V 4) w' (hV 4)) ?_;simp only[pv];refine q_v _ (Wg _ _ _ _ rfl (V 7) (bs1 (V 4)) _ rfl rfl rfl) ?_;refine q_m ?_;refine q_m ?_;refine q_m ?_;simp only[pv];refine q_c 201 func201 #[.int .u32 (V 4:Nat),.int .u32 (V 5:Nat),.int .u32 (V 6:Nat)] (fun w'=>Lr (V 4) (V 5) (V 6) w' (hV 4) (hV 5) (hV 6)) ?_;simp only[pv];refine q_v _ (Wg _ _ _ _ rfl ((V 7+bs1 (V 4))%4294967296) (chf (V 4) (V 5) (V 6)) _ rfl rfl rfl) ?_;refine q_m ?_;simp only[pv];refine q_v _ (Zt 228 _ _ rfl (0) rfl (t) 64 rfl (by omega) _ cW0 cH0) ?_;simp only[pv];refine Ym (by rfl) 196 _ rfl _ (t) rfl rK (.int .u32 (kf t:Nat)) (hK t (by omega)) eC0 ?_;simp only[pv];refine q_v _ (Wg _ _ _ _ rfl (((V 7+bs1 (V 4))%4294967296+chf (V 4) (V 5) (V 6))%4294967296) (kf t) _ rfl rfl rfl) ?_;refine q_m ?_;simp only[pv];refine q_v _ (Zt 228 _ _ rfl (g5) rfl (t) 64 rfl (by omega) _ cW0 cH0) ?_;simp only[pv];refine ZS (by rfl) 196 _ rfl _ (t) rfl r5 (.int .u32 (wf b t:Nat)) (Yx _ _ _ _ (by omega)) eC0 ?_;simp only[pv];refine q_v _ (Wg _ _ _ _ rfl ((((V 7+bs1 (V 4))%4294967296+chf (V 4) (V 5) (V 6))%4294967296+kf t)%4294967296) (wf b t) _ rfl rfl rfl) ?_;refine q_a ?_;simp only[pv];refine ZR ?_;intro w8 hqb;replace r2:=r2.belowAll hqb;replace r3:=r3.belowAll hqb;replace r4:=r4.belowAll hqb;replace r5:=r5.belowAll hqb;replace sb:=b_o sb hqb;clear hqb;generalize hT:((((V 7+bs1 (V 4))%4294967296+chf (V 4) (V 5) (V 6))%4294967296+kf t)%4294967296+wf b t)%4294967296=T1 at*;clear rK hK;iterate 3 go_step
       refine ZB ?_;refine q_m ?_;simp only[pv];refine q_c 202 func202 #[.int .u32 (V 0:Nat)] (fun w'=>F4 (V 0) w' (hV 0)) ?_;refine q_m ?_;refine q_m ?_;refine q_m ?_;simp only[pv];refine q_c 203 func203 #[.int .u32 (V 0:Nat),.int .u32 (V 1:Nat),.int .u32 (V 2:Nat)] (fun w'=>Ix (V 0) (V 1) (V 2) w' (hV 0) (hV 1) (hV 2)) ?_;simp only[pv];refine q_v _ (Wg _ _ _ _ rfl (bs0 (V 0)) (mjf (V 0) (V 1) (V 2)) _ rfl rfl rfl) ?_;refine q_a ?_;simp only[pv];refine ZR ?_;intro w9 hqb;replace r2:=r2.belowAll hqb;replace r3:=r3.belowAll hqb;replace r4:=r4.belowAll hqb;replace r5:=r5.belowAll hqb;replace sb:=b_o sb hqb;clear hqb;iterate 2 go_step
       refine ZB ?_;refine q_m ?_;refine q_m ?_;simp only[pv];refine q_v _ (Wg _ _ _ _ rfl (T1) ((bs0 (V 0)+mjf (V 0) (V 1) (V 2))%4294967296) _ rfl rfl rfl) ?_;refine q_m ?_;refine q_m ?_;refine q_m ?_;refine q_m ?_;simp only[pv];refine q_m ?_;simp only[pv];refine q_v _ (Wg _ _ _ _ rfl (V 3) (T1) _ rfl rfl rfl) ?_;refine q_m ?_;refine q_m ?_;refine q_m ?_;refine q_a ?_;simp only[pv];refine q_a ?_;refine q_a ?_;refine q_a ?_;refine q_a ?_;refine q_a ?_;simp only[pv];refine q_a ?_;refine q_a ?_;simp only[pv];refine ZR ?_;intro w10 hqb;replace r2:=r2.belowAll hqb;replace r3:=r3.belowAll hqb;replace r4:=r4.belowAll hqb;replace r5:=r5.belowAll hqb;replace sb:=b_o sb hqb;clear hqb;iterate 2 go_step
       apply Za [] [_,_] trivial a_
       ·intro p;refine Ze _ (XE _ _ _ _ rfl t 1 rfl rfl (by omega)) ?_;refine m_m ?_;simp only[pv];refine Zf ?_;intro w11 hkw hrw hnew hdis;replace r2:=hkw.ro r2;replace r3:=hkw.ro r3;replace r4:=hkw.ro r4;replace r5:=hkw.ro r5;replace sb:=kk sb hkw;clear hkw hrw hnew hdis;go_wp2
        go_roundg g
        case measure=>omega
        case rel=>exact⟨t+1,by omega,rfl,by rw[HC.out,HS],by rw[HC.out];rfl,by rw[HC.out];rfl,by rw[HC.out];rfl,by rw[HC.out,HE],by rw[HC.out];rfl,by rw[HC.out];rfl,by rw[HC.out];rfl,r2,r3,r4,r5,sb⟩
       ·rfl
      ·rfl
     ·rfl
  ·rfl
 ·rfl
end Go.Proofs.YtnagnkhbamhfmaaGreatDoor
