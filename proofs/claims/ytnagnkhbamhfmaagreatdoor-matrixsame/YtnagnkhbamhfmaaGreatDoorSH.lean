import Derived.WalkKit
import Derived.Test.YtnagnkhbamhfmaaGreatDoorGH
import Derived.Test.YtnagnkhbamhfmaaGreatDoorGJ
import Derived.Laws.BitsAllLaws
set_option maxRecDepth 100000
set_option maxHeartbeats 8000000
namespace Go.Proofs.YtnagnkhbamhfmaaGreatDoor
set_option linter.all false
open Go.Proofs.Tryz
def rr (x n:Nat):Nat:=x/2^n|||x*2^(32-n)%4294967296
def ss0 (x:Nat):Nat:=rr x 7^^^rr x 18^^^x/2^3
def ss1 (x:Nat):Nat:=rr x 17^^^rr x 19^^^x/2^10
def bs0 (x:Nat):Nat:=rr x 2^^^rr x 13^^^rr x 22
def bs1 (x:Nat):Nat:=rr x 6^^^rr x 11^^^rr x 25
def chf (x y z:Nat):Nat:=x&&&y^^^(4294967295^^^x)&&&z
def mjf (x y z:Nat):Nat:=x&&&y^^^x&&&z^^^y&&&z
theorem FD {x y:Nat}(hx:x<4294967296)(hy:y<4294967296):x|||y<4294967296:=Nat.or_lt_two_pow (n:=32) hx hy
theorem Gj {x y:Nat}(hx:x<4294967296)(hy:y<4294967296):x^^^y<4294967296:=Nat.xor_lt_two_pow (n:=32) hx hy
theorem PS {x y:Nat}(hx:x<4294967296):x&&&y<4294967296:=Nat.lt_of_le_of_lt Nat.and_le_left hx
theorem Gk {x n:Nat}(hx:x<4294967296):x/n<4294967296:=Nat.lt_of_le_of_lt (Nat.div_le_self _ _) hx
theorem N7 (x:Nat):x%4294967296<4294967296:=Nat.mod_lt _ (by decide)
theorem Ws {x:Nat}(n:Nat)(hx:x<4294967296):rr x n<4294967296:=FD (Gk hx) (N7 _)
theorem zG (x y z:Nat)(hx:x<4294967296):x&&&y|||(4294967295-x)&&&z=chf x y z:=by
 apply Nat.eq_of_testBit_eq;intro i
 have h1:(4294967295-x).testBit i=(decide (i<32)&& !x.testBit i):=by
  have:=Nat.testBit_two_pow_sub_succ (n:=32) hx i;rw[<-this,show 2^32-(x+1)=4294967295-x by omega]
 have h2:(4294967295:Nat).testBit i=decide (i<32):=by
  rw[show(4294967295:Nat)=2^32-1 from rfl,Nat.testBit_two_pow_sub_one]
 have h3: ¬i<32->x.testBit i=false:=fun h=>Nat.testBit_lt_two_pow (Nat.lt_of_lt_of_le hx (by
  have:2^32<=2^i:=Nat.pow_le_pow_right (by omega) (by omega)
  simpa using this))
 unfold chf;rw[Nat.testBit_or,Nat.testBit_and,Nat.testBit_and,Nat.testBit_xor,Nat.testBit_and,Nat.testBit_and,Nat.testBit_xor,h1,h2];by_cases h:i<32
 ·rw[decide_eq_true h]
  cases x.testBit i<;>cases y.testBit i<;>cases z.testBit i<;>rfl
 ·rw[decide_eq_false h,h3 h]
  cases y.testBit i<;>cases z.testBit i<;>rfl
theorem zH (x y z:Nat):x&&&y|||x&&&z|||y&&&z=mjf x y z:=by
 apply Nat.eq_of_testBit_eq;intro i;unfold mjf;simp only[Nat.testBit_or,Nat.testBit_and,Nat.testBit_xor]
 cases x.testBit i<;>cases y.testBit i<;>cases z.testBit i<;>rfl
def kL:List Nat:=[1116352408,1899447441,3049323471,3921009573,961987163,1508970993,2453635748,2870763221,3624381080,310598401,607225278,1426881987,1925078388,2162078206,2614888103,3248222580,3835390401,4022224774,264347078,604807628,770255983,1249150122,1555081692,1996064986,2554220882,2821834349,2952996808,3210313671,3336571891,3584528711,113926993,338241895,666307205,773529912,1294757372,1396182291,1695183700,1986661051,2177026350,2456956037,2730485921,2820302411,3259730800,3345764771,3516065817,3600352804,4094571909,275423344,430227734,506948616,659060556,883997877,958139571,1322822218,1537002063,1747873779,1955562222,2024104815,2227730452,2361852424,2428436474,2756734187,3204031479,3329325298]
def ivL:List Nat:=[1779033703,3144134277,1013904242,2773480762,1359893119,2600822924,528734635,1541459225]
def kf (t:Nat):Nat:=kL.getD t 0
def ivf (t:Nat):Nat:=ivL.getD t 0
theorem DX {l:List Nat}{m:Nat}(h:l.all (fun x=>decide (x<m))=true)(hm:0<m)(t:Nat):l.getD t 0<m:=by
 rw[List.getD_eq_getElem?_getD]
 cases hq:l[t]? with
 |none=>exact hm
 |some x=>exact of_decide_eq_true (List.all_eq_true.1 h x (List.mem_of_getElem? hq))
theorem BZ (t:Nat):ivf t<4294967296:=DX (by decide) (by decide) t
def wrd (b:Nat->Nat)(t:Nat):Nat:=b (4*t)*2^24|||b (4*t+1)*2^16|||b (4*t+2)*2^8|||b (4*t+3)
theorem B0 {b:Nat->Nat}(hb: ∀i,b i<256)(t:Nat):wrd b t<4294967296:=by
 have h0:=hb (4*t);have h1:=hb (4*t+1);have h2:=hb (4*t+2);have h3:=hb (4*t+3);exact FD (FD (FD (by omega) (by omega)) (by omega)) (by omega)
def nxt (b:Nat->Nat)(l:List Nat)(n:Nat):Nat:=
 if n<16 then wrd b n else(ss1 (l.getD (n-2) 0)+l.getD (n-7) 0+ss0 (l.getD (n-15) 0)+l.getD (n-16) 0)%4294967296
def wl (b:Nat->Nat):Nat->List Nat
 |0=>[]
 |n+1=>wl b n++[nxt b (wl b n) n]
def wf (b:Nat->Nat)(t:Nat):Nat:=(wl b (t+1)).getD t 0
theorem VO (b:Nat->Nat): ∀n,(wl b n).length=n
 |0=>rfl
 |n+1=>by unfold wl;rw[List.length_append,VO b n];rfl
theorem FE (b:Nat->Nat)(t:Nat):wf b t=nxt b (wl b t) t:=by
 show(wl b t++[nxt b (wl b t) t]).getD t 0=_
 rw[List.getD_eq_getElem?_getD,List.getElem?_append_right (by rw[VO];exact Nat.le_refl _),VO,Nat.sub_self];rfl
theorem Qu (b:Nat->Nat)(t:Nat): ∀n,t<n->(wl b n).getD t 0=wf b t
 |0,h=>by omega
 |n+1,h=>by
  by_cases e:t=n
  ·subst e;rfl
  ·rw[<-Qu b t n (by omega)];show(wl b n++[_]).getD t 0=_
   rw[List.getD_eq_getElem?_getD,List.getElem?_append_left (by rw[VO];omega),<-List.getD_eq_getElem?_getD]
theorem B1 (b:Nat->Nat)(t:Nat)(h:t<16):wf b t=wrd b t:=by rw[FE];unfold nxt;rw[if_pos h]
theorem B4 (b:Nat->Nat)(t:Nat)(h:16<=t):wf b t=(ss1 (wf b (t-2))+wf b (t-7)+ss0 (wf b (t-15))+wf b (t-16))%4294967296:=by
 rw[FE];unfold nxt;rw[if_neg (by omega),Qu b _ t (by omega),Qu b _ t (by omega),Qu b _ t (by omega),Qu b _ t (by omega)]
theorem B5 {b:Nat->Nat}(hb: ∀i,b i<256)(t:Nat):wf b t<4294967296:=by
 by_cases h:t<16
 ·rw[B1 b t h];exact B0 hb t
 ·rw[B4 b t (by omega)];exact N7 _
theorem OY {b c:Nat->Nat}(h: ∀i,i<64->b i=c i): ∀n,wl b n=wl c n
 |0=>rfl
 |n+1=>by
  unfold wl;rw[OY h n];unfold nxt;by_cases hn:n<16
  ·rw[if_pos hn,if_pos hn];unfold wrd;rw[h _ (by omega),h _ (by omega),h _ (by omega),h _ (by omega)]
  ·rw[if_neg hn,if_neg hn]
theorem Gl {b c:Nat->Nat}(h: ∀i,i<64->b i=c i):wf b=wf c:=by
 funext t;unfold wf;rw[OY h]
def t1f (v:Nat->Nat)(k w:Nat):Nat:=v 7+bs1 (v 4)+chf (v 4) (v 5) (v 6)+k+w
def t2f (v:Nat->Nat):Nat:=bs0 (v 0)+mjf (v 0) (v 1) (v 2)
def stp (v:Nat->Nat)(k w:Nat)(i:Nat):Nat:=
 if i=0 then(t1f v k w+t2f v)%4294967296 else if i=4 then(v 3+t1f v k w)%4294967296 else v (i-1)
theorem B6 {v:Nat->Nat}(hv: ∀i,v i<4294967296)(k w i:Nat):stp v k w i<4294967296:=by
 unfold stp
 split
 ·exact N7 _
 ·split
  ·exact N7 _
  ·exact hv _
def rnd (W:Nat->Nat)(v:Nat->Nat):Nat->Nat->Nat
 |0=>v
 |t+1=>stp (rnd W v t) (kf t) (W t)
theorem FF {W v:Nat->Nat}(hv: ∀i,v i<4294967296): ∀t i,rnd W v t i<4294967296
 |0=>hv
 |t+1=>B6 (FF hv t) _ _
def cmp (v b:Nat->Nat)(i:Nat):Nat:=(v i+rnd (wf b) v 64 i)%4294967296
theorem DY (v b:Nat->Nat)(i:Nat):cmp v b i<4294967296:=N7 _
theorem Jn {v b c:Nat->Nat}(h: ∀i,i<64->b i=c i):cmp v b=cmp v c:=by
 funext i;unfold cmp;rw[Gl h]
def ab (f:Nat->Nat):Nat->Nat->Nat
 |0=>ivf
 |n+1=>cmp (ab f n) fun i=>f (64*n+i)
theorem zI (f:Nat->Nat): ∀n i,ab f n i<4294967296
 |0=>BZ
 |_+1=>DY _ _
theorem OZ {f g:Nat->Nat}: ∀n,(∀i,i<64*n->f i=g i)->ab f n=ab g n
 |0,_=>rfl
 |n+1,h=>by
  unfold ab;rw[OZ n fun i hi=>h i (by omega)];exact Jn fun i hi=>h _ (by omega)
def bf (l:List UInt8)(i:Nat):Nat:=(l.getD i 0).toNat
theorem B7 (l:List UInt8)(i:Nat):bf l i<256:=UInt8.toNat_lt _
theorem Jo (l s:List UInt8)(i:Nat)(h:i<l.length):bf (l++s) i=bf l i:=by
 unfold bf;rw[List.getD_eq_getElem?_getD,List.getD_eq_getElem?_getD,List.getElem?_append_left h]
theorem Jp (l:List UInt8)(k i:Nat):bf (l.drop k) i=bf l (k+i):=by
 unfold bf;rw[List.getD_eq_getElem?_getD,List.getD_eq_getElem?_getD,List.getElem?_drop]
def be8 (m:Nat):List UInt8:=(List.range 8).map fun k=>UInt8.ofNat (m/2^(8*(7-k))%256)
def zs (n:Nat):Nat:=(119-n%64)%64
def tl (n:Nat):List UInt8:=128::(List.replicate (zs n) 0++be8 (8*n))
theorem N8 (m:Nat):(be8 m).length=8:=by simp[be8]
theorem Qv (n:Nat):(tl n).length=9+zs n:=by simp[tl,N8];omega
def sw (l:List UInt8):Nat->Nat:=ab (bf l) (l.length/64)
def O0 (v:Nat->Nat):List UInt8:=(List.range 32).map fun i=>UInt8.ofNat (v (i/4)/2^(8*(3-i%4))%256)
theorem Vj (v:Nat->Nat):(O0 v).length=32:=by simp[O0]
def sha (l:List UInt8):List UInt8:=O0 (sw (l++tl l.length))
open Go.RowKit
def rC (k:IntKind)(n:Nat)(u:Nat->Nat):Array Value:=Array.ofFn (n:=n) fun i=>.int k (u i:Nat)
theorem Z6 (k:IntKind)(n:Nat)(u:Nat->Nat):(rC k n u).size=n:=by simp[rC]
theorem Ys (k:IntKind)(n:Nat)(u:Nat->Nat)(i:Nat)(h:i<n):(rC k n u)[i]?=some (.int k (u i:Nat)):=by simp[rC,h]
theorem Sd (k:IntKind)(n:Nat)(u v:Nat->Nat)(i N:Nat)(hv: ∀j,j<n->v j=if j=i then N else u j):(rC k n u).setIfInBounds i (.int k (N:Nat))=rC k n v:=by
 apply Array.ext_getElem?;intro j;by_cases hj:j<n
 ·rw[Ys k n v j hj,Array.getElem?_setIfInBounds,hv j hj];by_cases e:i=j
  ·subst e;rw[if_pos rfl,if_pos (by rw[Z6];exact hj),if_pos rfl]
  ·rw[if_neg e,if_neg (fun x=>e x.symm),Ys k n u j hj]
 ·rw[Array.getElem?_eq_none (by rw[Array.size_setIfInBounds,Z6];omega),Array.getElem?_eq_none (by rw[Z6];omega)]
theorem Qw (k:IntKind)(n:Nat)(u:Nat->Nat):(rC k n u).all (·.oneCell')=true:=by
 rw[Array.all_eq_true];intro i hi;simp[rC];rfl
theorem O1 (k:IntKind)(n:Nat){u v:Nat->Nat}(h: ∀i,i<n->u i=v i):rC k n u=rC k n v:=by
 apply Array.ext_getElem?;intro j;by_cases hj:j<n
 ·rw[Ys k n u j hj,Ys k n v j hj,h j hj]
 ·rw[Array.getElem?_eq_none (by rw[Z6];omega),Array.getElem?_eq_none (by rw[Z6];omega)]
section
variable {P:Program}{o:Oper}{ρ:Operand->Value}
theorem XU (t:TypeId)(x y:Operand)(u:TypeId)(ho:o.op= .binOp .add t x y u)(n m r:Nat)(hx:ρ x= .int .u32 n)(hy:ρ y= .int .u32 m)(hr:(n+m)%4294967296=r)(w:World):
  (execOp ρ o).run P w= .ok (.value (.int .u32 (r:Int))) w:=by
 subst hr;unfold execOp;simp only[ho,hx,hy];simp[go_sem];rw[IntKind.wrap_u32']
theorem WI (t:TypeId)(x y:Operand)(u:TypeId)(ho:o.op= .binOp .xor t x y u)(n m:Nat)(hx:ρ x= .int .u32 n)(hy:ρ y= .int .u32 m)(hn:n<4294967296)(hm:m<4294967296)(w:World):
  (execOp ρ o).run P w= .ok (.value (.int .u32 ((n^^^m:Nat):Int))) w:=by
 unfold execOp;simp only[ho,hx,hy];simp[go_sem];rw[u32_xor_nat n m hn hm]
theorem TA (t:TypeId)(x y:Operand)(u:TypeId)(ho:o.op= .binOp .and t x y u)(n m:Nat)(hx:ρ x= .int .u32 n)(hy:ρ y= .int .u32 m)(hn:n<4294967296)(hm:m<4294967296)(w:World):
  (execOp ρ o).run P w= .ok (.value (.int .u32 ((n&&&m:Nat):Int))) w:=by
 unfold execOp;simp only[ho,hx,hy];simp[go_sem];rw[u32_and_nat n m hn hm]
theorem TB (t:TypeId)(x y:Operand)(u:TypeId)(ho:o.op= .binOp .or t x y u)(n m:Nat)(hx:ρ x= .int .u32 n)(hy:ρ y= .int .u32 m)(hn:n<4294967296)(hm:m<4294967296)(w:World):
  (execOp ρ o).run P w= .ok (.value (.int .u32 ((n|||m:Nat):Int))) w:=by
 unfold execOp;simp only[ho,hx,hy];simp[go_sem];rw[u32_or_nat n m hn hm]
theorem DZ (n:Nat)(hn:n<4294967296):4294967295^^^n=4294967295-n:=by
 apply Nat.eq_of_testBit_eq;intro i;have h1:=Nat.testBit_two_pow_sub_succ (n:=32) hn i;rw[show 2^32-(n+1)=4294967295-n by omega]at h1
 have h2:(4294967295:Nat).testBit i=decide (i<32):=by
  rw[show(4294967295:Nat)=2^32-1 from rfl,Nat.testBit_two_pow_sub_one]
 rw[h1,Nat.testBit_xor,h2];by_cases h:i<32
 ·rw[decide_eq_true h]
  cases n.testBit i<;>rfl
 ·rw[decide_eq_false h,Nat.testBit_lt_two_pow (Nat.lt_of_lt_of_le hn (by
   have:2^32<=2^i:=Nat.pow_le_pow_right (by omega) (by omega)
   simpa using this))]
  rfl
theorem D0 (t:TypeId)(x:Operand)(ho:o.op= .unOp .xor t x)(n:Nat)(hx:ρ x= .int .u32 n)(hn:n<4294967296)(w:World):
  (execOp ρ o).run P w= .ok (.value (.int .u32 ((4294967295-n:Nat):Int))) w:=by
 have h:bits .xor .u32 4294967295 (n:Int)=((4294967295-n:Nat):Int):=by
  rw[show(4294967295:Int)=((4294967295:Nat):Int)from rfl,u32_xor_nat _ n (by decide) hn,DZ n hn]
 unfold execOp;simp only[ho,hx];simp[go_sem];exact h
theorem Re (t:TypeId)(x y:Operand)(u:TypeId)(ho:o.op= .binOp .shr t x y u)(n s:Nat)(k:IntKind)(hx:ρ x= .int .u32 n)(hy:ρ y= .int k s)(hs:s<=32)(w:World):
  (execOp ρ o).run P w= .ok (.value (.int .u32 ((n/2^s:Nat):Int))) w:=by
 unfold execOp;simp only[ho,hx,hy];simp[go_sem]
theorem Rf (t:TypeId)(x y:Operand)(u:TypeId)(ho:o.op= .binOp .shl t x y u)(n s r:Nat)(k:IntKind)(hx:ρ x= .int .u32 n)(hy:ρ y= .int k s)(hs:s<=32)(hr:n*2^s%4294967296=r)(w:World):
  (execOp ρ o).run P w= .ok (.value (.int .u32 (r:Int))) w:=by
 subst hr;unfold execOp;simp only[ho,hx,hy];simp[go_sem];rw[IntKind.wrap_u32']
theorem Xr (t:TypeId)(x y:Operand)(u:TypeId)(ho:o.op= .binOp .add t x y u)(n m:Nat)(hx:ρ x= .int .i64 n)(hy:ρ y= .int .i64 m)(h:n+m<9223372036854775808)(w:World):
  (execOp ρ o).run P w= .ok (.value (.int .i64 ((n+m:Nat):Int))) w:=by
 unfold execOp;simp only[ho,hx,hy];simp[go_sem];rw[IntKind.wrap_i64];omega
theorem TC (t:TypeId)(x y:Operand)(u:TypeId)(ho:o.op= .binOp .sub t x y u)(n m:Nat)(hx:ρ x= .int .i64 n)(hy:ρ y= .int .i64 m)(hm:m<=n)(h:n<9223372036854775808)(w:World):
  (execOp ρ o).run P w= .ok (.value (.int .i64 ((n-m:Nat):Int))) w:=by
 unfold execOp;simp only[ho,hx,hy];simp[go_sem];rw[IntKind.wrap_i64];omega
theorem O2 (t:TypeId)(x y:Operand)(u:TypeId)(ho:o.op= .binOp .mul t x y u)(n m r:Nat)(hx:ρ x= .int .i64 n)(hy:ρ y= .int .i64 m)(hr:n*m=r)(h:r<9223372036854775808)(w:World):
  (execOp ρ o).run P w= .ok (.value (.int .i64 (r:Int))) w:=by
 subst hr;unfold execOp;simp only[ho,hx,hy];simp[go_sem];rw[<-Int.natCast_mul,IntKind.wrap_i64];omega
theorem B8 (t:TypeId)(x:Operand)(ho:o.op= .unOp .neg t x)(n:Nat)(hx:ρ x= .int .i64 n)(h:n<9223372036854775808)(w:World):
  (execOp ρ o).run P w= .ok (.value (.int .i64 (-(n:Int)))) w:=by
 unfold execOp;simp only[ho,hx];simp[go_sem];rw[IntKind.wrap_i64];omega
theorem D1 (t:TypeId)(x y:Operand)(u:TypeId)(ho:o.op= .binOp .add t x y u)(n m:Nat)(hx:ρ x= .int .u64 n)(hy:ρ y= .int .u64 m)(h:n+m<18446744073709551616)(w:World):
  (execOp ρ o).run P w= .ok (.value (.int .u64 ((n+m:Nat):Int))) w:=by
 unfold execOp;simp only[ho,hx,hy];simp[go_sem];rw[IntKind.wrap_u64];omega
theorem D2 (t:TypeId)(x y:Operand)(u:TypeId)(ho:o.op= .binOp .sub t x y u)(n m:Nat)(hx:ρ x= .int .u64 n)(hy:ρ y= .int .u64 m)(hm:m<=n)(h:n<18446744073709551616)(w:World):
  (execOp ρ o).run P w= .ok (.value (.int .u64 ((n-m:Nat):Int))) w:=by
 unfold execOp;simp only[ho,hx,hy];simp[go_sem];rw[IntKind.wrap_u64];omega
theorem D3 (t:TypeId)(x y:Operand)(u:TypeId)(ho:o.op= .binOp .mul t x y u)(n m r:Nat)(hx:ρ x= .int .u64 n)(hy:ρ y= .int .u64 m)(hr:n*m=r)(h:r<18446744073709551616)(w:World):
  (execOp ρ o).run P w= .ok (.value (.int .u64 (r:Int))) w:=by
 subst hr;unfold execOp;simp only[ho,hx,hy];simp[go_sem];rw[<-Int.natCast_mul,IntKind.wrap_u64];omega
theorem D4 (t:TypeId)(x y:Operand)(u:TypeId)(ho:o.op= .binOp .shr t x y u)(n s:Nat)(k:IntKind)(hx:ρ x= .int .u64 n)(hy:ρ y= .int k s)(hs:s<=64)(w:World):
  (execOp ρ o).run P w= .ok (.value (.int .u64 ((n/2^s:Nat):Int))) w:=by
 unfold execOp;simp only[ho,hx,hy];simp[go_sem]
theorem D5 (t:TypeId)(x y:Operand)(u:TypeId)(ho:o.op= .binOp .rem t x y u)(n m:Nat)(hx:ρ x= .int .u64 n)(hy:ρ y= .int .u64 m)(hm:0<m)(w:World):
  (execOp ρ o).run P w= .ok (.value (.int .u64 ((n%m:Nat):Int))) w:=by
 have h0: ¬(m=0):=by omega
 unfold execOp;simp only[ho,hx,hy];simp[go_sem];rw[if_neg h0,Int.tmod_eq_emod_of_nonneg (by omega)]
theorem PT (t:TypeId)(x y:Operand)(u:TypeId)(ho:o.op= .binOp .and t x y u)(n m r:Nat)(hx:ρ x= .int .u64 n)(hy:ρ y= .int .u64 m)(hn:n<18446744073709551616)(hm:m<18446744073709551616)(hr:n&&&m=r)(w:World):
  (execOp ρ o).run P w= .ok (.value (.int .u64 (r:Int))) w:=by
 subst hr;unfold execOp;simp only[ho,hx,hy];simp[go_sem];rw[u64_and_nat n m hn hm]
theorem W1 (s d:TypeId)(x:Operand)(ho:o.op= .convert s d x)(ks kd:IntKind)(hs:P.underlying s=some (.int ks))(hd:P.underlying d=some (.int kd))(n:Int)(r:Int)(hx:ρ x= .int ks n)(hr:kd.wrap n=r)(w:World):
  (execOp ρ o).run P w= .ok (.value (.int kd r)) w:=by
 subst hr;unfold execOp;simp only[ho,hx];simp[convert,run_underlying hs,run_underlying hd,go_sem]
theorem yc (n:Nat)(r:Nat)(h:n%256=r):IntKind.u8.wrap (n:Int)=(r:Int):=by rw[IntKind.wrap_u8'];omega
theorem Gm (n:Nat)(r:Nat)(h:n%4294967296=r):IntKind.u32.wrap (n:Int)=(r:Int):=by rw[IntKind.wrap_u32'];omega
theorem zJ (n:Nat)(h:n<18446744073709551616):IntKind.u64.wrap (n:Int)=(n:Int):=by rw[IntKind.wrap_u64];omega
theorem FG (t:TypeId)(x:Operand)(ho:o.op= .call {callee:=.builtin .len,args:=#[x],argTypes:=#[t]})(s:ByteArray)(hx:ρ x= .string s)(hu:P.underlying t=some .string)(w:World):
  (execOp ρ o).run P w= .ok (.value (.int .i64 s.size)) w:=by
 unfold execOp;simp only[ho];simp[resolve,invoke,builtin,hx,go_sem,goInt,hu]
theorem QG (t:TypeId)(x y:Operand)(u:TypeId)(ho:o.op= .binOp .lss t x y u)(n m:Int)(hx:ρ x= .int .i64 n)(hy:ρ y= .int .i64 m)(b:Bool)(hb:decide (n<m)=b)(w:World):
  (execOp ρ o).run P w= .ok (.value (.bool b)) w:=by
 subst hb;unfold execOp;simp only[ho,hx,hy];simp[go_sem]
theorem FH (t:TypeId)(x y:Operand)(u:TypeId)(ho:o.op= .binOp .eql t x y u)(q:Option Addr)(hx:ρ x= .pointer q)(hy:ρ y= .pointer none)(e:TypeId)(ht:P.underlying t=some (.pointer e))(w:World):
  (execOp ρ o).run P w= .ok (.value (.bool q.isNone)) w:=by
 have ht':P.underlying t=some (.pointer (P.pointee t)):=by simp[Program.pointee,ht]
 unfold execOp;simp only[ho,hx,hy];simp[eqGuard,run_eql_pointer_nil w t q ht']
end
theorem D6 (n:Nat)(h1:1<=n)(h2:n<=31):(18446744073709551616-n)&&&31=32-n:=by
 rw[show 31=2^5-1 from rfl,Nat.and_two_pow_sub_one_eq_mod];omega
theorem Gn (x n:Nat)(w:World)(hx:x<4294967296)(h1:1<=n)(h2:n<=31):
  Calls prog 214 #[.int .u32 x,.int .i64 (-(n:Int))] w fun e w'=>e= .returned (.int .u32 (rr x n:Nat))/\Below w.heap.size w w':=by
 go_enter func214,ntmps214
 iterate 2 go_step
 apply Za [] [_] trivial List.nodup_nil
 ·intro p;refine Ze (.int .u32 0) (fun _=>rfl) ?_;simp only[pv];refine Zf ?_;intro w2 hkw hrw hnew hdis;have sb:=k_b hkw;clear hkw hrw hnew hdis;iterate 3 go_step
  refine Zy ?_;refine q_m ?_;simp only[pv];refine q_v (.int .u64 (18446744073709551616-n:Nat)) (W1 _ _ _ rfl .i64 .u64 underlying3 underlying42 (-(n:Int)) _ rfl (by rw[IntKind.wrap_u64];omega)) ?_;simp only[pv];refine q_v (.int .u64 (32-n:Nat)) (PT _ _ _ _ rfl (18446744073709551616-n) 31 _ rfl rfl (by omega) (by decide) (D6 n h1 h2)) ?_;refine q_a ?_;simp only[pv];refine ZN ?_;intro w3 hqb;replace sb:=b_o sb hqb;clear hqb;iterate 3 go_step
  refine Zy ?_;refine q_m ?_;refine q_m ?_;simp only[pv];refine q_v (.int .u32 (x*2^(32-n)%4294967296:Nat)) (Rf _ _ _ _ rfl x (32-n) _ .u64 rfl rfl (by omega) rfl) ?_;refine q_m ?_;refine q_m ?_;simp only[pv];refine q_v (.int .u64 (n:Nat)) ((fun w'=>(D2 _ _ _ _ rfl 32 (32-n) rfl rfl (by omega) (by decide) w').trans (by rw[show 32-(32-n)=n by omega]))) ?_;simp only[pv];refine q_v _ (Re _ _ _ _ rfl (x) (n) .u64 rfl rfl (by omega)) ?_;simp only[pv];refine q_v (.int .u32 (rr x n:Nat)) ((fun w'=>(TB _ _ _ _ rfl (x*2^(32-n)%4294967296) (x/2^n) rfl rfl (N7 _) (Gk hx) w').trans (by rw[Nat.or_comm];rfl))) ?_;refine q_a ?_;simp only[pv];refine ZN ?_;intro w4 hqb;replace sb:=b_o sb hqb;clear hqb;go_wp2;go_ret;exact⟨rfl,sb⟩
 ·rfl
theorem Xz (x n:Nat)(w:World)(hx:x<4294967296)(h1:1<=n)(h2:n<=31):
  Calls prog 213 #[.int .u32 x,.int .i64 n] w fun e w'=>e= .returned (.int .u32 (rr x n:Nat))/\Below w.heap.size w w':=by
 go_enter func213,ntmps213
 iterate 2 go_step
 apply Za [] [_] trivial List.nodup_nil
 ·intro p;refine Ze (.int .u32 0) (fun _=>rfl) ?_;simp only[pv];refine Zf ?_;intro w2 hkw hrw hnew hdis;have sb:=k_b hkw;clear hkw hrw hnew hdis;iterate 3 go_step
  refine Zy ?_;refine q_m ?_;refine q_m ?_;simp only[pv];refine q_v _ (B8 _ _ rfl n rfl (by omega)) ?_;simp only[pv];refine q_c 214 func214 #[.int .u32 x,.int .i64 (-(n:Int))] (fun w'=>Gn x n w' hx h1 h2) ?_;refine q_a ?_;simp only[pv];refine ZN ?_;intro w3 hqb;replace sb:=b_o sb hqb;clear hqb;go_wp2;go_ret;exact⟨rfl,sb⟩
 ·rfl
theorem N9 (x:Nat)(w:World)(hx:x<4294967296):
  Calls prog 212 #[.int .u32 x] w fun e w'=>e= .returned (.int .u32 (ss0 x:Nat))/\Below w.heap.size w w':=by
 go_enter func212,ntmps212
 iterate 2 go_step
 apply Za [] [_] trivial List.nodup_nil
 ·intro p;refine Ze (.int .u32 0) (fun _=>rfl) ?_;simp only[pv];refine Zf ?_;intro w2 hkw hrw hnew hdis;have sb:=k_b hkw;clear hkw hrw hnew hdis;iterate 3 go_step
  refine Zy ?_;refine q_m ?_;simp only[pv];refine q_c 213 func213 #[.int .u32 x,.int .i64 7] (fun w'=>Xz x 7 w' hx (by decide) (by decide)) ?_;refine q_m ?_;simp only[pv];refine q_c 213 func213 #[.int .u32 x,.int .i64 18] (fun w'=>Xz x 18 w' hx (by decide) (by decide)) ?_;simp only[pv];refine q_v _ (WI _ _ _ _ rfl (rr x 7) (rr x 18) rfl rfl (Ws 7 hx) (Ws 18 hx)) ?_;refine q_m ?_;simp only[pv];refine q_v _ (Re _ _ _ _ rfl (x) (3) .u64 rfl rfl (by omega)) ?_;simp only[pv];refine q_v _ (WI _ _ _ _ rfl ((rr x 7)^^^(rr x 18)) ((x)/2^3) rfl rfl (Gj (Ws 7 hx) (Ws 18 hx)) (Gk hx)) ?_;refine q_a ?_;simp only[pv];refine ZN ?_;intro w3 hqb;replace sb:=b_o sb hqb;clear hqb;go_wp2;go_ret;exact⟨rfl,sb⟩
 ·rfl
theorem Ma (x:Nat)(w:World)(hx:x<4294967296):
  Calls prog 211 #[.int .u32 x] w fun e w'=>e= .returned (.int .u32 (ss1 x:Nat))/\Below w.heap.size w w':=by
 go_enter func211,ntmps211
 iterate 2 go_step
 apply Za [] [_] trivial List.nodup_nil
 ·intro p;refine Ze (.int .u32 0) (fun _=>rfl) ?_;simp only[pv];refine Zf ?_;intro w2 hkw hrw hnew hdis;have sb:=k_b hkw;clear hkw hrw hnew hdis;iterate 3 go_step
  refine Zy ?_;refine q_m ?_;simp only[pv];refine q_c 213 func213 #[.int .u32 x,.int .i64 17] (fun w'=>Xz x 17 w' hx (by decide) (by decide)) ?_;refine q_m ?_;simp only[pv];refine q_c 213 func213 #[.int .u32 x,.int .i64 19] (fun w'=>Xz x 19 w' hx (by decide) (by decide)) ?_;simp only[pv];refine q_v _ (WI _ _ _ _ rfl (rr x 17) (rr x 19) rfl rfl (Ws 17 hx) (Ws 19 hx)) ?_;refine q_m ?_;simp only[pv];refine q_v _ (Re _ _ _ _ rfl (x) (10) .u64 rfl rfl (by omega)) ?_;simp only[pv];refine q_v _ (WI _ _ _ _ rfl ((rr x 17)^^^(rr x 19)) ((x)/2^10) rfl rfl (Gj (Ws 17 hx) (Ws 19 hx)) (Gk hx)) ?_;refine q_a ?_;simp only[pv];refine ZN ?_;intro w3 hqb;replace sb:=b_o sb hqb;clear hqb;go_wp2;go_ret;exact⟨rfl,sb⟩
 ·rfl
theorem Gp (x:Nat)(w:World)(hx:x<4294967296):
  Calls prog 202 #[.int .u32 x] w fun e w'=>e= .returned (.int .u32 (bs0 x:Nat))/\Below w.heap.size w w':=by
 go_enter func202,ntmps202
 iterate 2 go_step
 apply Za [] [_] trivial List.nodup_nil
 ·intro p;refine Ze (.int .u32 0) (fun _=>rfl) ?_;simp only[pv];refine Zf ?_;intro w2 hkw hrw hnew hdis;have sb:=k_b hkw;clear hkw hrw hnew hdis;iterate 3 go_step
  refine Zy ?_;refine q_m ?_;simp only[pv];refine q_c 213 func213 #[.int .u32 x,.int .i64 2] (fun w'=>Xz x 2 w' hx (by decide) (by decide)) ?_;refine q_m ?_;simp only[pv];refine q_c 213 func213 #[.int .u32 x,.int .i64 13] (fun w'=>Xz x 13 w' hx (by decide) (by decide)) ?_;simp only[pv];refine q_v _ (WI _ _ _ _ rfl (rr x 2) (rr x 13) rfl rfl (Ws 2 hx) (Ws 13 hx)) ?_;refine q_m ?_;simp only[pv];refine q_c 213 func213 #[.int .u32 x,.int .i64 22] (fun w'=>Xz x 22 w' hx (by decide) (by decide)) ?_;simp only[pv];refine q_v _ (WI _ _ _ _ rfl ((rr x 2)^^^(rr x 13)) (rr x 22) rfl rfl (Gj (Ws 2 hx) (Ws 13 hx)) (Ws 22 hx)) ?_;refine q_a ?_;simp only[pv];refine ZN ?_;intro w3 hqb;replace sb:=b_o sb hqb;clear hqb;go_wp2;go_ret;exact⟨rfl,sb⟩
 ·rfl
theorem Gq (x:Nat)(w:World)(hx:x<4294967296):
  Calls prog 200 #[.int .u32 x] w fun e w'=>e= .returned (.int .u32 (bs1 x:Nat))/\Below w.heap.size w w':=by
 go_enter func200,ntmps200
 iterate 2 go_step
 apply Za [] [_] trivial List.nodup_nil
 ·intro p;refine Ze (.int .u32 0) (fun _=>rfl) ?_;simp only[pv];refine Zf ?_;intro w2 hkw hrw hnew hdis;have sb:=k_b hkw;clear hkw hrw hnew hdis;iterate 3 go_step
  refine Zy ?_;refine q_m ?_;simp only[pv];refine q_c 213 func213 #[.int .u32 x,.int .i64 6] (fun w'=>Xz x 6 w' hx (by decide) (by decide)) ?_;refine q_m ?_;simp only[pv];refine q_c 213 func213 #[.int .u32 x,.int .i64 11] (fun w'=>Xz x 11 w' hx (by decide) (by decide)) ?_;simp only[pv];refine q_v _ (WI _ _ _ _ rfl (rr x 6) (rr x 11) rfl rfl (Ws 6 hx) (Ws 11 hx)) ?_;refine q_m ?_;simp only[pv];refine q_c 213 func213 #[.int .u32 x,.int .i64 25] (fun w'=>Xz x 25 w' hx (by decide) (by decide)) ?_;simp only[pv];refine q_v _ (WI _ _ _ _ rfl ((rr x 6)^^^(rr x 11)) (rr x 25) rfl rfl (Gj (Ws 6 hx) (Ws 11 hx)) (Ws 25 hx)) ?_;refine q_a ?_;simp only[pv];refine ZN ?_;intro w3 hqb;replace sb:=b_o sb hqb;clear hqb;go_wp2;go_ret;exact⟨rfl,sb⟩
 ·rfl
theorem Mb (x y z:Nat)(w:World)(hx:x<4294967296)(hy:y<4294967296)(hz:z<4294967296):
  Calls prog 201 #[.int .u32 x,.int .u32 y,.int .u32 z] w fun e w'=>e= .returned (.int .u32 (chf x y z:Nat))/\Below w.heap.size w w':=by
 go_enter func201,ntmps201
 iterate 2 go_step
 apply Za [] [_] trivial List.nodup_nil
 ·intro p;refine Ze (.int .u32 0) (fun _=>rfl) ?_;simp only[pv];refine Zf ?_;intro w2 hkw hrw hnew hdis;have sb:=k_b hkw;clear hkw hrw hnew hdis;iterate 3 go_step
  refine Zy ?_;refine q_m ?_;refine q_m ?_;simp only[pv];refine q_v _ (TA _ _ _ _ rfl (x) (y) rfl rfl hx hy) ?_;refine q_m ?_;simp only[pv];refine q_v _ (D0 _ _ rfl (x) rfl hx) ?_;refine q_m ?_;simp only[pv];refine q_v _ (TA _ _ _ _ rfl (4294967295-(x)) (z) rfl rfl (by omega) hz) ?_;simp only[pv];refine q_v _ (TB _ _ _ _ rfl ((x)&&&(y)) ((4294967295-(x))&&&(z)) rfl rfl (PS hx) (PS (by omega))) ?_;refine q_a ?_;simp only[pv];refine ZN ?_;intro w3 hqb;replace sb:=b_o sb hqb;clear hqb;go_wp2;go_ret;exact⟨by rw[<-zG x y z hx];rfl,sb⟩
 ·rfl
theorem Jq (x y z:Nat)(w:World)(hx:x<4294967296)(hy:y<4294967296)(hz:z<4294967296):
  Calls prog 203 #[.int .u32 x,.int .u32 y,.int .u32 z] w fun e w'=>e= .returned (.int .u32 (mjf x y z:Nat))/\Below w.heap.size w w':=by
 go_enter func203,ntmps203
 iterate 2 go_step
 apply Za [] [_] trivial List.nodup_nil
 ·intro p;refine Ze (.int .u32 0) (fun _=>rfl) ?_;simp only[pv];refine Zf ?_;intro w2 hkw hrw hnew hdis;have sb:=k_b hkw;clear hkw hrw hnew hdis;iterate 3 go_step
  refine Zy ?_;refine q_m ?_;refine q_m ?_;simp only[pv];refine q_v _ (TA _ _ _ _ rfl (x) (y) rfl rfl hx hy) ?_;refine q_m ?_;refine q_m ?_;simp only[pv];refine q_v _ (TA _ _ _ _ rfl (x) (z) rfl rfl hx hz) ?_;simp only[pv];refine q_v _ (TB _ _ _ _ rfl ((x)&&&(y)) ((x)&&&(z)) rfl rfl (PS hx) (PS hx)) ?_;refine q_m ?_;refine q_m ?_;simp only[pv];refine q_v _ (TA _ _ _ _ rfl (y) (z) rfl rfl hy hz) ?_;simp only[pv];refine q_v _ (TB _ _ _ _ rfl (((x)&&&(y))|||((x)&&&(z))) ((y)&&&(z)) rfl rfl (FD (PS hx) (PS hx)) (PS hy)) ?_;refine q_a ?_;simp only[pv];refine ZN ?_;intro w3 hqb;replace sb:=b_o sb hqb;clear hqb;go_wp2;go_ret;exact⟨by rw[<-zH x y z];rfl,sb⟩
 ·rfl
theorem lt8 {n:Nat}(h:n<256):n<4294967296:=by omega
theorem Jr:(prog.info? 197).map (fun i=>(i.zero,i.size))=some (some (.agg (rC .u32 8 fun _=>0)),8):=by kernel_rfl
theorem Js (w:World):(zeroValue 197).run prog w= .ok (.agg (rC .u32 8 fun _=>0)) w:=(zero_of_info Jr).1 w
theorem Ue:(prog.info? 197).map (·.size)=some 8:=(zero_of_info Jr).2
theorem O3:(prog.info? 228).map (fun i=>(i.zero,i.size))=some (some (.agg (rC .u32 64 fun _=>0)),64):=by kernel_rfl
theorem Rg (w:World):(zeroValue 228).run prog w= .ok (.agg (rC .u32 64 fun _=>0)) w:=(zero_of_info O3).1 w
theorem UD:(prog.info? 228).map (·.size)=some 64:=(zero_of_info O3).2
theorem Gr:(prog.info? 198).map (fun i=>(i.zero,i.size))=some (some (.agg (rC .u8 64 fun _=>0)),64):=by kernel_rfl
theorem O4:(prog.info? 198).map (·.size)=some 64:=(zero_of_info Gr).2
theorem Gs:(prog.info? 164).map (fun i=>(i.zero,i.size))=some (some (.agg (rC .u8 32 fun _=>0)),32):=by kernel_rfl
theorem Gt (w:World):(zeroValue 164).run prog w= .ok (.agg (rC .u8 32 fun _=>0)) w:=(zero_of_info Gs).1 w
theorem O5 (v:Nat->Nat):prog.built 197 [(0,.int .u32 (v 0:Nat)),(1,.int .u32 (v 1:Nat)),(2,.int .u32 (v 2:Nat)),(3,.int .u32 (v 3:Nat)),(4,.int .u32 (v 4:Nat)),(5,.int .u32 (v 5:Nat)),(6,.int .u32 (v 6:Nat)),(7,.int .u32 (v 7:Nat))]=some (rC .u32 8 v):=by kernel_rfl
theorem Uf {P:Program}{o:Oper}{ρ:Operand->Value}(t:TypeId)(l:List (Nat×Operand))(ho:o.op= .build t l.toArray)(vs:List (Nat×Value))(hv:l.map (fun q=>(q.1,ρ q.2))=vs)(c:Array Value)(hb:P.built t vs=some c)(w:World):
  (execOp ρ o).run P w= .ok (.value (.agg c)) w:=by
 unfold execOp;simp only[ho,List.map_toArray,Sem.run_bind];rw[show(l.map fun x=>match x with|(i,y)=>(i,ρ y))=vs from hv,run_build w t vs.toArray c (by simpa using hb)];rfl
def Wt (F:Nat->Nat)(i j:Nat):Nat:=if j<i then F j else 0
theorem UE (F:Nat->Nat)(i N:Nat)(hN:F i=N)(n:Nat): ∀j,j<n->Wt F (i+1) j=if j=i then N else Wt F i j:=by
 intro j _;unfold Wt;by_cases e:j=i
 ·subst e;rw[if_pos rfl,if_pos (by omega),hN]
 ·rw[if_neg e];by_cases h:j<i
  ·rw[if_pos h,if_pos (by omega)]
  ·rw[if_neg h,if_neg (by omega)]
theorem Vk (F:Nat->Nat)(i j:Nat)(h:j<i):Wt F i j=F j:=if_pos h
theorem Qx (F:Nat->Nat):Wt F 0=fun _=>0:=by funext j;unfold Wt;rw[if_neg (by omega)]
structure SpH (wr w:World)(g1 g2 g3:Nat)(b u:Nat->Nat):Prop where
 x:Row wr g1 (rC .u8 64 b) 198
 z:Row wr g2 (rC .u32 64 fun _=>0) 228
 o:Row wr g3 (rC .u32 64 u) 228
 below:Below w.heap.size w wr
theorem Mc (b:Nat->Nat)(hb: ∀i,b i<256)(w:World):
  Calls prog 199 #[.agg (rC .u8 64 b)] w fun e w'=>e= .returned (.agg (rC .u32 64 (wf b)))/\Below w.heap.size w w':=by
 go_enter func199,ntmps199
 iterate 2 go_step
 apply Za [] [_,_] trivial List.nodup_nil
 ·intro p;refine Yd 198 _ rfl _ rfl ?_;simp only[pv];refine Wz 228 rfl _ Rg ?_;simp only[pv];refine Zf ?_;intro w2 hkw hrw hnew hdis;have n1:=hnew 0 rfl;have n2:=hnew 1 rfl;have zr1:Row w2 (p 0) (rC .u8 64 b) 198:=hrw 1 (198,rC .u8 64 b) rfl;have zr2:Row w2 (p 1) (rC .u32 64 fun _=>0) 228:=hrw 3 (228,rC .u32 64 fun _=>0) rfl;have d1x2:=hdis 0 1 (by omega) rfl rfl;have sb:=k_b hkw;have b2:w.heap.size<=p 1:=n2;clear hkw hrw hnew hdis n1 n2;generalize p 0=g1 at*;generalize p 1=g2 at*;have r1:=zr1;clear zr1;have r2:=zr2;clear zr2;iterate 3 go_step
  apply Za [] [_] trivial List.nodup_nil
  ·intro p;refine Wz 228 rfl _ Rg ?_;simp only[pv];refine Zf ?_;intro w3 hkw hrw hnew hdis;have n3:=hnew 0 rfl;have zr3:Row w3 (p 0) (rC .u32 64 fun _=>0) 228:=hrw 1 (228,rC .u32 64 fun _=>0) rfl;have d1x3:=l_l r1.lt n3;have d2x3:=l_l r2.lt n3;replace r1:=hkw.ro r1;replace r2:=hkw.ro r2;have b3:=Nat.le_trans sb.size n3;replace sb:=kk sb hkw;clear hkw hrw hnew hdis n3;generalize p 0=g3 at*;have r3:=zr3;clear zr3;have H0:SpH w3 w g1 g2 g3 b (Wt (wf b) 0):=⟨r1,r2,by rw[Qx];exact r3,sb⟩;have HX:Hid (g1≠g2/\g1≠g3/\g2≠g3/\w.heap.size<=g2/\w.heap.size<=g3):=⟨by omega,by omega,by omega,b2,b3⟩;clear r1 r2 r3 sb b2 b3 d1x2 d1x3 d2x3
   go_wp2_with fail
   go_loopg [8] 16 (fun g s8 wr=> ∃i:Nat,i+g=16/\s8= .int .i64 i/\SpH wr w g1 g2 g3 b (Wt (wf b) i))
   case atStart=>exact⟨0,by omega,rfl,H0⟩
   case round=>
    obtain⟨i,hi,rfl,r1,r2,r3,sb⟩:=hrel;obtain⟨x1,x2,x3,x4,x5⟩:=HX.out;clear H0
    cases gk with
    |zero=>
     obtain rfl:i=16:=by omega
     clear hi
     go_step
     apply Za [] [_] trivial List.nodup_nil
     ·intro p;refine Ze _ (QG _ _ _ _ rfl 16 16 rfl rfl false rfl) ?_;simp only[pv];refine Zf ?_;intro w4 hkw hrw hnew hdis;replace r1:=hkw.ro r1;replace r2:=hkw.ro r2;replace r3:=hkw.ro r3;replace sb:=kk sb hkw;clear hkw hrw hnew hdis;have H1:SpH w4 w g1 g2 g3 b (Wt (wf b) 16):=⟨r1,r2,r3,sb⟩;clear r1 r2 r3 sb x1 x2 x3 x4 x5
      go_wp2_with fail
      go_loopg [41] 48 (fun g s41 wr=> ∃i:Nat,i+g=48/\s41= .int .i64 i/\SpH wr w g1 g2 g3 b (Wt (wf b) (16+i)))
      case atStart=>exact⟨0,by omega,rfl,H1⟩
      case round=>
       obtain⟨i,hi,rfl,r1,r2,r3,sb⟩:=hrel;obtain⟨x1,x2,x3,x4,x5⟩:=HX.out;clear H1
       cases gk with
       |zero=>
        obtain rfl:i=48:=by omega
        clear hi
        go_step
        apply Za [] [_] trivial List.nodup_nil
        ·intro p;refine Ze _ (QG _ _ _ _ rfl 48 48 rfl rfl false rfl) ?_;simp only[pv];refine Zf ?_;intro w5 hkw hrw hnew hdis;replace r1:=hkw.ro r1;replace r2:=hkw.ro r2;replace r3:=hkw.ro r3;replace sb:=kk sb hkw;clear hkw hrw hnew hdis;iterate 8 go_step
         apply Za [(g2,228,rC .u32 64 fun _=>0)] [_,_] ⟨r2,trivial⟩ (by simp<;>omega)
         ·intro p;refine VV 228 _ rfl _ rfl r3 (by simp<;>omega) 64 _ underlying228 (by rw[Z6];exact UD) ?_;simp only[pv];refine XZ 0 228 _ _ rfl rfl rfl (rC .u32 64 (Wt (wf b) (16+48))) rfl (by rw[Z6];exact UD) (by simp only[Z6]) (Qw _ _ _) ?_;simp only[Act.put];refine Zf ?_;intro w6 hkw hrw hnew hdis;have zr2:Row w6 (g2) (rC .u32 64 (Wt (wf b) (16+48))) 228:=hrw 0 (228,rC .u32 64 (Wt (wf b) (16+48))) rfl;replace sb:=kk sb hkw;clear hkw hrw hnew hdis r2;have r2:=zr2;clear zr2;go_wp2;exact ZL rfl _ rfl r2 64 _ underlying228 (by rw[Z6];exact UD) rfl ⟨by rw[O1 .u32 64 fun i hi=>Vk (wf b) (16+48) i hi],sb⟩
         ·rfl
        ·rfl
       |succ g=>
        go_step
        apply Za [] [_] trivial List.nodup_nil
        ·intro p;refine Ze _ (QG _ _ _ _ rfl i 48 rfl rfl true (decide_eq_true (by omega))) ?_;simp only[pv];refine Zf ?_;intro w5 hkw hrw hnew hdis;replace r1:=hkw.ro r1;replace r2:=hkw.ro r2;replace r3:=hkw.ro r3;replace sb:=kk sb hkw;clear hkw hrw hnew hdis;iterate 10 go_step
         apply Za [] [_,_] trivial List.nodup_nil
         ·intro p;refine m_m ?_;refine m_a ?_;simp only[pv];refine Zf ?_;intro w6 hkw hrw hnew hdis;replace r1:=hkw.ro r1;replace r2:=hkw.ro r2;replace r3:=hkw.ro r3;replace sb:=kk sb hkw;clear hkw hrw hnew hdis;iterate 3 go_step
          apply Za [] [_,_,_] trivial List.nodup_nil
          ·intro p;refine m_m ?_;simp only[pv];refine Ze _ (Xr _ _ _ _ rfl 16 i rfl rfl (by omega)) ?_;refine m_a ?_;simp only[pv];refine Zf ?_;intro w7 hkw hrw hnew hdis;replace r1:=hkw.ro r1;replace r2:=hkw.ro r2;replace r3:=hkw.ro r3;replace sb:=kk sb hkw;clear hkw hrw hnew hdis
           have hN:wf b (16+i)=(((ss1 (wf b (16+i-2))+wf b (16+i-7))%4294967296+ss0 (wf b (16+i-15)))%4294967296+wf b (16+i-16))%4294967296:=by
            rw[B4 b _ (by omega)];generalize ss1 (wf b (16+i-2))=y1;generalize wf b (16+i-7)=y2;generalize ss0 (wf b (16+i-15))=y3;generalize wf b (16+i-16)=y4;omega
           iterate 2 go_step
           apply Zi (by kernel_rfl) [(g3,228,rC .u32 64 (Wt (wf b) (16+i)))] [_,_,_,_,_,_,_,_,_,_,_,_,_,_,_,_,_,_,_,_,_,_,_,_] ⟨r3,trivial⟩ (by simp<;>omega)
           ·intro p;refine m_m ?_;refine m_m ?_;simp only[pv];refine Ze _ (TC _ _ _ _ rfl (16+i) (2) rfl rfl (by omega) (by omega)) ?_;simp only[pv];refine Ze _ (Zl 228 _ _ rfl (g3) rfl (16+i-2) 64 rfl (by omega) _ underlying228 sizeOf196) ?_;simp only[pv];refine Y9 0 196 _ rfl (16+i-2) rfl rfl (.int .u32 (wf b (16+i-2):Nat)) ((Ys _ _ _ _ (by omega)).trans (by rw[Vk _ _ _ (by omega)])) isAgg196 ?_;simp only[pv];refine m_c 211 func211 #[.int .u32 (wf b (16+i-2):Nat)] (fun w'=>Ma (wf b (16+i-2)) w' (B5 hb _)) ?_;refine m_m ?_;simp only[pv];refine Ze _ (TC _ _ _ _ rfl (16+i) (7) rfl rfl (by omega) (by omega)) ?_;simp only[pv];refine Ze _ (Zl 228 _ _ rfl (g3) rfl (16+i-7) 64 rfl (by omega) _ underlying228 sizeOf196) ?_;simp only[pv];refine Y9 0 196 _ rfl (16+i-7) rfl rfl (.int .u32 (wf b (16+i-7):Nat)) ((Ys _ _ _ _ (by omega)).trans (by rw[Vk _ _ _ (by omega)])) isAgg196 ?_;simp only[pv];refine Ze _ (XU _ _ _ _ rfl (ss1 (wf b (16+i-2))) (wf b (16+i-7)) _ rfl rfl rfl) ?_;refine m_m ?_;simp only[pv];refine Ze _ (TC _ _ _ _ rfl (16+i) (15) rfl rfl (by omega) (by omega)) ?_;simp only[pv];refine Ze _ (Zl 228 _ _ rfl (g3) rfl (16+i-15) 64 rfl (by omega) _ underlying228 sizeOf196) ?_;simp only[pv];refine Y9 0 196 _ rfl (16+i-15) rfl rfl (.int .u32 (wf b (16+i-15):Nat)) ((Ys _ _ _ _ (by omega)).trans (by rw[Vk _ _ _ (by omega)])) isAgg196 ?_;simp only[pv];refine m_c 212 func212 #[.int .u32 (wf b (16+i-15):Nat)] (fun w'=>N9 (wf b (16+i-15)) w' (B5 hb _)) ?_;simp only[pv];refine Ze _ (XU _ _ _ _ rfl ((ss1 (wf b (16+i-2))+wf b (16+i-7))%4294967296) (ss0 (wf b (16+i-15))) _ rfl rfl rfl) ?_;refine m_m ?_;simp only[pv];refine Ze _ (TC _ _ _ _ rfl (16+i) (16) rfl rfl (by omega) (by omega)) ?_;simp only[pv];refine Ze _ (Zl 228 _ _ rfl (g3) rfl (16+i-16) 64 rfl (by omega) _ underlying228 sizeOf196) ?_;simp only[pv];refine Y9 0 196 _ rfl (16+i-16) rfl rfl (.int .u32 (wf b (16+i-16):Nat)) ((Ys _ _ _ _ (by omega)).trans (by rw[Vk _ _ _ (by omega)])) isAgg196 ?_;simp only[pv];refine Ze _ (XU _ _ _ _ rfl (((ss1 (wf b (16+i-2))+wf b (16+i-7))%4294967296+ss0 (wf b (16+i-15)))%4294967296) (wf b (16+i-16)) _ rfl rfl rfl) ?_;simp only[pv];refine Ze _ (Zl 228 _ _ rfl (g3) rfl (16+i) 64 rfl (by omega) _ underlying228 sizeOf196) ?_;simp only[pv];refine Xn 0 196 _ _ rfl (16+i) rfl rfl .u32 ((((((ss1 (wf b (16+i-2))+wf b (16+i-7))%4294967296+ss0 (wf b (16+i-15)))%4294967296+wf b (16+i-16))%4294967296:Nat):Int)) rfl sizeOf196 (by rw[Z6];omega) (rC .u32 64 (Wt (wf b) (16+i+1))) (Sd _ _ _ _ _ _ (UE _ _ _ hN _)) ?_;simp only[Act.put];refine Zf ?_;intro w8 hkw hrw hnew hdis;have zr3:Row w8 (g3) (rC .u32 64 (Wt (wf b) (16+i+1))) 228:=hrw 0 (228,rC .u32 64 (Wt (wf b) (16+i+1))) rfl;replace r1:=hkw.ro r1;replace r2:=hkw.ro r2;replace sb:=kk sb hkw;clear hkw hrw hnew hdis r3;have r3:=zr3;clear zr3;iterate 2 go_step
            apply Za [] [_,_] trivial List.nodup_nil
            ·intro p;refine Ze _ (Xr _ _ _ _ rfl i 1 rfl rfl (by omega)) ?_;refine m_m ?_;simp only[pv];refine Zf ?_;intro w9 hkw hrw hnew hdis;replace r1:=hkw.ro r1;replace r2:=hkw.ro r2;replace r3:=hkw.ro r3;replace sb:=kk sb hkw;clear hkw hrw hnew hdis;go_wp2
             go_roundg g
             case measure=>omega
             case rel=>exact⟨i+1,by omega,rfl,r1,r2,r3,sb⟩
            ·rfl
           ·kernel_rfl
          ·rfl
         ·rfl
        ·rfl
     ·rfl
    |succ g=>
     go_step
     apply Za [] [_] trivial List.nodup_nil
     ·intro p;refine Ze _ (QG _ _ _ _ rfl i 16 rfl rfl true (decide_eq_true (by omega))) ?_;simp only[pv];refine Zf ?_;intro w4 hkw hrw hnew hdis;replace r1:=hkw.ro r1;replace r2:=hkw.ro r2;replace r3:=hkw.ro r3;replace sb:=kk sb hkw;clear hkw hrw hnew hdis;iterate 10 go_step
      apply Za [] [_,_] trivial List.nodup_nil
      ·intro p;refine m_m ?_;refine m_a ?_;simp only[pv];refine Zf ?_;intro w5 hkw hrw hnew hdis;replace r1:=hkw.ro r1;replace r2:=hkw.ro r2;replace r3:=hkw.ro r3;replace sb:=kk sb hkw;clear hkw hrw hnew hdis;iterate 3 go_step
       apply Za [] [_,_,_] trivial List.nodup_nil
       ·intro p;refine m_m ?_;simp only[pv];refine Ze _ (O2 _ _ _ _ rfl i 4 _ rfl rfl rfl (by omega)) ?_;refine m_a ?_;simp only[pv];refine Zf ?_;intro w6 hkw hrw hnew hdis;replace r1:=hkw.ro r1;replace r2:=hkw.ro r2;replace r3:=hkw.ro r3;replace sb:=kk sb hkw;clear hkw hrw hnew hdis
        have hN:wf b i=((((b (i*4))*2^24)|||((b (i*4+1))*2^16))|||((b (i*4+2))*2^8))|||(b (i*4+3)):=by
         rw[B1 b i (by omega)];unfold wrd;rw[Nat.mul_comm 4 i]
        iterate 2 go_step
        apply Zi (by kernel_rfl) [(g3,228,rC .u32 64 (Wt (wf b) i))] [_,_,_,_,_,_,_,_,_,_,_,_,_,_,_,_,_,_,_,_,_,_,_,_,_,_,_,_] ⟨r3,trivial⟩ (by simp<;>omega)
        ·intro p;refine m_m ?_;refine m_m ?_;simp only[pv];refine Ze _ (Zl 198 _ _ rfl (g1) rfl (i*4) 64 rfl (by omega) _ underlying198 sizeOf5) ?_;simp only[pv];refine Zq 5 _ rfl _ (i*4) rfl r1 (by simp<;>omega) (.int .u8 (b (i*4):Nat)) (Ys _ _ _ _ (by omega)) isAgg5 ?_;simp only[pv];refine Ze (.int .u32 (b (i*4):Nat)) (W1 _ _ _ rfl .u8 .u32 underlying5 underlying196 ((b (i*4):Nat):Int) _ rfl (Gm _ _ (Nat.mod_eq_of_lt (by have:=(hb (i*4));omega)))) ?_;simp only[pv];refine Ze (.int .u32 ((b (i*4))*2^24:Nat)) (Rf _ _ _ _ rfl (b (i*4)) (24) _ .u64 rfl rfl (by omega) (by have:=(hb (i*4));omega)) ?_;refine m_m ?_;simp only[pv];refine Ze _ (Xr _ _ _ _ rfl (i*4) (1) rfl rfl (by omega)) ?_;simp only[pv];refine Ze _ (Zl 198 _ _ rfl (g1) rfl (i*4+1) 64 rfl (by omega) _ underlying198 sizeOf5) ?_;simp only[pv];refine Zq 5 _ rfl _ (i*4+1) rfl r1 (by simp<;>omega) (.int .u8 (b (i*4+1):Nat)) (Ys _ _ _ _ (by omega)) isAgg5 ?_;simp only[pv];refine Ze (.int .u32 (b (i*4+1):Nat)) (W1 _ _ _ rfl .u8 .u32 underlying5 underlying196 ((b (i*4+1):Nat):Int) _ rfl (Gm _ _ (Nat.mod_eq_of_lt (by have:=(hb (i*4+1));omega)))) ?_;simp only[pv];refine Ze (.int .u32 ((b (i*4+1))*2^16:Nat)) (Rf _ _ _ _ rfl (b (i*4+1)) (16) _ .u64 rfl rfl (by omega) (by have:=(hb (i*4+1));omega)) ?_;simp only[pv];refine Ze _ (TB _ _ _ _ rfl ((b (i*4))*2^24) ((b (i*4+1))*2^16) rfl rfl (by have:=(hb (i*4));omega) (by have:=(hb (i*4+1));omega)) ?_;refine m_m ?_;simp only[pv];refine Ze _ (Xr _ _ _ _ rfl (i*4) (2) rfl rfl (by omega)) ?_;simp only[pv];refine Ze _ (Zl 198 _ _ rfl (g1) rfl (i*4+2) 64 rfl (by omega) _ underlying198 sizeOf5) ?_;simp only[pv];refine Zq 5 _ rfl _ (i*4+2) rfl r1 (by simp<;>omega) (.int .u8 (b (i*4+2):Nat)) (Ys _ _ _ _ (by omega)) isAgg5 ?_;simp only[pv];refine Ze (.int .u32 (b (i*4+2):Nat)) (W1 _ _ _ rfl .u8 .u32 underlying5 underlying196 ((b (i*4+2):Nat):Int) _ rfl (Gm _ _ (Nat.mod_eq_of_lt (by have:=(hb (i*4+2));omega)))) ?_;simp only[pv];refine Ze (.int .u32 ((b (i*4+2))*2^8:Nat)) (Rf _ _ _ _ rfl (b (i*4+2)) (8) _ .u64 rfl rfl (by omega) (by have:=(hb (i*4+2));omega)) ?_;simp only[pv];refine Ze _ (TB _ _ _ _ rfl (((b (i*4))*2^24)|||((b (i*4+1))*2^16)) ((b (i*4+2))*2^8) rfl rfl (FD (by have:=(hb (i*4));omega) (by have:=(hb (i*4+1));omega)) (by have:=(hb (i*4+2));omega)) ?_;refine m_m ?_;simp only[pv];refine Ze _ (Xr _ _ _ _ rfl (i*4) (3) rfl rfl (by omega)) ?_;simp only[pv];refine Ze _ (Zl 198 _ _ rfl (g1) rfl (i*4+3) 64 rfl (by omega) _ underlying198 sizeOf5) ?_;simp only[pv];refine Zq 5 _ rfl _ (i*4+3) rfl r1 (by simp<;>omega) (.int .u8 (b (i*4+3):Nat)) (Ys _ _ _ _ (by omega)) isAgg5 ?_;simp only[pv];refine Ze (.int .u32 (b (i*4+3):Nat)) (W1 _ _ _ rfl .u8 .u32 underlying5 underlying196 ((b (i*4+3):Nat):Int) _ rfl (Gm _ _ (Nat.mod_eq_of_lt (by have:=(hb (i*4+3));omega)))) ?_;simp only[pv];refine Ze _ (TB _ _ _ _ rfl ((((b (i*4))*2^24)|||((b (i*4+1))*2^16))|||((b (i*4+2))*2^8)) (b (i*4+3)) rfl rfl (FD (FD (by have:=(hb (i*4));omega) (by have:=(hb (i*4+1));omega)) (by have:=(hb (i*4+2));omega)) (lt8 (hb (i*4+3)))) ?_;simp only[pv];refine Ze _ (Zl 228 _ _ rfl (g3) rfl (i) 64 rfl (by omega) _ underlying228 sizeOf196) ?_;simp only[pv];refine Xn 0 196 _ _ rfl (i) rfl rfl .u32 (((((((b (i*4))*2^24)|||((b (i*4+1))*2^16))|||((b (i*4+2))*2^8))|||(b (i*4+3)):Nat):Int)) rfl sizeOf196 (by rw[Z6];omega) (rC .u32 64 (Wt (wf b) (i+1))) (Sd _ _ _ _ _ _ (UE _ _ _ hN _)) ?_;simp only[Act.put];refine Zf ?_;intro w7 hkw hrw hnew hdis;have zr3:Row w7 (g3) (rC .u32 64 (Wt (wf b) (i+1))) 228:=hrw 0 (228,rC .u32 64 (Wt (wf b) (i+1))) rfl;replace r1:=hkw.ro r1;replace r2:=hkw.ro r2;replace sb:=kk sb hkw;clear hkw hrw hnew hdis r3;have r3:=zr3;clear zr3;iterate 2 go_step
         apply Za [] [_,_] trivial List.nodup_nil
         ·intro p;refine Ze _ (Xr _ _ _ _ rfl i 1 rfl rfl (by omega)) ?_;refine m_m ?_;simp only[pv];refine Zf ?_;intro w8 hkw hrw hnew hdis;replace r1:=hkw.ro r1;replace r2:=hkw.ro r2;replace r3:=hkw.ro r3;replace sb:=kk sb hkw;clear hkw hrw hnew hdis;go_wp2
          go_roundg g
          case measure=>omega
          case rel=>exact⟨i+1,by omega,rfl,r1,r2,r3,sb⟩
         ·rfl
        ·kernel_rfl
       ·rfl
      ·rfl
     ·rfl
  ·rfl
 ·rfl
def KT (w:World):Prop:= ∃cs t,Wq w 0 cs t/\ ∀i,i<64->cs[i]?=some (.int .u32 (kf i:Nat))
theorem KT.below {w w2:World}(h:KT w)(hb:Below w.heap.size w w2):KT w2:=by
 obtain⟨cs,t,r,hk⟩:=h;exact⟨cs,t,r.belowAll hb,hk⟩
theorem KT.kept {w w2:World}{S:List Nat}(h:KT w)(hk:Kept S w w2)(hS:0∉S):KT w2:=by
 obtain⟨cs,t,r,hc⟩:=h;exact⟨cs,t,hk.rowR r hS,hc⟩
theorem KT.lt {w:World}(h:KT w):0<w.heap.size:=by
 obtain⟨cs,t,r,hc⟩:=h;exact r.lt
def QH (F G:Nat->Nat)(i j:Nat):Nat:=if j<i then F j else G j
theorem Gv (F G:Nat->Nat)(i N:Nat)(hN:F i=N)(n:Nat): ∀j,j<n->QH F G (i+1) j=if j=i then N else QH F G i j:=by
 intro j _;unfold QH;by_cases e:j=i
 ·subst e;rw[if_pos rfl,if_pos (by omega),hN]
 ·rw[if_neg e];by_cases h:j<i
  ·rw[if_pos h,if_pos (by omega)]
  ·rw[if_neg h,if_neg (by omega)]
theorem D7 (F G:Nat->Nat)(i j:Nat)(h:j<i):QH F G i j=F j:=if_pos h
theorem D8 (F G:Nat->Nat)(i j:Nat)(h:i<=j):QH F G i j=G j:=if_neg (by omega)
theorem Jt (F G:Nat->Nat):QH F G 0=G:=by funext j;unfold QH;rw[if_neg (by omega)]
theorem zL (v:Nat->Nat)(k w:Nat):stp v k w 0=((((((v 7+bs1 (v 4))%4294967296+chf (v 4) (v 5) (v 6))%4294967296+k)%4294967296+w)%4294967296)+(bs0 (v 0)+mjf (v 0) (v 1) (v 2))%4294967296)%4294967296:=by
 show(t1f v k w+t2f v)%4294967296=_
 unfold t1f t2f;generalize bs1 (v 4)=y1;generalize chf (v 4) (v 5) (v 6)=y2;generalize bs0 (v 0)=y3;generalize mjf (v 0) (v 1) (v 2)=y4;omega
theorem zM (v:Nat->Nat)(k w:Nat):stp v k w 4=(v 3+((((v 7+bs1 (v 4))%4294967296+chf (v 4) (v 5) (v 6))%4294967296+k)%4294967296+w)%4294967296)%4294967296:=by
 show(v 3+t1f v k w)%4294967296=_
 unfold t1f;generalize bs1 (v 4)=y1;generalize chf (v 4) (v 5) (v 6)=y2;omega
structure MiH (wr w:World)(g2 g3 g4 g5:Nat)(b v:Nat->Nat):Prop where
 r2:Row wr g2 (rC .u32 8 v) 197
 r3:Row wr g3 (rC .u8 64 b) 198
 r4:Row wr g4 (rC .u32 8 fun _=>0) 197
 r5:Row wr g5 (rC .u32 64 (wf b)) 228
 below:Below w.heap.size w wr
theorem Ju (v b:Nat->Nat)(hv: ∀i,v i<4294967296)(hb: ∀i,b i<256)(w:World)(kT:KT w):
  Calls prog 170 #[.agg (rC .u32 8 v),.agg (rC .u8 64 b)] w fun e w'=>e= .returned (.agg (rC .u32 8 (cmp v b)))/\Below w.heap.size w w':=by
 go_enter func170,ntmps170
 iterate 2 go_step
 apply Za [] [_,_,_] trivial List.nodup_nil
 ·intro p;refine Yd 197 _ rfl _ rfl ?_;simp only[pv];refine Yd 198 _ rfl _ rfl ?_;simp only[pv];refine Wz 197 rfl _ Js ?_;simp only[pv];refine Zf ?_;intro w2 hkw hrw hnew hdis;have n2:=hnew 0 rfl;have n3:=hnew 1 rfl;have n4:=hnew 2 rfl;have zr2:Row w2 (p 0) (rC .u32 8 v) 197:=hrw 1 (197,rC .u32 8 v) rfl;have zr3:Row w2 (p 1) (rC .u8 64 b) 198:=hrw 3 (198,rC .u8 64 b) rfl;have zr4:Row w2 (p 2) (rC .u32 8 fun _=>0) 197:=hrw 5 (197,rC .u32 8 fun _=>0) rfl;have d2x3:=hdis 0 1 (by omega) rfl rfl;have d2x4:=hdis 0 2 (by omega) rfl rfl;have d3x4:=hdis 1 2 (by omega) rfl rfl;have sb:=k_b hkw;have b2:w.heap.size<=p 0:=n2;have b4:w.heap.size<=p 2:=n4;clear hkw hrw hnew hdis n2 n3 n4;generalize p 0=g2 at*;generalize p 1=g3 at*;generalize p 2=g4 at*;have r2:=zr2;clear zr2;have r3:=zr3;clear zr3;have r4:=zr4;clear zr4;iterate 3 go_step
  apply Za [] [_,_,_,_] trivial List.nodup_nil
  ·intro p;refine VV 198 _ rfl _ rfl r3 (by simp<;>omega) 64 _ underlying198 (by rw[Z6];exact O4) ?_;simp only[pv];refine m_c 199 func199 #[.agg (rC .u8 64 b)] (fun w'=>Mc b hb w') ?_;simp only[pv];refine Wz 228 rfl _ Rg ?_;simp only[pv];refine XZ 5 228 _ _ rfl rfl rfl (rC .u32 64 (wf b)) rfl (by rw[Z6];exact UD) (by simp only[Z6]) (Qw _ _ _) ?_;simp only[Act.put];refine Zf ?_;intro w3 hkw hrw hnew hdis;have n5:=hnew 2 rfl;have zr5:Row w3 (p 2) (rC .u32 64 (wf b)) 228:=hrw 5 (228,rC .u32 64 (wf b)) rfl;have d2x5:=l_l r2.lt n5;have d4x5:=l_l r4.lt n5;replace r2:=hkw.ro r2;replace r3:=hkw.ro r3;replace r4:=hkw.ro r4;replace sb:=kk sb hkw;clear hkw hrw hnew hdis n5;generalize p 2=g5 at*;have r5:=zr5;clear zr5;iterate 3 go_step
   refine ZC (by kernel_rfl) (by kernel_rfl) ?_;refine q_v _ (Zl 197 _ _ rfl (g2) rfl (0) 8 rfl (by omega) _ underlying197 sizeOf196) ?_;simp only[pv];refine ZK (by rfl) 196 _ rfl _ (0) rfl r2 (.int .u32 (v 0:Nat)) (Ys _ _ _ _ (by omega)) isAgg196 ?_;simp only[pv];refine q_v _ (Zl 197 _ _ rfl (g2) rfl (1) 8 rfl (by omega) _ underlying197 sizeOf196) ?_;simp only[pv];refine ZK (by rfl) 196 _ rfl _ (1) rfl r2 (.int .u32 (v 1:Nat)) (Ys _ _ _ _ (by omega)) isAgg196 ?_;simp only[pv];refine q_v _ (Zl 197 _ _ rfl (g2) rfl (2) 8 rfl (by omega) _ underlying197 sizeOf196) ?_;simp only[pv];refine ZK (by rfl) 196 _ rfl _ (2) rfl r2 (.int .u32 (v 2:Nat)) (Ys _ _ _ _ (by omega)) isAgg196 ?_;simp only[pv];refine q_v _ (Zl 197 _ _ rfl (g2) rfl (3) 8 rfl (by omega) _ underlying197 sizeOf196) ?_;simp only[pv];refine ZK (by rfl) 196 _ rfl _ (3) rfl r2 (.int .u32 (v 3:Nat)) (Ys _ _ _ _ (by omega)) isAgg196 ?_;refine q_a ?_;refine q_a ?_;refine q_a ?_;refine q_a ?_;simp only[pv];refine ZN ?_;intro w4 hqb;replace r2:=r2.belowAll hqb;replace r3:=r3.belowAll hqb;replace r4:=r4.belowAll hqb;replace r5:=r5.belowAll hqb;replace sb:=b_o sb hqb;clear hqb;iterate 3 go_step
   refine ZC (by kernel_rfl) (by kernel_rfl) ?_;refine q_v _ (Zl 197 _ _ rfl (g2) rfl (4) 8 rfl (by omega) _ underlying197 sizeOf196) ?_;simp only[pv];refine ZK (by rfl) 196 _ rfl _ (4) rfl r2 (.int .u32 (v 4:Nat)) (Ys _ _ _ _ (by omega)) isAgg196 ?_;simp only[pv];refine q_v _ (Zl 197 _ _ rfl (g2) rfl (5) 8 rfl (by omega) _ underlying197 sizeOf196) ?_;simp only[pv];refine ZK (by rfl) 196 _ rfl _ (5) rfl r2 (.int .u32 (v 5:Nat)) (Ys _ _ _ _ (by omega)) isAgg196 ?_;simp only[pv];refine q_v _ (Zl 197 _ _ rfl (g2) rfl (6) 8 rfl (by omega) _ underlying197 sizeOf196) ?_;simp only[pv];refine ZK (by rfl) 196 _ rfl _ (6) rfl r2 (.int .u32 (v 6:Nat)) (Ys _ _ _ _ (by omega)) isAgg196 ?_;simp only[pv];refine q_v _ (Zl 197 _ _ rfl (g2) rfl (7) 8 rfl (by omega) _ underlying197 sizeOf196) ?_;simp only[pv];refine ZK (by rfl) 196 _ rfl _ (7) rfl r2 (.int .u32 (v 7:Nat)) (Ys _ _ _ _ (by omega)) isAgg196 ?_;refine q_a ?_;refine q_a ?_;refine q_a ?_;refine q_a ?_;simp only[pv];refine ZN ?_;intro w5 hqb;replace r2:=r2.belowAll hqb;replace r3:=r3.belowAll hqb;replace r4:=r4.belowAll hqb;replace r5:=r5.belowAll hqb;replace sb:=b_o sb hqb;clear hqb;have H0:MiH w5 w g2 g3 g4 g5 b v:=⟨r2,r3,r4,r5,sb⟩;have HX:Hid (g2≠g4/\g5≠g4/\g3≠g4/\g3≠g2/\g4≠g2/\g5≠g2/\w.heap.size<=g2/\w.heap.size<=g4):=⟨by omega,by omega,by omega,by omega,by omega,by omega,b2,b4⟩;clear r2 r3 r4 r5 sb b2 b4 d2x3 d2x4 d3x4 d2x5 d4x5
   go_wp2_with fail
   go_loopg [6,7,8,9,10,11,12,13,37] 64 (fun g s6 s7 s8 s9 s10 s11 s12 s13 s37 wr=> ∃t:Nat,t+g=64/\s37= .int .i64 t/\s6= .int .u32 (rnd (wf b) v t 0:Nat)/\s7= .int .u32 (rnd (wf b) v t 1:Nat)/\s8= .int .u32 (rnd (wf b) v t 2:Nat)/\s9= .int .u32 (rnd (wf b) v t 3:Nat)/\s10= .int .u32 (rnd (wf b) v t 4:Nat)/\s11= .int .u32 (rnd (wf b) v t 5:Nat)/\s12= .int .u32 (rnd (wf b) v t 6:Nat)/\s13= .int .u32 (rnd (wf b) v t 7:Nat)/\MiH wr w g2 g3 g4 g5 b v)
   case atStart=>exact⟨0,by omega,rfl,rfl,rfl,rfl,rfl,rfl,rfl,rfl,rfl,H0⟩
   case round=>
    obtain⟨t,ht,rfl,rfl,rfl,rfl,rfl,rfl,rfl,rfl,rfl,r2,r3,r4,r5,sb⟩:=hrel;have hV: ∀i,rnd (wf b) v t i<4294967296:=FF hv t
    clear H0
    cases gk with
    |zero=>
     obtain rfl:t=64:=by omega
     clear ht;have HC:Hid (∀i,cmp v b i=(v i+rnd (wf b) v 64 i)%4294967296):=fun _=>rfl
     generalize rnd (wf b) v 64=V at*
     go_step
     apply Za [] [_] trivial List.nodup_nil
     ·intro p;refine Ze _ (QG _ _ _ _ rfl 64 64 rfl rfl false rfl) ?_;simp only[pv];refine Zf ?_;intro w6 hkw hrw hnew hdis;replace r2:=hkw.ro r2;replace r3:=hkw.ro r3;replace r4:=hkw.ro r4;replace r5:=hkw.ro r5;replace sb:=kk sb hkw;clear hkw hrw hnew hdis;iterate 8 go_step
      apply Za [] [_,_,_,_,_,_,_,_,_,_,_] trivial List.nodup_nil
      ·intro p;refine m_m ?_;refine m_m ?_;refine m_m ?_;refine m_m ?_;refine m_m ?_;simp only[pv];refine m_m ?_;refine m_m ?_;refine m_m ?_;simp only[pv];refine Ze _ (Uf _ [(0,.tmp 77),(1,.tmp 78),(2,.tmp 79),(3,.tmp 80),(4,.tmp 81),(5,.tmp 82),(6,.tmp 83),(7,.tmp 84)] rfl _ rfl _ (O5 V)) ?_;simp only[pv];refine Wz 197 rfl _ Js ?_;simp only[pv];refine XZ 19 197 _ _ rfl rfl rfl (rC .u32 8 V) rfl (by rw[Z6];exact Ue) (by simp only[Z6]) (Qw _ _ _) ?_;simp only[Act.put];refine Zf ?_;intro w7 hkw hrw hnew hdis;have n17:=hnew 9 rfl;have zr17:Row w7 (p 9) (rC .u32 8 V) 197:=hrw 19 (197,rC .u32 8 V) rfl;have d2x17:=l_l r2.lt n17;have d4x17:=l_l r4.lt n17;replace r2:=hkw.ro r2;replace r3:=hkw.ro r3;replace r4:=hkw.ro r4;replace r5:=hkw.ro r5;replace sb:=kk sb hkw;clear hkw hrw hnew hdis n17;generalize p 9=g17 at*;have r17:=zr17;clear zr17;have H1:MiH w7 w g2 g3 g4 g5 b (QH (fun j=>(v j+V j)%4294967296) v 0):=⟨by rw[Jt];exact r2,r3,r4,r5,sb⟩;have H2:Row w7 g17 (rC .u32 8 V) 197:=r17;have HY:Hid (g17≠g2/\g17≠g4):=⟨by omega,by omega⟩;clear r2 r3 r4 r5 r17 sb d2x17 d4x17
       go_wp2_with fail
       go_loopg [86] 8 (fun g s86 wr=> ∃i:Nat,i+g=8/\s86= .int .i64 i/\MiH wr w g2 g3 g4 g5 b (QH (fun j=>(v j+V j)%4294967296) v i)/\Row wr g17 (rC .u32 8 V) 197)
       case atStart=>exact⟨0,by omega,rfl,H1,H2⟩
       case round=>
        obtain⟨i,hi,rfl,⟨r2,r3,r4,r5,sb⟩,r17⟩:=hrel;obtain⟨x1,x2,x3,x4,x5,x6,x7,x8⟩:=HX.out;obtain⟨y1,y2⟩:=HY.out;clear H1 H2
        cases gk with
        |zero=>
         obtain rfl:i=8:=by omega
         clear hi
         go_step
         apply Za [] [_] trivial List.nodup_nil
         ·intro p;refine Ze _ (QG _ _ _ _ rfl 8 8 rfl rfl false rfl) ?_;simp only[pv];refine Zf ?_;intro w8 hkw hrw hnew hdis;replace r2:=hkw.ro r2;replace r3:=hkw.ro r3;replace r4:=hkw.ro r4;replace r5:=hkw.ro r5;replace sb:=kk sb hkw;clear hkw hrw hnew hdis;iterate 8 go_step
          apply Za [(g4,197,rC .u32 8 fun _=>0)] [_,_] ⟨r4,trivial⟩ (by simp<;>omega)
          ·intro p;refine VV 197 _ rfl _ rfl r2 (by simp<;>omega) 8 _ underlying197 (by rw[Z6];exact Ue) ?_;simp only[pv];refine XZ 0 197 _ _ rfl rfl rfl (rC .u32 8 (QH (fun j=>(v j+V j)%4294967296) v 8)) rfl (by rw[Z6];exact Ue) (by simp only[Z6]) (Qw _ _ _) ?_;simp only[Act.put];refine Zf ?_;intro w9 hkw hrw hnew hdis;have zr4:Row w9 (g4) (rC .u32 8 (QH (fun j=>(v j+V j)%4294967296) v 8)) 197:=hrw 0 (197,rC .u32 8 (QH (fun j=>(v j+V j)%4294967296) v 8)) rfl;replace sb:=kk sb hkw;clear hkw hrw hnew hdis r4;have r4:=zr4;clear zr4;go_wp2;exact ZL rfl _ rfl r4 8 _ underlying197 (by rw[Z6];exact Ue) rfl ⟨by rw[O1 .u32 8 fun i hi=>(D7 _ v 8 i hi).trans (HC.out i).symm],sb⟩
          ·rfl
         ·rfl
        |succ g=>
         go_step
         apply Za [] [_] trivial List.nodup_nil
         ·intro p;refine Ze _ (QG _ _ _ _ rfl i 8 rfl rfl true (decide_eq_true (by omega))) ?_;simp only[pv];refine Zf ?_;intro w8 hkw hrw hnew hdis;replace r2:=hkw.ro r2;replace r3:=hkw.ro r3;replace r4:=hkw.ro r4;replace r5:=hkw.ro r5;replace r17:=hkw.ro r17;replace sb:=kk sb hkw;clear hkw hrw hnew hdis;iterate 10 go_step
          apply Za [] [_,_] trivial List.nodup_nil
          ·intro p;refine m_m ?_;refine m_a ?_;simp only[pv];refine Zf ?_;intro w9 hkw hrw hnew hdis;replace r2:=hkw.ro r2;replace r3:=hkw.ro r3;replace r4:=hkw.ro r4;replace r5:=hkw.ro r5;replace r17:=hkw.ro r17;replace sb:=kk sb hkw;clear hkw hrw hnew hdis;iterate 2 go_step
           apply Zi (by kernel_rfl) [(g2,197,rC .u32 8 (QH (fun j=>(v j+V j)%4294967296) v i))] [_,_,_,_,_,_,_,_,_] ⟨r2,trivial⟩ (by simp<;>omega)
           ·intro p;refine m_m ?_;simp only[pv];refine Ze _ (Zl 197 _ _ rfl (g2) rfl (i) 8 rfl (by omega) _ underlying197 sizeOf196) ?_;simp only[pv];refine Y9 0 196 _ rfl (i) rfl rfl (.int .u32 (v i:Nat)) ((Ys _ _ _ _ (by omega)).trans (by rw[D8 _ _ _ _ (by omega)])) isAgg196 ?_;refine m_m ?_;simp only[pv];refine Ze _ (Zl 197 _ _ rfl (g17) rfl (i) 8 rfl (by omega) _ underlying197 sizeOf196) ?_;simp only[pv];refine Zq 196 _ rfl _ (i) rfl r17 (by simp<;>omega) (.int .u32 (V i:Nat)) (Ys _ _ _ _ (by omega)) isAgg196 ?_;simp only[pv];refine Ze _ (XU _ _ _ _ rfl (v i) (V i) _ rfl rfl rfl) ?_;simp only[pv];refine Ze _ (Zl 197 _ _ rfl (g2) rfl (i) 8 rfl (by omega) _ underlying197 sizeOf196) ?_;simp only[pv];refine Xn 0 196 _ _ rfl (i) rfl rfl .u32 ((((v i+V i)%4294967296:Nat):Int)) rfl sizeOf196 (by rw[Z6];omega) (rC .u32 8 (QH (fun j=>(v j+V j)%4294967296) v (i+1))) (Sd _ _ _ _ _ _ (Gv _ _ _ _ rfl _)) ?_;simp only[Act.put];refine Zf ?_;intro w10 hkw hrw hnew hdis;have zr2:Row w10 (g2) (rC .u32 8 (QH (fun j=>(v j+V j)%4294967296) v (i+1))) 197:=hrw 0 (197,rC .u32 8 (QH (fun j=>(v j+V j)%4294967296) v (i+1))) rfl;replace r3:=hkw.ro r3;replace r4:=hkw.ro r4;replace r5:=hkw.ro r5;replace r17:=hkw.ro r17;replace sb:=kk sb hkw;clear hkw hrw hnew hdis r2;have r2:=zr2;clear zr2;iterate 2 go_step
            apply Za [] [_,_] trivial List.nodup_nil
            ·intro p;refine Ze _ (Xr _ _ _ _ rfl i 1 rfl rfl (by omega)) ?_;refine m_m ?_;simp only[pv];refine Zf ?_;intro w11 hkw hrw hnew hdis;replace r2:=hkw.ro r2;replace r3:=hkw.ro r3;replace r4:=hkw.ro r4;replace r5:=hkw.ro r5;replace r17:=hkw.ro r17;replace sb:=kk sb hkw;clear hkw hrw hnew hdis;go_wp2
             go_roundg g
             case measure=>omega
             case rel=>exact⟨i+1,by omega,rfl,⟨r2,r3,r4,r5,sb⟩,r17⟩
            ·rfl
           ·kernel_rfl
          ·rfl
         ·rfl
      ·rfl
     ·rfl
    |succ g=>
     have HC:Hid (rnd (wf b) v (t+1)=stp (rnd (wf b) v t) (kf t) (wf b t)):=rfl;generalize rnd (wf b) v t=V at*;have HS:=zL V (kf t) (wf b t);have HE:=zM V (kf t) (wf b t)
     go_step
     apply Za [] [_] trivial List.nodup_nil
     ·intro p;refine Ze _ (QG _ _ _ _ rfl t 64 rfl rfl true (decide_eq_true (by omega))) ?_;simp only[pv];refine Zf ?_;intro w6 hkw hrw hnew hdis;replace r2:=hkw.ro r2;replace r3:=hkw.ro r3;replace r4:=hkw.ro r4;replace r5:=hkw.ro r5;replace sb:=kk sb hkw;clear hkw hrw hnew hdis;iterate 10 go_step
      apply Za [] [_,_] trivial List.nodup_nil
      ·intro p;refine m_m ?_;refine m_a ?_;simp only[pv];refine Zf ?_;intro w7 hkw hrw hnew hdis;replace r2:=hkw.ro r2;replace r3:=hkw.ro r3;replace r4:=hkw.ro r4;replace r5:=hkw.ro r5;replace sb:=kk sb hkw;clear hkw hrw hnew hdis;obtain⟨kcs,kt,rK,hK⟩:=kT.below sb;iterate 3 go_step
       refine ZC (by kernel_rfl) (by kernel_rfl) ?_;refine q_m ?_;refine q_m ?_;simp only[pv];refine q_c 200 func200 #[.int .u32 (V 4:Nat)] (fun w'=>Gq (V 4) w' (hV 4)) ?_;simp only[pv];refine q_v _ (XU _ _ _ _ rfl (V 7) (bs1 (V 4)) _ rfl rfl rfl) ?_;refine q_m ?_;refine q_m ?_;refine q_m ?_;simp only[pv];refine q_c 201 func201 #[.int .u32 (V 4:Nat),.int .u32 (V 5:Nat),.int .u32 (V 6:Nat)] (fun w'=>Mb (V 4) (V 5) (V 6) w' (hV 4) (hV 5) (hV 6)) ?_;simp only[pv];refine q_v _ (XU _ _ _ _ rfl ((V 7+bs1 (V 4))%4294967296) (chf (V 4) (V 5) (V 6)) _ rfl rfl rfl) ?_;refine q_m ?_;simp only[pv];refine q_v _ (Zl 228 _ _ rfl (0) rfl (t) 64 rfl (by omega) _ underlying228 sizeOf196) ?_;simp only[pv];refine YF (by rfl) 196 _ rfl _ (t) rfl rK (.int .u32 (kf t:Nat)) (hK t (by omega)) isAgg196 ?_;simp only[pv];refine q_v _ (XU _ _ _ _ rfl (((V 7+bs1 (V 4))%4294967296+chf (V 4) (V 5) (V 6))%4294967296) (kf t) _ rfl rfl rfl) ?_;refine q_m ?_;simp only[pv];refine q_v _ (Zl 228 _ _ rfl (g5) rfl (t) 64 rfl (by omega) _ underlying228 sizeOf196) ?_;simp only[pv];refine ZK (by rfl) 196 _ rfl _ (t) rfl r5 (.int .u32 (wf b t:Nat)) (Ys _ _ _ _ (by omega)) isAgg196 ?_;simp only[pv];refine q_v _ (XU _ _ _ _ rfl ((((V 7+bs1 (V 4))%4294967296+chf (V 4) (V 5) (V 6))%4294967296+kf t)%4294967296) (wf b t) _ rfl rfl rfl) ?_;refine q_a ?_;simp only[pv];refine ZN ?_;intro w8 hqb;replace r2:=r2.belowAll hqb;replace r3:=r3.belowAll hqb;replace r4:=r4.belowAll hqb;replace r5:=r5.belowAll hqb;replace sb:=b_o sb hqb;clear hqb;generalize hT:((((V 7+bs1 (V 4))%4294967296+chf (V 4) (V 5) (V 6))%4294967296+kf t)%4294967296+wf b t)%4294967296=T1 at*;clear rK hK;iterate 3 go_step
       refine Zy ?_;refine q_m ?_;simp only[pv];refine q_c 202 func202 #[.int .u32 (V 0:Nat)] (fun w'=>Gp (V 0) w' (hV 0)) ?_;refine q_m ?_;refine q_m ?_;refine q_m ?_;simp only[pv];refine q_c 203 func203 #[.int .u32 (V 0:Nat),.int .u32 (V 1:Nat),.int .u32 (V 2:Nat)] (fun w'=>Jq (V 0) (V 1) (V 2) w' (hV 0) (hV 1) (hV 2)) ?_;simp only[pv];refine q_v _ (XU _ _ _ _ rfl (bs0 (V 0)) (mjf (V 0) (V 1) (V 2)) _ rfl rfl rfl) ?_;refine q_a ?_;simp only[pv];refine ZN ?_;intro w9 hqb;replace r2:=r2.belowAll hqb;replace r3:=r3.belowAll hqb;replace r4:=r4.belowAll hqb;replace r5:=r5.belowAll hqb;replace sb:=b_o sb hqb;clear hqb;iterate 2 go_step
       refine Zy ?_;refine q_m ?_;refine q_m ?_;simp only[pv];refine q_v _ (XU _ _ _ _ rfl (T1) ((bs0 (V 0)+mjf (V 0) (V 1) (V 2))%4294967296) _ rfl rfl rfl) ?_;refine q_m ?_;refine q_m ?_;refine q_m ?_;refine q_m ?_;simp only[pv];refine q_m ?_;simp only[pv];refine q_v _ (XU _ _ _ _ rfl (V 3) (T1) _ rfl rfl rfl) ?_;refine q_m ?_;refine q_m ?_;refine q_m ?_;refine q_a ?_;simp only[pv];refine q_a ?_;refine q_a ?_;refine q_a ?_;refine q_a ?_;refine q_a ?_;simp only[pv];refine q_a ?_;refine q_a ?_;simp only[pv];refine ZN ?_;intro w10 hqb;replace r2:=r2.belowAll hqb;replace r3:=r3.belowAll hqb;replace r4:=r4.belowAll hqb;replace r5:=r5.belowAll hqb;replace sb:=b_o sb hqb;clear hqb;iterate 2 go_step
       apply Za [] [_,_] trivial List.nodup_nil
       ·intro p;refine Ze _ (Xr _ _ _ _ rfl t 1 rfl rfl (by omega)) ?_;refine m_m ?_;simp only[pv];refine Zf ?_;intro w11 hkw hrw hnew hdis;replace r2:=hkw.ro r2;replace r3:=hkw.ro r3;replace r4:=hkw.ro r4;replace r5:=hkw.ro r5;replace sb:=kk sb hkw;clear hkw hrw hnew hdis;go_wp2
        go_roundg g
        case measure=>omega
        case rel=>exact⟨t+1,by omega,rfl,by rw[HC.out,HS],by rw[HC.out];rfl,by rw[HC.out];rfl,by rw[HC.out];rfl,by rw[HC.out,HE],by rw[HC.out];rfl,by rw[HC.out];rfl,by rw[HC.out];rfl,r2,r3,r4,r5,sb⟩
       ·rfl
      ·rfl
     ·rfl
  ·rfl
 ·rfl
end Go.Proofs.YtnagnkhbamhfmaaGreatDoor
