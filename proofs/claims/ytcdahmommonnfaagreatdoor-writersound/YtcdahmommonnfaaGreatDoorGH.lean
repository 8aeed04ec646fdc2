import Derived.Test.YtcdahmommonnfaaGreatDoorGG
set_option maxRecDepth 100000
set_option maxHeartbeats 8000000
namespace Go.Proofs.YtcdahmommonnfaaGreatDoor
set_option linter.all false
open Go.Proofs.Tryz
open Go.RowKit
theorem NV (N M:Nat)(h:M≠0):So N M=N%M:=if_neg h
theorem R3 (A B M:Nat)(w:World)(hA:A<2^256)(hB:B<2^256)(hM:M<2^256):
  Calls prog 85 #[.agg (Zc A),.agg (Zc B),.agg (Zc M)] w fun e w'=>e= .returned (.tuple #[.agg (Zc (So (A*B) M)),.int .i64 (RJ M)])/\Below w.heap.size w w':=by
 have r3:Row ((((w.alloc (.cells (Zc A) 39)).alloc (.cells (Zc B) 39)).alloc (.cells (Zc M) 39)).alloc (.cells (Zc 0) 39)) w.heap.size (Zc A) 39:=(by repeat(first|(refine Row.here ?_;first|(with_reducible rfl)|(simp;done))|refine Row.alloc ?_ _));have r4:Row ((((w.alloc (.cells (Zc A) 39)).alloc (.cells (Zc B) 39)).alloc (.cells (Zc M) 39)).alloc (.cells (Zc 0) 39)) (w.heap.size+1) (Zc B) 39:=(by repeat(first|(refine Row.here ?_;first|(with_reducible rfl)|(simp;done))|refine Row.alloc ?_ _));have r5:Row ((((w.alloc (.cells (Zc A) 39)).alloc (.cells (Zc B) 39)).alloc (.cells (Zc M) 39)).alloc (.cells (Zc 0) 39)) (w.heap.size+1+1) (Zc M) 39:=(by repeat(first|(refine Row.here ?_;first|(with_reducible rfl)|(simp;done))|refine Row.alloc ?_ _));have r6:Row ((((w.alloc (.cells (Zc A) 39)).alloc (.cells (Zc B) 39)).alloc (.cells (Zc M) 39)).alloc (.cells (Zc 0) 39)) (w.heap.size+1+1+1) (Zc 0) 39:=(by repeat(first|(refine Row.here ?_;first|(with_reducible rfl)|(simp;done))|refine Row.alloc ?_ _));have bW:Below w.heap.size w ((((w.alloc (.cells (Zc A) 39)).alloc (.cells (Zc B) 39)).alloc (.cells (Zc M) 39)).alloc (.cells (Zc 0) 39)):=(by repeat(first|exact Below.refl _ _|refine Below.alloc ?_ (by simp<;>omega) _));have hAB:A*B<2^256*2^256:=Nat.mul_lt_mul'' hA hB;have hre:=fun w'=>Pb ((A*B)%2^256) (A*B/2^256) M w' (Nat.mod_lt _ (by decide)) (Nat.div_lt_of_lt_mul hAB) hM
 rw[Yu,Nat.mul_comm (A*B/2^256),Nat.div_add_mod]at hre;have hmu:=fun w'=>TD A B w' hA hB
 clear hA hB hM hAB;generalize So (A*B) M=v at*;generalize A*B/2^256=hi at*;generalize A*B=lo at*
 go_enter func85,ntmps85
 go_wp2_with (first
  |refine Zr rfl 39 _ rfl _ rfl ?_
  |refine Zj rfl 39 rfl _ Zv ?_
  |refine Zh rfl 39 _ rfl _ rfl r3 4 _ underlying39 (by exact Ze) ?_
  |refine Zh rfl 39 _ rfl (w.heap.size+1) (by first|rfl|(unfold Act.eval Act.put;simp;done)|(unfold Act.eval;simp;done)) r4 4 _ underlying39 (by exact Ze) ?_)
 generalize (((w.alloc (.cells (Zc A) 39)).alloc (.cells (Zc B) 39)).alloc (.cells (Zc M) 39)).alloc (.cells (Zc 0) 39)=w1 at*;refine(hmu _).mono ?_;rintro e w3 ⟨rfl,hb2⟩;have hz:=(r6.belowAll hb2).lt;have a5:Row ((w3.alloc (.cells (Zc 0) 39)).alloc (.cells (Zc 0) 39)) w3.heap.size (Zc 0) 39:=(by repeat(first|(refine Row.here ?_;first|(with_reducible rfl)|(simp;done))|refine Row.alloc ?_ _));have a6':Row ((w3.alloc (.cells (Zc 0) 39)).alloc (.cells (Zc 0) 39)) (w3.heap.size+1) (Zc 0) 39:=(by repeat(first|(refine Row.here ?_;first|(with_reducible rfl)|(simp;done))|refine Row.alloc ?_ _));have a6:=a6'.setRow_far w3.heap.size (Zc lo) (by omega);have a9:=a6.setRow (Zc hi);have a8:=(a5.setRow (Zc lo)).setRow_far (w3.heap.size+1) (Zc hi) (by omega);have aM:=((((r5.belowAll hb2).alloc (.cells (Zc 0) 39)).alloc (.cells (Zc 0) 39)).setRow_far w3.heap.size (Zc lo) (by omega)).setRow_far (w3.heap.size+1) (Zc hi) (by omega);have aZ:=((((r6.belowAll hb2).alloc (.cells (Zc 0) 39)).alloc (.cells (Zc 0) 39)).setRow_far w3.heap.size (Zc lo) (by omega)).setRow_far (w3.heap.size+1) (Zc hi) (by omega);have b3:=Zk bW (Nat.le_refl _) hb2;have b5:=Zy (Zy ((b3.alloc b3.size (.cells (Zc 0) 39)).alloc (by have:=b3.size;simp;omega) (.cells (Zc 0) 39)) (g:=w3.heap.size) (by omega) (Zc lo)) (g:=w3.heap.size+1) (by omega) (Zc hi);clear r3 r4 r5 r6 bW hb2 a6' b3 hmu
 go_wp2_with (first
  |refine Zj rfl 39 rfl _ Zv ?_
  |refine Zw rfl 39 _ _ rfl _ _ rfl rfl a5 (by exact Ze) (by simp only[Zt]) (ZA _) ?_
  |refine Zw rfl 39 _ _ rfl (w3.heap.size+1) _ (by first|rfl|(unfold Act.eval Act.put;simp;done)|(unfold Act.eval;simp;done)) rfl a6 (by exact Ze) (by simp only[Zt]) (ZA _) ?_
  |refine Zh rfl 39 _ rfl _ rfl a8 4 _ underlying39 (by exact Ze) ?_
  |refine Zh rfl 39 _ rfl _ rfl aM 4 _ underlying39 (by exact Ze) ?_
  |refine Zh rfl 39 _ rfl (w3.heap.size+1) (by first|rfl|(unfold Act.eval Act.put;simp;done)|(unfold Act.eval;simp;done)) a9 4 _ underlying39 (by exact Ze) ?_)
 refine(hre _).mono ?_;rintro e w4 ⟨rfl,hb4⟩;have qZ:=aZ.belowAll hb4;have b6:=Zk b5 (Nat.le_refl _) hb4;clear a5 a6 a9 a8 aM aZ b5 hb4 hre
 go_wp2_with (first
  |refine Zw rfl 39 _ _ rfl _ _ rfl rfl qZ (by exact Ze) (by simp only[Zt]) (ZA _) ?_)
 exact Yl rfl _ rfl (qZ.setRow (Zc v)) 4 _ underlying39 (by exact Ze) rfl _ rfl ⟨rfl,Zy b6 (by omega) _⟩
def subZ (A B M:Nat):Nat:=if M=0 then 0 else(A%M+(M-B%M))%M
theorem sub_le (x y M:Nat)(h:y<=x)(hx:x<M)(hM:M<2^256):Zc (WU x y)=Zc ((x+(M-y))%M):=by
 rw[show x+(M-y)=x-y+M*1 by omega,Nat.add_mul_mod_self_left,Nat.mod_eq_of_lt (show x-y<M by omega)];refine(VF _ _).2 ?_;unfold WU;rw[show x+(2^256-y)=x-y+2^256*1 by omega,Nat.add_mul_mod_self_left]
theorem TK (x y:Nat):Nat.gcd y (x%y)=Nat.gcd x y:=by
 rw[Nat.gcd_comm x y,Nat.gcd_rec y x,Nat.gcd_comm]
theorem Jb (A B:Nat)(w:World)(hA:A<2^256)(hB:B<2^256):
  Calls prog 172 #[.agg (Zc A),.agg (Zc B)] w fun e w'=>e= .returned (.agg (Zc (Nat.gcd A B)))/\Below w.heap.size w w':=by
 have H:Hid (A<2^256/\B<2^256):=⟨hA,hB⟩;clear hA hB
 go_enter func172,ntmps172
 go_wp2_with (first
  |refine Zr rfl 39 _ rfl _ rfl ?_
  |refine Zj rfl 39 rfl _ Zv ?_)
 simp only[Act.put,List.setIfInBounds_toArray,List.set_cons_zero,List.set_cons_succ,YF]
 go_loopg [] B (fun g wr=> ∃x y:Nat,y<=g/\x<2^256/\y<2^256/\Nat.gcd x y=Nat.gcd A B/\Row wr w.heap.size (Zc x) 39/\Row wr (w.heap.size+1) (Zc y) 39/\Row wr (w.heap.size+1+1) (Zc 0) 39/\Below w.heap.size w wr)
 case atStart=>
  exact⟨A,B,Nat.le_refl _,H.out.1,H.out.2,rfl,(by repeat(first|(refine Row.here ?_;first|(with_reducible rfl)|(simp;done))|refine Row.alloc ?_ _)),(by repeat(first|(refine Row.here ?_;first|(with_reducible rfl)|(simp;done))|refine Row.alloc ?_ _)),(by repeat(first|(refine Row.here ?_;first|(with_reducible rfl)|(simp;done))|refine Row.alloc ?_ _)),(by repeat(first|exact Below.refl _ _|refine Below.alloc ?_ (by simp<;>omega) _))⟩
 case round=>
  obtain⟨x,y,hy,hx2,hy2,hg,r2,r3,r4,hb⟩:=hrel;rcases Nat.eq_zero_or_pos y with rfl|h0
  ·have HV:Hid ((!decide (0%2^256=0%2^256))=false):=rfl
   have HG:Hid (Nat.gcd A B=x):=by show _=_;rw[<-hg,Nat.gcd_zero_right]
   clear hy hx2 hy2 hg H
   go_wp2_with (first
    |refine ZL rfl 39 rfl _ ZO ?_
    |refine Zh rfl 39 _ rfl _ rfl r3 4 _ underlying39 (by exact Ze) ?_
    |refine Zh rfl 39 _ rfl _ rfl r2 4 _ underlying39 (by exact Ze) ?_
    |refine ZK rfl (.bool false) ((Yf _ _ _ rfl 0 0 rfl rfl _).trans (by rw[HV.out])) ?_
    |refine Zw rfl 39 _ _ rfl _ _ rfl rfl r4 (by exact Ze) (by simp only[Zt]) (ZA _) ?_)
   exact ZX rfl _ rfl (r4.setRow (Zc x)) 4 _ underlying39 (by exact Ze) rfl ⟨by rw[HG.out],Zy hb (by omega) _⟩
  ·cases gk with
   |zero=>omega
   |succ g=>
    have HV:Hid ((!decide (y%2^256=0%2^256))=true):=by
     show _=_
     rw[Nat.mod_eq_of_lt hy2,decide_eq_false (by simp;omega)];rfl
    have hre:=fun w'=>Wo x y w' hx2 h0 hy2
    have hlt:=Nat.mod_lt x h0;have HX:Hid (x%y<=g/\y<2^256/\x%y<2^256/\Nat.gcd y (x%y)=Nat.gcd A B):=⟨by omega,hy2,by omega,by rw[TK];exact hg⟩;clear hy hx2 hy2 hg H h0 hlt;generalize x%y=z at*
    go_wp2_with (first
     |refine ZL rfl 39 rfl _ ZO ?_
     |refine Zh rfl 39 _ rfl _ rfl r3 4 _ underlying39 (by exact Ze) ?_
     |refine ZK rfl (.bool true) ((Yf _ _ _ rfl y 0 rfl rfl _).trans (by rw[HV.out])) ?_)
    apply Zo (by kernel_rfl) [(w.heap.size,39,Zc x),(w.heap.size+1,39,Zc y)] [_,_,_,_,_,_] ⟨r2,r3,trivial⟩ (by simp<;>omega)
    ·intro p;refine XE 2 39 _ rfl rfl rfl 4 _ underlying39 Ze ?_;simp only[pv];refine XE 0 39 _ rfl rfl rfl 4 _ underlying39 Ze ?_;simp only[pv];refine XE 2 39 _ rfl rfl rfl 4 _ underlying39 Ze ?_;simp only[pv];refine m_c 129 func129 #[.agg (Zc x),.agg (Zc y)] hre ?_;simp only[pv];refine m_p 0 y ?_;simp only[Act.put];refine m_p 2 z ?_;simp only[Act.put];refine Zi ?_;intro w7 hkw hrw _ _;have r2':Row w7 w.heap.size (Zc y) 39:=hrw 0 _ rfl;have r3':Row w7 (w.heap.size+1) (Zc z) 39:=hrw 2 _ rfl;have r4':=hkw.row r4 (by simp<;>omega);have hb1:=hb.trans (hkw.below w.heap.size hb.size (by simp<;>omega));clear r2 r3 r4 hb hkw hrw hre;go_wp2
     go_roundg g
     case measure=>omega
     case rel=>
      obtain⟨h1,h2,h3,h4⟩:=HX.out;exact⟨y,z,h1,h2,h3,h4,r2',r3',r4',hb1⟩
    ·kernel_rfl
def sg (neg:Bool):Int:=if neg=true then-1 else 1
structure Iv (A M L S b f:Nat)(neg:Bool):Prop where
 det:L*f+S*b=M
 lt:S<L
 ne:L≠1
 pos:1<=f
 gcd:Nat.gcd L S=Nat.gcd A M
 low:(M:Int)∣(f:Int)*A-sg neg*S
 high:(M:Int)∣(b:Int)*A+sg neg*L
theorem I9 (neg:Bool):sg (!neg)= -sg neg:=by cases neg<;>rfl
theorem Jc (A M:Nat)(hM:2<=M):Iv A M M (A%M) 0 1 false where
 det:=by omega
 lt:=Nat.mod_lt _ (by omega)
 ne:=by omega
 pos:=Nat.le_refl _
 gcd:=by rw[TK]
 low:=by
  have h:=Nat.div_add_mod A M;refine⟨((A/M:Nat):Int),?_⟩;show((1:Nat):Int)*(A:Int)-1*((A%M:Nat):Int)=_
  have:(A:Int)=(M:Int)*((A/M:Nat):Int)+((A%M:Nat):Int):=by exact_mod_cast h.symm
  omega
 high:=⟨1,by show((0:Nat):Int)*(A:Int)+1*(M:Int)=_;omega⟩
theorem GR (A M L S b f:Nat)(neg:Bool)(h:Iv A M L S b f neg)(h0:0<S)(h1:S≠1):Iv A M S (L%S) f (b+L/S*f) (!neg) where
 det:=by
  have h2:=Nat.div_add_mod L S;have h3:=h.det
  have e:S*(b+L/S*f)+L%S*f=(S*(L/S)+L%S)*f+S*b:=by
   rw[Nat.mul_add,Nat.add_mul,Nat.mul_assoc];omega
  rw[e,h2];exact h3
 lt:=Nat.mod_lt _ h0
 ne:=h1
 pos:=by
  have h2:1<=L/S:=(Nat.le_div_iff_mul_le h0).2 (by have:=h.lt;omega);have h3:1*1<=L/S*f:=Nat.mul_le_mul h2 h.pos;omega
 gcd:=by rw[TK];exact h.gcd
 low:=by
  have e:((b+L/S*f:Nat):Int)*A-sg (!neg)*((L%S:Nat):Int)=((b:Int)*A+sg neg*L)+((L/S:Nat):Int)*((f:Int)*A-sg neg*S):=by
   have h2:(L:Int)=(S:Int)*((L/S:Nat):Int)+((L%S:Nat):Int):=by exact_mod_cast (Nat.div_add_mod L S).symm
   rw[I9];generalize ((L%S:Nat):Int)=r at*;rw[h2]
   push_cast
   generalize ((L:Int)/(S:Int))=q;simp only[Int.add_mul,Int.mul_sub,Int.mul_add,Int.neg_mul,Int.sub_neg];have e1:q*(sg neg*(S:Int))=sg neg*((S:Int)*q):=by rw[Int.mul_left_comm,Int.mul_comm q]
   have e2:q*(f:Int)*(A:Int)=q*((f:Int)*(A:Int)):=Int.mul_assoc _ _ _;rw[e1,e2];omega
  rw[e];exact Int.dvd_add h.high (Int.dvd_mul_of_dvd_right h.low)
 high:=by
  have e:(f:Int)*A+sg (!neg)*(S:Int)=(f:Int)*A-sg neg*S:=by rw[I9,Int.neg_mul];omega
  rw[e];exact h.low
def C3 (A M:Nat):Nat:=((List.range M).find? fun x=>x*A%M==1).getD 0
theorem VH (A M x:Nat)(hx:x<M)(h:x*A%M=1):C3 A M=x:=by
 unfold C3
 cases hf:(List.range M).find? fun x=>x*A%M==1 with
 |none=>
  have:=List.find?_eq_none.1 hf x (List.mem_range.2 hx);simp[h]at this
 |some y=>
  have h1:=List.find?_some hf;have h2:y<M:=List.mem_range.1 (List.mem_of_find?_eq_some hf);have h3:y*A%M=1:=by simpa using h1
  show y=x
  have e1:y*(x*A)%M=y:=by rw[Nat.mul_mod,h,Nat.mul_one,Nat.mod_mod,Nat.mod_eq_of_lt h2]
  have e2:x*(y*A)%M=x:=by rw[Nat.mul_mod,h3,Nat.mul_one,Nat.mod_mod,Nat.mod_eq_of_lt hx]
  exact e1.symm.trans ((show y*(x*A)%M=x*(y*A)%M by rw[Nat.mul_left_comm]).trans e2)
theorem GS (A M L b f:Nat)(neg:Bool)(hM:2<=M)(h:Iv A M L 1 b f neg):f<M/\C3 A M=if neg=true then M-f else f:=by
 have hd:=h.det;have hl:=h.lt;have hp:=h.pos;have h2:2*f<=L*f:=Nat.mul_le_mul_right _ hl;have hf:f<M:=by omega
 refine⟨hf,?_⟩;obtain⟨k,hk⟩:=h.low;cases neg
 ·rw[if_neg (by decide)];refine VH A M f hf ?_
  have e:((f*A:Nat):Int)=1+(M:Int)*k:=by
   push_cast
   have:(f:Int)*A-1*((1:Nat):Int)=(M:Int)*k:=hk;omega
  have:((f*A%M:Nat):Int)=1:=by
   rw[Int.natCast_emod,e,Int.add_mul_emod_self_left];exact Int.emod_eq_of_lt (by omega) (by omega)
  exact_mod_cast this
 ·rw[if_pos rfl];refine VH A M (M-f) (by omega) ?_
  have e:(((M-f)*A:Nat):Int)=1+(M:Int)*(A-k):=by
   push_cast [Nat.le_of_lt hf]
   have:(f:Int)*A- -1*((1:Nat):Int)=(M:Int)*k:=hk;rw[Int.sub_mul,Int.mul_sub];omega
  have:(((M-f)*A%M:Nat):Int)=1:=by
   rw[Int.natCast_emod,e,Int.add_mul_emod_self_left];exact Int.emod_eq_of_lt (by omega) (by omega)
  exact_mod_cast this
theorem ZS {P:Program}{o:Oper}{ρ:Operand->Value}(t:TypeId)(ho:o.op= .build t #[])(c:Array Value)(hb:P.built t []=some c)(w:World):(execOp ρ o).run P w= .ok (.value (.agg c)) w:=by
 unfold execOp;simp only[ho,Sem.run_bind,run_build w t #[] c hb,Array.map_empty,Result.andThen_ok];rfl
def E2 (A M:Nat):Nat:=if M<2 then 0 else if Nat.gcd A M=1 then C3 A M else 0
def errV (A M:Nat):Int:=if M<2 then 1 else if Nat.gcd A M=1 then 0 else 3
theorem NW (A M:Nat)(h2:2<=M)(hg:Nat.gcd A M=1): ∃x,x<M/\x*A%M=1:=by
 suffices h: ∀(n L S b f:Nat) (neg:Bool),S<=n->Iv A M L S b f neg-> ∃x,x<M/\x*A%M=1 from h (A%M) M (A%M) 0 1 false (Nat.le_refl _) (Jc A M h2)
 intro n
 induction n with
 |zero=>
  intro L S b f neg hS hI;exfalso;have h0:S=0:=by omega
  have:=hI.gcd;rw[h0,Nat.gcd_zero_right,hg]at this;exact hI.ne this
 |succ n ih=>
  intro L S b f neg hS hI;by_cases h0:S=0
  ·exact ih L S b f neg (by omega) hI
  ·by_cases h1:S=1
   ·subst h1;obtain⟨hf,_⟩:=GS A M L b f neg h2 hI;obtain⟨k,hk⟩:=hI.low;have hp:=hI.pos;cases neg
    ·refine⟨f,hf,?_⟩
     have e:((f*A:Nat):Int)=1+(M:Int)*k:=by
      push_cast
      have:(f:Int)*A-1*((1:Nat):Int)=(M:Int)*k:=hk;omega
     have:((f*A%M:Nat):Int)=1:=by
      rw[Int.natCast_emod,e,Int.add_mul_emod_self_left];exact Int.emod_eq_of_lt (by omega) (by omega)
     exact_mod_cast this
    ·refine⟨M-f,by omega,?_⟩
     have e:(((M-f)*A:Nat):Int)=1+(M:Int)*(A-k):=by
      push_cast [Nat.le_of_lt hf]
      have:(f:Int)*A- -1*((1:Nat):Int)=(M:Int)*k:=hk;rw[Int.sub_mul,Int.mul_sub];omega
     have:(((M-f)*A%M:Nat):Int)=1:=by
      rw[Int.natCast_emod,e,Int.add_mul_emod_self_left];exact Int.emod_eq_of_lt (by omega) (by omega)
     exact_mod_cast this
   ·have hlt:=Nat.mod_lt L (show 0<S by omega);exact ih S (L%S) f (b+L/S*f) (!neg) (by omega) (GR A M L S b f neg hI (by omega) h1)
theorem E3 (A M:Nat)(h2:2<=M)(hg:Nat.gcd A M=1):E2 A M<M/\E2 A M*A%M=1:=by
 unfold E2;rw[if_neg (by omega),if_pos hg];obtain⟨x,hx,h⟩:=NW A M h2 hg;rw[VH A M x hx h];exact⟨hx,h⟩
section
variable {P:Program}{o:Oper}{ρ:Operand->Value}
theorem U4 (t:TypeId)(x y:Operand)(u:TypeId)(ho:o.op= .binOp .quo t x y u)(n m:Nat)(hx:ρ x= .int .i64 n)(hy:ρ y= .int .i64 m)(hm:0<m)(hn:n<9223372036854775808)(w:World):
  (execOp ρ o).run P w= .ok (.value (.int .i64 ((n/m:Nat):Int))) w:=by
 have h0: ¬(m=0):=by omega
 have h2:n/m<=n:=Nat.div_le_self _ _;have h3:=wrap_i64 (n/m) (by omega);rw[Int.natCast_ediv]at h3 ⊢;unfold execOp;simp only[ho,hx,hy];simp[go_sem];rw[if_neg h0,h3]
theorem VI (t:TypeId)(x y:Operand)(u:TypeId)(ho:o.op= .binOp .rem t x y u)(n m:Nat)(hx:ρ x= .int .i64 n)(hy:ρ y= .int .i64 m)(hm:0<m)(w:World):
  (execOp ρ o).run P w= .ok (.value (.int .i64 ((n%m:Nat):Int))) w:=by
 have h0: ¬(m=0):=by omega
 unfold execOp;simp only[ho,hx,hy];simp[go_sem];rw[if_neg h0,Int.tmod_eq_emod_of_nonneg (by omega)]
theorem Ug (b:BinOp)(t:TypeId)(x y:Operand)(u:TypeId)(hb:b= .and∨b= .or)(ho:o.op= .binOp b t x y u)(n m:Int)(hx:ρ x= .int .i64 n)(hy:ρ y= .int .i64 m)(w:World):
  (execOp ρ o).run P w= .ok (.value (.int .i64 (bits b .i64 n m))) w:=by
 unfold execOp;simp only[ho,hx,hy];rcases hb with rfl|rfl
 ·simp[go_sem]
 ·simp[go_sem]
theorem U5 (t:TypeId)(x y:Operand)(u:TypeId)(ho:o.op= .binOp .mul t x y u)(n m:Int)(hx:ρ x= .int .i64 n)(hy:ρ y= .int .i64 m)(w:World):
  (execOp ρ o).run P w= .ok (.value (.int .i64 (IntKind.i64.wrap (n*m)))) w:=by
 unfold execOp;simp only[ho,hx,hy];simp[go_sem]
theorem Zp (t:TypeId)(x:Operand)(ho:o.op= .unOp .not t x)(b:Bool)(hx:ρ x= .bool b)(w:World):(execOp ρ o).run P w= .ok (.value (.bool (!b))) w:=by
 unfold execOp;simp only[ho,hx];simp[go_sem]
end
end Go.Proofs.YtcdahmommonnfaaGreatDoor
