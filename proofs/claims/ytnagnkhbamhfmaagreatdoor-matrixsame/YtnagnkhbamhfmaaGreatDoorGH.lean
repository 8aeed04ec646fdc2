import Derived.Test.YtnagnkhbamhfmaaGreatDoorGG
set_option maxRecDepth 100000
set_option maxHeartbeats 8000000
namespace Go.Proofs.YtnagnkhbamhfmaaGreatDoor
set_option linter.all false
open Go.Proofs.Tryz
open Go.RowKit
theorem M4 (N M:Nat)(h:M≠0):Ri N M=N%M:=if_neg h
theorem QV (A B M:Nat)(w:World)(hA:A<2^256)(hB:B<2^256)(hM:M<2^256):
  Calls prog 114 #[.agg (Zd A),.agg (Zd B),.agg (Zd M)] w fun e w'=>e= .returned (.tuple #[.agg (Zd (Ri (A*B) M)),.int .i64 (TR M)])/\Below w.heap.size w w':=by
 have r3:Row ((((w.alloc (.cells (Zd A) 57)).alloc (.cells (Zd B) 57)).alloc (.cells (Zd M) 57)).alloc (.cells (Zd 0) 57)) w.heap.size (Zd A) 57:=(by repeat(first|(refine Row.here ?_;first|(with_reducible rfl)|(simp;done))|refine Row.alloc ?_ _));have r4:Row ((((w.alloc (.cells (Zd A) 57)).alloc (.cells (Zd B) 57)).alloc (.cells (Zd M) 57)).alloc (.cells (Zd 0) 57)) (w.heap.size+1) (Zd B) 57:=(by repeat(first|(refine Row.here ?_;first|(with_reducible rfl)|(simp;done))|refine Row.alloc ?_ _));have r5:Row ((((w.alloc (.cells (Zd A) 57)).alloc (.cells (Zd B) 57)).alloc (.cells (Zd M) 57)).alloc (.cells (Zd 0) 57)) (w.heap.size+1+1) (Zd M) 57:=(by repeat(first|(refine Row.here ?_;first|(with_reducible rfl)|(simp;done))|refine Row.alloc ?_ _));have r6:Row ((((w.alloc (.cells (Zd A) 57)).alloc (.cells (Zd B) 57)).alloc (.cells (Zd M) 57)).alloc (.cells (Zd 0) 57)) (w.heap.size+1+1+1) (Zd 0) 57:=(by repeat(first|(refine Row.here ?_;first|(with_reducible rfl)|(simp;done))|refine Row.alloc ?_ _));have bW:Below w.heap.size w ((((w.alloc (.cells (Zd A) 57)).alloc (.cells (Zd B) 57)).alloc (.cells (Zd M) 57)).alloc (.cells (Zd 0) 57)):=(by repeat(first|exact Below.refl _ _|refine Below.alloc ?_ (by simp<;>omega) _));have hAB:A*B<2^256*2^256:=Nat.mul_lt_mul'' hA hB;have hre:=fun w'=>Oe ((A*B)%2^256) (A*B/2^256) M w' (Nat.mod_lt _ (by decide)) (Nat.div_lt_of_lt_mul hAB) hM
 rw[Yk,Nat.mul_comm (A*B/2^256),Nat.div_add_mod]at hre;have hmu:=fun w'=>Up A B w' hA hB
 clear hA hB hM hAB;generalize Ri (A*B) M=v at*;generalize A*B/2^256=hi at*;generalize A*B=lo at*
 go_enter func114,ntmps114
 go_wp2_with (first
  |refine Zp rfl 57 _ rfl _ rfl ?_
  |refine Zg rfl 57 rfl _ Zo ?_
  |refine Zj rfl 57 _ rfl _ rfl r3 4 _ underlying57 (by exact Zc) ?_
  |refine Zj rfl 57 _ rfl (w.heap.size+1) (by first|rfl|(unfold Act.eval Act.put;simp;done)|(unfold Act.eval;simp;done)) r4 4 _ underlying57 (by exact Zc) ?_)
 generalize (((w.alloc (.cells (Zd A) 57)).alloc (.cells (Zd B) 57)).alloc (.cells (Zd M) 57)).alloc (.cells (Zd 0) 57)=w1 at*;refine(hmu _).mono ?_;rintro e w3 ⟨rfl,hb2⟩;have hz:=(r6.belowAll hb2).lt;have a5:Row ((w3.alloc (.cells (Zd 0) 57)).alloc (.cells (Zd 0) 57)) w3.heap.size (Zd 0) 57:=(by repeat(first|(refine Row.here ?_;first|(with_reducible rfl)|(simp;done))|refine Row.alloc ?_ _));have a6':Row ((w3.alloc (.cells (Zd 0) 57)).alloc (.cells (Zd 0) 57)) (w3.heap.size+1) (Zd 0) 57:=(by repeat(first|(refine Row.here ?_;first|(with_reducible rfl)|(simp;done))|refine Row.alloc ?_ _));have a6:=a6'.setRow_far w3.heap.size (Zd lo) (by omega);have a9:=a6.setRow (Zd hi);have a8:=(a5.setRow (Zd lo)).setRow_far (w3.heap.size+1) (Zd hi) (by omega);have aM:=((((r5.belowAll hb2).alloc (.cells (Zd 0) 57)).alloc (.cells (Zd 0) 57)).setRow_far w3.heap.size (Zd lo) (by omega)).setRow_far (w3.heap.size+1) (Zd hi) (by omega);have aZ:=((((r6.belowAll hb2).alloc (.cells (Zd 0) 57)).alloc (.cells (Zd 0) 57)).setRow_far w3.heap.size (Zd lo) (by omega)).setRow_far (w3.heap.size+1) (Zd hi) (by omega);have b3:=Zk bW (Nat.le_refl _) hb2;have b5:=Zt (Zt ((b3.alloc b3.size (.cells (Zd 0) 57)).alloc (by have:=b3.size;simp;omega) (.cells (Zd 0) 57)) (g:=w3.heap.size) (by omega) (Zd lo)) (g:=w3.heap.size+1) (by omega) (Zd hi);clear r3 r4 r5 r6 bW hb2 a6' b3 hmu
 go_wp2_with (first
  |refine Zg rfl 57 rfl _ Zo ?_
  |refine Zs rfl 57 _ _ rfl _ _ rfl rfl a5 (by exact Zc) (by simp only[Zm]) (Zv _) ?_
  |refine Zs rfl 57 _ _ rfl (w3.heap.size+1) _ (by first|rfl|(unfold Act.eval Act.put;simp;done)|(unfold Act.eval;simp;done)) rfl a6 (by exact Zc) (by simp only[Zm]) (Zv _) ?_
  |refine Zj rfl 57 _ rfl _ rfl a8 4 _ underlying57 (by exact Zc) ?_
  |refine Zj rfl 57 _ rfl _ rfl aM 4 _ underlying57 (by exact Zc) ?_
  |refine Zj rfl 57 _ rfl (w3.heap.size+1) (by first|rfl|(unfold Act.eval Act.put;simp;done)|(unfold Act.eval;simp;done)) a9 4 _ underlying57 (by exact Zc) ?_)
 refine(hre _).mono ?_;rintro e w4 ⟨rfl,hb4⟩;have qZ:=aZ.belowAll hb4;have b6:=Zk b5 (Nat.le_refl _) hb4;clear a5 a6 a9 a8 aM aZ b5 hb4 hre
 go_wp2_with (first
  |refine Zs rfl 57 _ _ rfl _ _ rfl rfl qZ (by exact Zc) (by simp only[Zm]) (Zv _) ?_)
 exact Z2 rfl _ rfl (qZ.setRow (Zd v)) 4 _ underlying57 (by exact Zc) rfl _ rfl ⟨rfl,Zt b6 (by omega) _⟩
def AF (A B M:Nat):Nat:=if M=0 then 0 else(A%M+(M-B%M))%M
theorem sub_le (x y M:Nat)(h:y<=x)(hx:x<M)(hM:M<2^256):Zd (Wb x y)=Zd ((x+(M-y))%M):=by
 rw[show x+(M-y)=x-y+M*1 by omega,Nat.add_mul_mod_self_left,Nat.mod_eq_of_lt (show x-y<M by omega)];refine(WA _ _).2 ?_;unfold Wb;rw[show x+(2^256-y)=x-y+2^256*1 by omega,Nat.add_mul_mod_self_left]
theorem CX (x y M:Nat)(h:x<y)(hy:y<M)(hM:M<2^256):Zd (Wb x y+M)=Zd ((x+(M-y))%M):=by
 rw[Nat.mod_eq_of_lt (show x+(M-y)<M by omega)];refine(WA _ _).2 ?_;unfold Wb;rw[show x+(2^256-y)+M=x+(M-y)+2^256*1 by omega,Nat.add_mul_mod_self_left]
theorem Ih (A B M:Nat)(w:World)(hA:A<2^256)(hB:B<2^256)(hM:M<2^256):
  Calls prog 166 #[.agg (Zd A),.agg (Zd B),.agg (Zd M)] w fun e w'=>e= .returned (.tuple #[.agg (Zd (AF A B M)),.int .i64 (TR M)])/\Below w.heap.size w w':=by
 have r3:Row ((((w.alloc (.cells (Zd A) 57)).alloc (.cells (Zd B) 57)).alloc (.cells (Zd M) 57)).alloc (.cells (Zd 0) 57)) w.heap.size (Zd A) 57:=(by repeat(first|(refine Row.here ?_;first|(with_reducible rfl)|(simp;done))|refine Row.alloc ?_ _));have r4:Row ((((w.alloc (.cells (Zd A) 57)).alloc (.cells (Zd B) 57)).alloc (.cells (Zd M) 57)).alloc (.cells (Zd 0) 57)) (w.heap.size+1) (Zd B) 57:=(by repeat(first|(refine Row.here ?_;first|(with_reducible rfl)|(simp;done))|refine Row.alloc ?_ _));have r5:Row ((((w.alloc (.cells (Zd A) 57)).alloc (.cells (Zd B) 57)).alloc (.cells (Zd M) 57)).alloc (.cells (Zd 0) 57)) (w.heap.size+1+1) (Zd M) 57:=(by repeat(first|(refine Row.here ?_;first|(with_reducible rfl)|(simp;done))|refine Row.alloc ?_ _));have r6:Row ((((w.alloc (.cells (Zd A) 57)).alloc (.cells (Zd B) 57)).alloc (.cells (Zd M) 57)).alloc (.cells (Zd 0) 57)) (w.heap.size+1+1+1) (Zd 0) 57:=(by repeat(first|(refine Row.here ?_;first|(with_reducible rfl)|(simp;done))|refine Row.alloc ?_ _));have bW:Below w.heap.size w ((((w.alloc (.cells (Zd A) 57)).alloc (.cells (Zd B) 57)).alloc (.cells (Zd M) 57)).alloc (.cells (Zd 0) 57)):=(by repeat(first|exact Below.refl _ _|refine Below.alloc ?_ (by simp<;>omega) _));by_cases h0:M=0
 ·have HZ:Hid (AF A B M=0/\TR M=1):=⟨if_pos h0,if_pos h0⟩
  have HV:Hid (decide (M%2^256=0%2^256)=true):=by show _=_;rw[h0];rfl
  clear h0 hA hB hM
  go_enter func166,ntmps166
  go_wp2_with (first
   |refine Zp rfl 57 _ rfl _ rfl ?_
   |refine Zg rfl 57 rfl _ Zo ?_
   |refine Zw rfl 57 rfl _ ZA ?_
   |refine Zj rfl 57 _ rfl (w.heap.size+1+1) (by first|rfl|(unfold Act.eval Act.put;simp;done)|(unfold Act.eval;simp;done)) r5 4 _ underlying57 (by exact Zc) ?_
   |refine ZG rfl (.bool true) ((ZD _ _ _ rfl M 0 rfl rfl _).trans (by rw[HV.out])) ?_
   |refine Zs rfl 57 _ _ rfl (w.heap.size+1+1+1) _ (by first|rfl|(unfold Act.eval Act.put;simp;done)|(unfold Act.eval;simp;done)) rfl r6 (by exact Zc) (by simp only[Zm]) (Zv _) ?_)
  exact Z2 rfl _ rfl (r6.setRow (Zd 0)) 4 _ underlying57 (by exact Zc) rfl _ rfl ⟨by rw[HZ.out.1,HZ.out.2];rfl,Zt bW (by omega) _⟩
 ·have HZ:Hid (AF A B M=(A%M+(M-B%M))%M/\TR M=0):=⟨if_neg h0,if_neg h0⟩
  have HV:Hid (decide (M%2^256=0%2^256)=false):=by
   show _=_
   rw[Nat.mod_eq_of_lt hM];exact decide_eq_false h0
  have hra:=fun w'=>Xf A M w' hA (by omega) hM
  have hrb:=fun w'=>Xf B M w' hB (by omega) hM
  have hxa:=Nat.mod_lt A (show 0<M by omega);have hxb:=Nat.mod_lt B (show 0<M by omega);rw[HZ.out.1,HZ.out.2];clear h0 hA hB HZ;generalize A%M=x at*;generalize B%M=y at*;have hsu:=fun w'=>XH x y w' (by omega)
  have had:=fun w'=>Vs (Wb x y) M w'
  have hbo:bN x y 256=if x<y then 1 else 0:=by unfold bN;rw[Nat.mod_eq_of_lt (by omega),Nat.mod_eq_of_lt (by omega)]
  rw[hbo]at hsu;clear hbo;by_cases hlt:x<y
  ·rw[if_pos hlt]at hsu;rw[CX x y M hlt hxb hM]at had;clear hlt hxa hxb hM;generalize Wb x y=d at*;generalize (x+(M-y))%M=v at*
   go_enter func166,ntmps166
   go_wp2_with (first
    |refine Zp rfl 57 _ rfl _ rfl ?_
    |refine Zg rfl 57 rfl _ Zo ?_
    |refine Zw rfl 57 rfl _ ZA ?_
    |refine Zj rfl 57 _ rfl (w.heap.size+1+1) (by first|rfl|(unfold Act.eval Act.put;simp;done)|(unfold Act.eval;simp;done)) r5 4 _ underlying57 (by exact Zc) ?_
    |refine ZG rfl (.bool false) ((ZD _ _ _ rfl M 0 rfl rfl _).trans (by rw[HV.out])) ?_)
   generalize (((w.alloc (.cells (Zd A) 57)).alloc (.cells (Zd B) 57)).alloc (.cells (Zd M) 57)).alloc (.cells (Zd 0) 57)=w1 at*;apply Zi (by kernel_rfl) [] [_,_,_,_,_,_,_,_,_,_,_,_,_] trivial List.nodup_nil
   ·intro p;refine m_l r3 ?_;simp only[pv];refine m_l r5 ?_;simp only[pv];refine m_c 156 func156 #[.agg (Zd A),.agg (Zd M)] hra ?_;simp only[pv];refine m_l r4 ?_;simp only[pv];refine m_l r5 ?_;simp only[pv];refine m_c 156 func156 #[.agg (Zd B),.agg (Zd M)] hrb ?_;simp only[pv];refine m_c 154 func154 #[.agg (Zd x),.agg (Zd y)] hsu ?_;refine m_m ?_;refine m_e ?_;refine m_e ?_;simp only[pv];refine m_n ?_;simp only[pv];refine m_p 21 d ?_;simp only[Act.put];refine m_a ?_;simp only[pv];refine Zf ?_;intro w2 hkw hrw hnew _;have r8:Row w2 (p 10) (Zd d) 57:=hrw 21 _ rfl;have hp:w1.heap.size<=p 10:=hnew 10 rfl;have hl:=r6.lt;have q5:=hkw.row r5 (by simp);have q6:=hkw.row r6 (by simp);have b2:=bW.trans (hkw.below w.heap.size bW.size (by simp));clear hrw hnew r3 r4 r5 r6 bW hra hrb hsu;generalize p 10=q at*
    go_wp2_with (first
     |refine Zj rfl 57 _ rfl _ rfl r8 4 _ underlying57 (by exact Zc) ?_
     |refine Zj rfl 57 _ rfl _ rfl q5 4 _ underlying57 (by exact Zc) ?_)
    refine(had _).mono ?_;rintro e w3 ⟨rfl,hb3⟩;have s8:=r8.belowAll hb3;have s6:=(q6.belowAll hb3).setRow_far q (Zd v) (by omega);have s8':=s8.setRow (Zd v);have b3:=Zt (Zk b2 (Nat.le_refl _) hb3) (g:=q) (by omega) (Zd v);clear r8 q5 q6 b2 hb3 had
    go_wp2_with (first
     |refine Zs rfl 57 _ _ rfl _ _ rfl rfl s8 (by exact Zc) (by simp only[Zm]) (Zv _) ?_
     |refine Zj rfl 57 _ rfl _ rfl s8' 4 _ underlying57 (by exact Zc) ?_
     |refine Zs rfl 57 _ _ rfl _ _ rfl rfl s6 (by exact Zc) (by simp only[Zm]) (Zv _) ?_)
    exact Z2 rfl _ rfl (s6.setRow (Zd v)) 4 _ underlying57 (by exact Zc) rfl _ rfl ⟨rfl,Zt b3 (by omega) _⟩
   ·kernel_rfl
  ·rw[if_neg hlt]at hsu;rw[sub_le x y M (by omega) hxa hM]at hsu;clear hlt hxa hxb hM had;generalize (x+(M-y))%M=v at*
   go_enter func166,ntmps166
   go_wp2_with (first
    |refine Zp rfl 57 _ rfl _ rfl ?_
    |refine Zg rfl 57 rfl _ Zo ?_
    |refine Zw rfl 57 rfl _ ZA ?_
    |refine Zj rfl 57 _ rfl (w.heap.size+1+1) (by first|rfl|(unfold Act.eval Act.put;simp;done)|(unfold Act.eval;simp;done)) r5 4 _ underlying57 (by exact Zc) ?_
    |refine ZG rfl (.bool false) ((ZD _ _ _ rfl M 0 rfl rfl _).trans (by rw[HV.out])) ?_)
   generalize (((w.alloc (.cells (Zd A) 57)).alloc (.cells (Zd B) 57)).alloc (.cells (Zd M) 57)).alloc (.cells (Zd 0) 57)=w1 at*;apply Zi (by kernel_rfl) [] [_,_,_,_,_,_,_,_,_,_,_,_,_] trivial List.nodup_nil
   ·intro p;refine m_l r3 ?_;simp only[pv];refine m_l r5 ?_;simp only[pv];refine m_c 156 func156 #[.agg (Zd A),.agg (Zd M)] hra ?_;simp only[pv];refine m_l r4 ?_;simp only[pv];refine m_l r5 ?_;simp only[pv];refine m_c 156 func156 #[.agg (Zd B),.agg (Zd M)] hrb ?_;simp only[pv];refine m_c 154 func154 #[.agg (Zd x),.agg (Zd y)] hsu ?_;refine m_m ?_;refine m_e ?_;refine m_e ?_;simp only[pv];refine m_n ?_;simp only[pv];refine m_p 21 v ?_;simp only[Act.put];refine m_a ?_;simp only[pv];refine Zf ?_;intro w2 hkw hrw hnew _;have r8:Row w2 (p 10) (Zd v) 57:=hrw 21 _ rfl;have hp:w1.heap.size<=p 10:=hnew 10 rfl;have hl:=r6.lt;have q6:=hkw.row r6 (by simp);have b2:=bW.trans (hkw.below w.heap.size bW.size (by simp));clear hrw hnew r3 r4 r5 r6 bW hra hrb hsu;generalize p 10=q at*
    go_wp2_with (first
     |refine Zj rfl 57 _ rfl _ rfl r8 4 _ underlying57 (by exact Zc) ?_
     |refine Zs rfl 57 _ _ rfl _ _ rfl rfl q6 (by exact Zc) (by simp only[Zm]) (Zv _) ?_)
    exact Z2 rfl _ rfl (q6.setRow (Zd v)) 4 _ underlying57 (by exact Zc) rfl _ rfl ⟨rfl,Zt b2 (by omega) _⟩
   ·kernel_rfl
theorem Sx (x y:Nat):Nat.gcd y (x%y)=Nat.gcd x y:=by
 rw[Nat.gcd_comm x y,Nat.gcd_rec y x,Nat.gcd_comm]
theorem Ii (A B:Nat)(w:World)(hA:A<2^256)(hB:B<2^256):
  Calls prog 189 #[.agg (Zd A),.agg (Zd B)] w fun e w'=>e= .returned (.agg (Zd (Nat.gcd A B)))/\Below w.heap.size w w':=by
 have H:Hid (A<2^256/\B<2^256):=⟨hA,hB⟩;clear hA hB
 go_enter func189,ntmps189
 go_wp2_with (first
  |refine Zp rfl 57 _ rfl _ rfl ?_
  |refine Zg rfl 57 rfl _ Zo ?_)
 simp only[Act.put,List.setIfInBounds_toArray,List.set_cons_zero,List.set_cons_succ,Yw]
 go_loopg [] B (fun g wr=> ∃x y:Nat,y<=g/\x<2^256/\y<2^256/\Nat.gcd x y=Nat.gcd A B/\Row wr w.heap.size (Zd x) 57/\Row wr (w.heap.size+1) (Zd y) 57/\Row wr (w.heap.size+1+1) (Zd 0) 57/\Below w.heap.size w wr)
 case atStart=>
  exact⟨A,B,Nat.le_refl _,H.out.1,H.out.2,rfl,(by repeat(first|(refine Row.here ?_;first|(with_reducible rfl)|(simp;done))|refine Row.alloc ?_ _)),(by repeat(first|(refine Row.here ?_;first|(with_reducible rfl)|(simp;done))|refine Row.alloc ?_ _)),(by repeat(first|(refine Row.here ?_;first|(with_reducible rfl)|(simp;done))|refine Row.alloc ?_ _)),(by repeat(first|exact Below.refl _ _|refine Below.alloc ?_ (by simp<;>omega) _))⟩
 case round=>
  obtain⟨x,y,hy,hx2,hy2,hg,r2,r3,r4,hb⟩:=hrel;rcases Nat.eq_zero_or_pos y with rfl|h0
  ·have HV:Hid ((!decide (0%2^256=0%2^256))=false):=rfl
   have HG:Hid (Nat.gcd A B=x):=by show _=_;rw[<-hg,Nat.gcd_zero_right]
   clear hy hx2 hy2 hg H
   go_wp2_with (first
    |refine Zw rfl 57 rfl _ ZA ?_
    |refine Zj rfl 57 _ rfl _ rfl r3 4 _ underlying57 (by exact Zc) ?_
    |refine Zj rfl 57 _ rfl _ rfl r2 4 _ underlying57 (by exact Zc) ?_
    |refine ZG rfl (.bool false) ((ZT _ _ _ rfl 0 0 rfl rfl _).trans (by rw[HV.out])) ?_
    |refine Zs rfl 57 _ _ rfl _ _ rfl rfl r4 (by exact Zc) (by simp only[Zm]) (Zv _) ?_)
   exact ZL rfl _ rfl (r4.setRow (Zd x)) 4 _ underlying57 (by exact Zc) rfl ⟨by rw[HG.out],Zt hb (by omega) _⟩
  ·cases gk with
   |zero=>omega
   |succ g=>
    have HV:Hid ((!decide (y%2^256=0%2^256))=true):=by
     show _=_
     rw[Nat.mod_eq_of_lt hy2,decide_eq_false (by simp;omega)];rfl
    have hre:=fun w'=>Xf x y w' hx2 h0 hy2
    have hlt:=Nat.mod_lt x h0;have HX:Hid (x%y<=g/\y<2^256/\x%y<2^256/\Nat.gcd y (x%y)=Nat.gcd A B):=⟨by omega,hy2,by omega,by rw[Sx];exact hg⟩;clear hy hx2 hy2 hg H h0 hlt;generalize x%y=z at*
    go_wp2_with (first
     |refine Zw rfl 57 rfl _ ZA ?_
     |refine Zj rfl 57 _ rfl _ rfl r3 4 _ underlying57 (by exact Zc) ?_
     |refine ZG rfl (.bool true) ((ZT _ _ _ rfl y 0 rfl rfl _).trans (by rw[HV.out])) ?_)
    apply Zi (by kernel_rfl) [(w.heap.size,57,Zd x),(w.heap.size+1,57,Zd y)] [_,_,_,_,_,_] ⟨r2,r3,trivial⟩ (by simp<;>omega)
    ·intro p;refine YO 2 57 _ rfl rfl rfl 4 _ underlying57 Zc ?_;simp only[pv];refine YO 0 57 _ rfl rfl rfl 4 _ underlying57 Zc ?_;simp only[pv];refine YO 2 57 _ rfl rfl rfl 4 _ underlying57 Zc ?_;simp only[pv];refine m_c 156 func156 #[.agg (Zd x),.agg (Zd y)] hre ?_;simp only[pv];refine m_p 0 y ?_;simp only[Act.put];refine m_p 2 z ?_;simp only[Act.put];refine Zf ?_;intro w7 hkw hrw _ _;have r2':Row w7 w.heap.size (Zd y) 57:=hrw 0 _ rfl;have r3':Row w7 (w.heap.size+1) (Zd z) 57:=hrw 2 _ rfl;have r4':=hkw.row r4 (by simp<;>omega);have hb1:=hb.trans (hkw.below w.heap.size hb.size (by simp<;>omega));clear r2 r3 r4 hb hkw hrw hre;go_wp2
     go_roundg g
     case measure=>omega
     case rel=>
      obtain⟨h1,h2,h3,h4⟩:=HX.out;exact⟨y,z,h1,h2,h3,h4,r2',r3',r4',hb1⟩
    ·kernel_rfl
def sg (neg:Bool):Int:=if neg=true then-1 else 1
structure Iv (A M L S b f:Nat)(neg:Bool):Prop where
 det:L*f+S*b=M
 lt:S<L
 ne:L≠1
 pos:1<=f
 gcd:Nat.gcd L S=Nat.gcd A M
 low:(M:Int)∣(f:Int)*A-sg neg*S
 high:(M:Int)∣(b:Int)*A+sg neg*L
theorem GY (neg:Bool):sg (!neg)= -sg neg:=by cases neg<;>rfl
theorem Of (A M:Nat)(hM:2<=M):Iv A M M (A%M) 0 1 false where
 det:=by omega
 lt:=Nat.mod_lt _ (by omega)
 ne:=by omega
 pos:=Nat.le_refl _
 gcd:=by rw[Sx]
 low:=by
  have h:=Nat.div_add_mod A M;refine⟨((A/M:Nat):Int),?_⟩;show((1:Nat):Int)*(A:Int)-1*((A%M:Nat):Int)=_
  have:(A:Int)=(M:Int)*((A/M:Nat):Int)+((A%M:Nat):Int):=by exact_mod_cast h.symm
  omega
 high:=⟨1,by show((0:Nat):Int)*(A:Int)+1*(M:Int)=_;omega⟩
theorem M5 (A M L S b f:Nat)(neg:Bool)(h:Iv A M L S b f neg)(h0:0<S)(h1:S≠1):Iv A M S (L%S) f (b+L/S*f) (!neg) where
 det:=by
  have h2:=Nat.div_add_mod L S;have h3:=h.det
  have e:S*(b+L/S*f)+L%S*f=(S*(L/S)+L%S)*f+S*b:=by
   rw[Nat.mul_add,Nat.add_mul,Nat.mul_assoc];omega
  rw[e,h2];exact h3
 lt:=Nat.mod_lt _ h0
 ne:=h1
 pos:=by
  have h2:1<=L/S:=(Nat.le_div_iff_mul_le h0).2 (by have:=h.lt;omega);have h3:1*1<=L/S*f:=Nat.mul_le_mul h2 h.pos;omega
 gcd:=by rw[Sx];exact h.gcd
 low:=by
  have e:((b+L/S*f:Nat):Int)*A-sg (!neg)*((L%S:Nat):Int)=((b:Int)*A+sg neg*L)+((L/S:Nat):Int)*((f:Int)*A-sg neg*S):=by
   have h2:(L:Int)=(S:Int)*((L/S:Nat):Int)+((L%S:Nat):Int):=by exact_mod_cast (Nat.div_add_mod L S).symm
   rw[GY];generalize ((L%S:Nat):Int)=r at*;rw[h2]
   push_cast
   generalize ((L:Int)/(S:Int))=q;simp only[Int.add_mul,Int.mul_sub,Int.mul_add,Int.neg_mul,Int.sub_neg];have e1:q*(sg neg*(S:Int))=sg neg*((S:Int)*q):=by rw[Int.mul_left_comm,Int.mul_comm q]
   have e2:q*(f:Int)*(A:Int)=q*((f:Int)*(A:Int)):=Int.mul_assoc _ _ _;rw[e1,e2];omega
  rw[e];exact Int.dvd_add h.high (Int.dvd_mul_of_dvd_right h.low)
 high:=by
  have e:(f:Int)*A+sg (!neg)*(S:Int)=(f:Int)*A-sg neg*S:=by rw[GY,Int.neg_mul];omega
  rw[e];exact h.low
def AG (A M:Nat):Nat:=((List.range M).find? fun x=>x*A%M==1).getD 0
theorem VW (A M x:Nat)(hx:x<M)(h:x*A%M=1):AG A M=x:=by
 unfold AG
 cases hf:(List.range M).find? fun x=>x*A%M==1 with
 |none=>
  have:=List.find?_eq_none.1 hf x (List.mem_range.2 hx);simp[h]at this
 |some y=>
  have h1:=List.find?_some hf;have h2:y<M:=List.mem_range.1 (List.mem_of_find?_eq_some hf);have h3:y*A%M=1:=by simpa using h1
  show y=x
  have e1:y*(x*A)%M=y:=by rw[Nat.mul_mod,h,Nat.mul_one,Nat.mod_mod,Nat.mod_eq_of_lt h2]
  have e2:x*(y*A)%M=x:=by rw[Nat.mul_mod,h3,Nat.mul_one,Nat.mod_mod,Nat.mod_eq_of_lt hx]
  exact e1.symm.trans ((show y*(x*A)%M=x*(y*A)%M by rw[Nat.mul_left_comm]).trans e2)
theorem M6 (A M L b f:Nat)(neg:Bool)(hM:2<=M)(h:Iv A M L 1 b f neg):f<M/\AG A M=if neg=true then M-f else f:=by
 have hd:=h.det;have hl:=h.lt;have hp:=h.pos;have h2:2*f<=L*f:=Nat.mul_le_mul_right _ hl;have hf:f<M:=by omega
 refine⟨hf,?_⟩;obtain⟨k,hk⟩:=h.low;cases neg
 ·rw[if_neg (by decide)];refine VW A M f hf ?_
  have e:((f*A:Nat):Int)=1+(M:Int)*k:=by
   push_cast
   have:(f:Int)*A-1*((1:Nat):Int)=(M:Int)*k:=hk;omega
  have:((f*A%M:Nat):Int)=1:=by
   rw[Int.natCast_emod,e,Int.add_mul_emod_self_left];exact Int.emod_eq_of_lt (by omega) (by omega)
  exact_mod_cast this
 ·rw[if_pos rfl];refine VW A M (M-f) (by omega) ?_
  have e:(((M-f)*A:Nat):Int)=1+(M:Int)*(A-k):=by
   push_cast [Nat.le_of_lt hf]
   have:(f:Int)*A- -1*((1:Nat):Int)=(M:Int)*k:=hk;rw[Int.sub_mul,Int.mul_sub];omega
  have:(((M-f)*A%M:Nat):Int)=1:=by
   rw[Int.natCast_emod,e,Int.add_mul_emod_self_left];exact Int.emod_eq_of_lt (by omega) (by omega)
  exact_mod_cast this
theorem ZI {P:Program}{o:Oper}{ρ:Operand->Value}(t:TypeId)(ho:o.op= .build t #[])(c:Array Value)(hb:P.built t []=some c)(w:World):(execOp ρ o).run P w= .ok (.value (.agg c)) w:=by
 unfold execOp;simp only[ho,Sem.run_bind,run_build w t #[] c hb,Array.map_empty,Result.andThen_ok];rfl
theorem Vw {P:Program}{ops:Array Oper}{rest:List Oper}{o:Oper}{a:Act}{w:World}{Q:Exit->Act->World->Prop}(hw:Region.wanted o (yielded ops a.tmps)=true)
  (h: ∀K:Act->World->Prop,(∀a w,wpList P ops Q rest a w->K a w)->o.wp P a w K Q):wpList P ops Q (o::rest) a w:=
 wpList_step fun K hK=>by simp only[hw,if_true];exact h K hK
theorem XJ {P:Program}{ops:Array Oper}{rest:List Oper}{o:Oper}{a:Act}{w:World}{Q:Exit->Act->World->Prop}(hw:Region.wanted o (yielded ops a.tmps)=true)(ty:TypeId)(x:Operand)(ho:o.op= .load ty x)
  (g:Nat)(hx:a.eval x= .pointer (some ⟨g,0,none⟩)){t:TypeId}{cs:Array Value}(hg:Row w g cs t)(n:Nat)(e:TypeId)
  (hu:P.underlying ty=some (.array n e))(hi:(P.info? ty).map (·.size)=some cs.size)
  (h:wpList P ops Q rest (a.put o.dst (.agg cs)) w):wpList P ops Q (o::rest) a w:=
 Vw hw fun _ hK=>wp_load_row ty x ho g hx t cs (0,0) _ hg hu rfl hi (hK _ _ h)
theorem Vx {P:Program}{ops:Array Oper}{rest:List Oper}{o:Oper}{a:Act}{w:World}{Q:Exit->Act->World->Prop}(hw:Region.wanted o (yielded ops a.tmps)=true)(v:Value)
  (hr:(execOp a.eval o).run P w= .ok (.value v) w)(h:wpList P ops Q rest (a.put o.dst v) w):wpList P ops Q (o::rest) a w:=
 Vw hw fun _ hK=>by unfold Oper.wp;rw[hr];exact hK _ _ h
def Sy (A M:Nat):Nat:=if M<2 then 0 else if Nat.gcd A M=1 then AG A M else 0
def EB (A M:Nat):Int:=if M<2 then 1 else if Nat.gcd A M=1 then 0 else 3
theorem RF:Zd ((1:Int).toNat)=Zd 1:=rfl
theorem EC (M f:Nat)(h:f<=M)(hM:M<2^256):Zd (Wb M f)=Zd (M-f):=by
 refine(WA _ _).2 ?_;unfold Wb;rw[show M+(2^256-f)=M-f+2^256*1 by omega,Nat.add_mul_mod_self_left]
theorem Ij (A M:Nat)(w:World)(hM:M<2):
  Calls prog 183 #[.agg (Zd A),.agg (Zd M)] w fun e w'=>e= .returned (.tuple #[.agg (Zd 0),.int .i64 1])/\Below w.heap.size w w':=by
 have rM:Row (((w.alloc (.cells (Zd A) 57)).alloc (.cells (Zd M) 57)).alloc (.cells (Zd 0) 57)) (w.heap.size+1) (Zd M) 57:=(by repeat(first|(refine Row.here ?_;first|(with_reducible rfl)|(simp;done))|refine Row.alloc ?_ _));have rZ:Row (((w.alloc (.cells (Zd A) 57)).alloc (.cells (Zd M) 57)).alloc (.cells (Zd 0) 57)) (w.heap.size+1+1) (Zd 0) 57:=(by repeat(first|(refine Row.here ?_;first|(with_reducible rfl)|(simp;done))|refine Row.alloc ?_ _));have bW:=YS (w:=w) (.cells (Zd A) 57) (.cells (Zd M) 57) (.cells (Zd 0) 57);have hof:=fun w'=>Xe 1 w' (by omega)
 rw[RF]at hof;have hm:M=0∨M=1:=by omega
 clear hM;rcases hm with rfl|rfl
 ·go_enter func183,ntmps183
  go_wp2_with (first
   |refine Zp rfl 57 _ rfl _ rfl ?_
   |refine Zg rfl 57 rfl _ Zo ?_)
  refine(hof _).mono ?_;rintro e w1 ⟨rfl,hb1⟩;have qM:=(rM.belowAll hb1).alloc (.cells (Zd 1) 57);have qZ:=(rZ.belowAll hb1).alloc (.cells (Zd 1) 57);have b1:=Zk bW (Nat.le_refl _) hb1;have b2:=b1.alloc b1.size (.cells (Zd 1) 57);clear rM rZ bW hb1 b1 hof
  go_wp2_with (first
   |refine Zg rfl 57 rfl _ Zo ?_
   |refine Zw rfl 57 rfl _ ZA ?_
   |refine ZR rfl 57 _ _ rfl _ rfl rfl _ _ (by exact Zc) (by simp only[Zm]) (Zv _) ?_
   |refine Zj rfl 57 _ rfl _ rfl qM 4 _ underlying57 (by exact Zc) ?_
   |refine ZG rfl (.bool true) ((ZD _ _ _ rfl 0 0 rfl rfl _).trans (by simp)) ?_
   |refine Zs rfl 57 _ _ rfl _ _ rfl rfl qZ (by exact Zc) (by simp only[Zm]) (Zv _) ?_)
  exact Z2 rfl _ rfl (qZ.setRow (Zd 0)) 4 _ underlying57 (by exact Zc) rfl _ rfl ⟨rfl,Zt b2 (by omega) _⟩
 ·go_enter func183,ntmps183
  go_wp2_with (first
   |refine Zp rfl 57 _ rfl _ rfl ?_
   |refine Zg rfl 57 rfl _ Zo ?_)
  refine(hof _).mono ?_;rintro e w1 ⟨rfl,hb1⟩;have qM:=(rM.belowAll hb1).alloc (.cells (Zd 1) 57);have qZ:=(rZ.belowAll hb1).alloc (.cells (Zd 1) 57);have q1:=Row.new w1 (Zd 1) 57;have b1:=Zk bW (Nat.le_refl _) hb1;have b2:=b1.alloc b1.size (.cells (Zd 1) 57);clear rM rZ bW hb1 b1 hof
  go_wp2_with (first
   |refine Zg rfl 57 rfl _ Zo ?_
   |refine Zw rfl 57 rfl _ ZA ?_
   |refine ZR rfl 57 _ _ rfl _ rfl rfl _ _ (by exact Zc) (by simp only[Zm]) (Zv _) ?_
   |refine Zj rfl 57 _ rfl _ rfl qM 4 _ underlying57 (by exact Zc) ?_
   |refine ZG rfl (.bool false) ((ZD _ _ _ rfl 1 0 rfl rfl _).trans (by simp)) ?_
   |refine XJ (by rfl) 57 _ rfl _ rfl qM 4 _ underlying57 (by exact Zc) ?_
   |refine XJ (by rfl) 57 _ rfl _ rfl q1 4 _ underlying57 (by exact Zc) ?_
   |refine Vx (by rfl) (.bool true) ((ZD _ _ _ rfl 1 1 rfl rfl _).trans (by simp)) ?_
   |refine Zs rfl 57 _ _ rfl _ _ rfl rfl qZ (by exact Zc) (by simp only[Zm]) (Zv _) ?_)
  exact Z2 rfl _ rfl (qZ.setRow (Zd 0)) 4 _ underlying57 (by exact Zc) rfl _ rfl ⟨rfl,Zt b2 (by omega) _⟩
theorem M7 (A M:Nat)(h2:2<=M)(hg:Nat.gcd A M=1): ∃x,x<M/\x*A%M=1:=by
 suffices h: ∀(n L S b f:Nat) (neg:Bool),S<=n->Iv A M L S b f neg-> ∃x,x<M/\x*A%M=1 from h (A%M) M (A%M) 0 1 false (Nat.le_refl _) (Of A M h2)
 intro n
 induction n with
 |zero=>
  intro L S b f neg hS hI;exfalso;have h0:S=0:=by omega
  have:=hI.gcd;rw[h0,Nat.gcd_zero_right,hg]at this;exact hI.ne this
 |succ n ih=>
  intro L S b f neg hS hI;by_cases h0:S=0
  ·exact ih L S b f neg (by omega) hI
  ·by_cases h1:S=1
   ·subst h1;obtain⟨hf,_⟩:=M6 A M L b f neg h2 hI;obtain⟨k,hk⟩:=hI.low;have hp:=hI.pos;cases neg
    ·refine⟨f,hf,?_⟩
     have e:((f*A:Nat):Int)=1+(M:Int)*k:=by
      push_cast
      have:(f:Int)*A-1*((1:Nat):Int)=(M:Int)*k:=hk;omega
     have:((f*A%M:Nat):Int)=1:=by
      rw[Int.natCast_emod,e,Int.add_mul_emod_self_left];exact Int.emod_eq_of_lt (by omega) (by omega)
     exact_mod_cast this
    ·refine⟨M-f,by omega,?_⟩
     have e:(((M-f)*A:Nat):Int)=1+(M:Int)*(A-k):=by
      push_cast [Nat.le_of_lt hf]
      have:(f:Int)*A- -1*((1:Nat):Int)=(M:Int)*k:=hk;rw[Int.sub_mul,Int.mul_sub];omega
     have:(((M-f)*A%M:Nat):Int)=1:=by
      rw[Int.natCast_emod,e,Int.add_mul_emod_self_left];exact Int.emod_eq_of_lt (by omega) (by omega)
     exact_mod_cast this
   ·have hlt:=Nat.mod_lt L (show 0<S by omega);exact ih S (L%S) f (b+L/S*f) (!neg) (by omega) (M5 A M L S b f neg hI (by omega) h1)
theorem M8 (A M:Nat)(h2:2<=M)(hg:Nat.gcd A M=1):Sy A M<M/\Sy A M*A%M=1:=by
 unfold Sy;rw[if_neg (by omega),if_pos hg];obtain⟨x,hx,h⟩:=M7 A M h2 hg;rw[VW A M x hx h];exact⟨hx,h⟩
section
variable {P:Program}{o:Oper}{ρ:Operand->Value}
theorem VX (t:TypeId)(x y:Operand)(u:TypeId)(ho:o.op= .binOp .quo t x y u)(n m:Nat)(hx:ρ x= .int .i64 n)(hy:ρ y= .int .i64 m)(hm:0<m)(hn:n<9223372036854775808)(w:World):
  (execOp ρ o).run P w= .ok (.value (.int .i64 ((n/m:Nat):Int))) w:=by
 have h0: ¬(m=0):=by omega
 have h2:n/m<=n:=Nat.div_le_self _ _;have h3:=wrap_i64 (n/m) (by omega);rw[Int.natCast_ediv]at h3 ⊢;unfold execOp;simp only[ho,hx,hy];simp[go_sem];rw[if_neg h0,h3]
theorem XM (t:TypeId)(x y:Operand)(u:TypeId)(ho:o.op= .binOp .rem t x y u)(n m:Nat)(hx:ρ x= .int .i64 n)(hy:ρ y= .int .i64 m)(hm:0<m)(w:World):
  (execOp ρ o).run P w= .ok (.value (.int .i64 ((n%m:Nat):Int))) w:=by
 have h0: ¬(m=0):=by omega
 unfold execOp;simp only[ho,hx,hy];simp[go_sem];rw[if_neg h0,Int.tmod_eq_emod_of_nonneg (by omega)]
theorem Wf (b:BinOp)(t:TypeId)(x y:Operand)(u:TypeId)(hb:b= .and∨b= .or)(ho:o.op= .binOp b t x y u)(n m:Int)(hx:ρ x= .int .i64 n)(hy:ρ y= .int .i64 m)(w:World):
  (execOp ρ o).run P w= .ok (.value (.int .i64 (bits b .i64 n m))) w:=by
 unfold execOp;simp only[ho,hx,hy];rcases hb with rfl|rfl
 ·simp[go_sem]
 ·simp[go_sem]
theorem Nx (t:TypeId)(x y:Operand)(u:TypeId)(ho:o.op= .binOp .add t x y u)(n m:Int)(hx:ρ x= .int .i64 n)(hy:ρ y= .int .i64 m)(w:World):
  (execOp ρ o).run P w= .ok (.value (.int .i64 (IntKind.i64.wrap (n+m)))) w:=by
 unfold execOp;simp only[ho,hx,hy];simp[go_sem]
theorem TS (t:TypeId)(x y:Operand)(u:TypeId)(ho:o.op= .binOp .mul t x y u)(n m:Int)(hx:ρ x= .int .i64 n)(hy:ρ y= .int .i64 m)(w:World):
  (execOp ρ o).run P w= .ok (.value (.int .i64 (IntKind.i64.wrap (n*m)))) w:=by
 unfold execOp;simp only[ho,hx,hy];simp[go_sem]
theorem ZB (t:TypeId)(x:Operand)(ho:o.op= .unOp .not t x)(b:Bool)(hx:ρ x= .bool b)(w:World):(execOp ρ o).run P w= .ok (.value (.bool (!b))) w:=by
 unfold execOp;simp only[ho,hx];simp[go_sem]
end
end Go.Proofs.YtnagnkhbamhfmaaGreatDoor
