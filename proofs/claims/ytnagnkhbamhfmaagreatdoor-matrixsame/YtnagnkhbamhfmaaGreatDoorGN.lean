import Derived.Test.YtnagnkhbamhfmaaGreatDoorGM
import Derived.Test.YtnagnkhbamhfmaaGreatDoorGH
namespace Go.Proofs.YtnagnkhbamhfmaaGreatDoor
set_option linter.all false
open Go.Proofs.Tryz
open Go.RowKit
def putD (U m d:Nat):Nat:=U%2^(16*m)+2^(16*m)*(d+65536*(U/2^(16*m)/65536))
def Sm (A B i k U c:Nat):Prop:=U+2^(16*(i+k))*c=A%2^(16*i)*B+dg A i*(B%2^(16*k))*2^(16*i)/\U<2^(16*(i+16))/\c<65536
structure MulH (wr w:World)(g6 g7 g8 A B V:Nat):Prop where
 r4:Row wr (w.heap.size+1+1) (Zd 0) 57
 r5:Row wr (w.heap.size+1+1+1) (Zd 0) 57
 x:Row wr g6 (LD A) 206
 y:Row wr g7 (LD B) 206
 o:Row wr g8 (LD V) 206
 below:Below w.heap.size w wr
theorem MulH.set {wr w:World}{g6 g7 g8 A B V V':Nat}(h:MulH wr w g6 g7 g8 A B V)(i:Nat)(v:Value)(hv:(LD V).setIfInBounds i v=LD V')(h6:g6≠g8)(h7:g7≠g8)(h8:w.heap.size+1+1+1<g8):
  MulH (wr.setCell ⟨g8,i,none⟩ v) w g6 g7 g8 A B V':=
 ⟨h.r4.setCell_far _ _ _ (by omega),h.r5.setCell_far _ _ _ (by omega),h.x.setCell_far _ _ _ h6,h.y.setCell_far _ _ _ h7,hv▸h.o.setCell i v,ZU h.below (by omega) _ _⟩
def pR (A M g:Nat):Nat:=A/2^g%M
def pQ (A M g:Nat):Nat:=2^g*(A/2^g/M)
def pB (A g:Nat):Nat:=A/2^g%2
def Ba (A B:Nat):Nat:=if B=0 then 0 else A/B
set_option maxRecDepth 100000 in
set_option maxHeartbeats 1000000 in
theorem ID (A B:Nat)(w:World)(hA:A<2^256)(hB:B<2^256):
  Calls prog 187 #[.agg (Zd A),.agg (Zd B)] w fun e w'=>e= .returned (.tuple #[.agg (Zd (Ba A B)),.agg (Zd (Ri A B)),.int .i64 (TR B)])/\Below w.heap.size w w':=by
 have r2:Row ((((w.alloc (.cells (Zd A) 57)).alloc (.cells (Zd B) 57)).alloc (.cells (Zd 0) 57)).alloc (.cells (Zd 0) 57)) w.heap.size (Zd A) 57:=(by repeat(first|(refine Row.here ?_;first|(with_reducible rfl)|(simp;done))|refine Row.alloc ?_ _));have r3:Row ((((w.alloc (.cells (Zd A) 57)).alloc (.cells (Zd B) 57)).alloc (.cells (Zd 0) 57)).alloc (.cells (Zd 0) 57)) (w.heap.size+1) (Zd B) 57:=(by repeat(first|(refine Row.here ?_;first|(with_reducible rfl)|(simp;done))|refine Row.alloc ?_ _));have r4:Row ((((w.alloc (.cells (Zd A) 57)).alloc (.cells (Zd B) 57)).alloc (.cells (Zd 0) 57)).alloc (.cells (Zd 0) 57)) (w.heap.size+1+1) (Zd 0) 57:=(by repeat(first|(refine Row.here ?_;first|(with_reducible rfl)|(simp;done))|refine Row.alloc ?_ _));have r5:Row ((((w.alloc (.cells (Zd A) 57)).alloc (.cells (Zd B) 57)).alloc (.cells (Zd 0) 57)).alloc (.cells (Zd 0) 57)) (w.heap.size+1+1+1) (Zd 0) 57:=(by repeat(first|(refine Row.here ?_;first|(with_reducible rfl)|(simp;done))|refine Row.alloc ?_ _));have bW:Below w.heap.size w ((((w.alloc (.cells (Zd A) 57)).alloc (.cells (Zd B) 57)).alloc (.cells (Zd 0) 57)).alloc (.cells (Zd 0) 57)):=(by repeat(first|exact Below.refl _ _|refine Below.alloc ?_ (by simp<;>omega) _));by_cases h0:B=0
 ·have HZ:Hid (Ba A B=0/\Ri A B=0/\TR B=1):=⟨if_pos h0,if_pos h0,if_pos h0⟩
  have HV:Hid (decide (B%2^256=0%2^256)=true):=by show _=_;rw[h0];rfl
  clear h0 hA hB;have r5':=r5.setRow_far (w.heap.size+1+1) (Zd 0) (by omega)
  go_enter func187,ntmps187
  go_wp2_with (first
   |refine Zp rfl 57 _ rfl _ rfl ?_
   |refine Zg rfl 57 rfl _ Zo ?_
   |refine Zw rfl 57 rfl _ ZA ?_
   |refine Zj rfl 57 _ rfl (w.heap.size+1) (by first|rfl|(unfold Act.eval Act.put;simp;done)|(unfold Act.eval;simp;done)) r3 4 _ underlying57 (by exact Zc) ?_
   |refine ZG rfl (.bool true) ((ZD _ _ _ rfl B 0 rfl rfl _).trans (by rw[HV.out])) ?_
   |refine Zs rfl 57 _ _ rfl _ _ rfl rfl r4 (by exact Zc) (by simp only[Zm]) (Zv _) ?_
   |refine Zs rfl 57 _ _ rfl (w.heap.size+1+1+1) _ (by first|rfl|(unfold Act.eval Act.put;simp;done)|(unfold Act.eval;simp;done)) rfl r5' (by exact Zc) (by simp only[Zm]) (Zv _) ?_)
  exact Vr rfl _ rfl ((r4.setRow (Zd 0)).setRow_far _ (Zd 0) (by omega)) _ rfl (r5'.setRow (Zd 0)) _ rfl 4 _ underlying57 (by exact Zc) (by exact Zc) rfl ⟨by rw[HZ.out.1,HZ.out.2.1,HZ.out.2.2];rfl,Zt (Zt bW (by omega) _) (by omega) _⟩
 ·have HZ:Hid (Ba A B=A/B/\Ri A B=A%B/\TR B=0):=⟨if_neg h0,if_neg h0,if_neg h0⟩
  have HV:Hid (decide (B%2^256=0%2^256)=false):=by
   show _=_
   rw[Nat.mod_eq_of_lt hB];exact decide_eq_false h0
  have hdi:=fun w'=>WO A 0 B w' hA (by omega) hB
  rw[Nat.zero_mul,Nat.zero_add]at hdi;rw[HZ.out.1,HZ.out.2.1,HZ.out.2.2];clear h0 hA hB HZ;generalize A/B=dq at*;generalize A%B=dr at*
  go_enter func187,ntmps187
  go_wp2_with (first
   |refine Zp rfl 57 _ rfl _ rfl ?_
   |refine Zg rfl 57 rfl _ Zo ?_
   |refine Zw rfl 57 rfl _ ZA ?_
   |refine Zj rfl 57 _ rfl _ rfl r2 4 _ underlying57 (by exact Zc) ?_
   |refine Zj rfl 57 _ rfl (w.heap.size+1) (by first|rfl|(unfold Act.eval Act.put;simp;done)|(unfold Act.eval;simp;done)) r3 4 _ underlying57 (by exact Zc) ?_
   |refine ZG rfl (.bool false) ((ZD _ _ _ rfl B 0 rfl rfl _).trans (by rw[HV.out])) ?_)
  generalize (((w.alloc (.cells (Zd A) 57)).alloc (.cells (Zd B) 57)).alloc (.cells (Zd 0) 57)).alloc (.cells (Zd 0) 57)=w1 at*;refine(hdi _).mono ?_;rintro e w3 ⟨rfl,hb2⟩;have hz:=(r5.belowAll hb2).lt;have a5:Row ((w3.alloc (.cells (Zd 0) 57)).alloc (.cells (Zd 0) 57)) w3.heap.size (Zd 0) 57:=(by repeat(first|(refine Row.here ?_;first|(with_reducible rfl)|(simp;done))|refine Row.alloc ?_ _));have a6':Row ((w3.alloc (.cells (Zd 0) 57)).alloc (.cells (Zd 0) 57)) (w3.heap.size+1) (Zd 0) 57:=(by repeat(first|(refine Row.here ?_;first|(with_reducible rfl)|(simp;done))|refine Row.alloc ?_ _));have a6:=a6'.setRow_far w3.heap.size (Zd dq) (by omega);have a9:=a6.setRow (Zd dr);have a8:=(a5.setRow (Zd dq)).setRow_far (w3.heap.size+1) (Zd dr) (by omega);have q4:=((((r4.belowAll hb2).alloc (.cells (Zd 0) 57)).alloc (.cells (Zd 0) 57)).setRow_far w3.heap.size (Zd dq) (by omega)).setRow_far (w3.heap.size+1) (Zd dr) (by omega);have q5:=((((r5.belowAll hb2).alloc (.cells (Zd 0) 57)).alloc (.cells (Zd 0) 57)).setRow_far w3.heap.size (Zd dq) (by omega)).setRow_far (w3.heap.size+1) (Zd dr) (by omega);have b3:=Zk bW (Nat.le_refl _) hb2;have b5:=Zt (Zt ((b3.alloc b3.size (.cells (Zd 0) 57)).alloc (by have:=b3.size;simp;omega) (.cells (Zd 0) 57)) (g:=w3.heap.size) (by omega) (Zd dq)) (g:=w3.heap.size+1) (by omega) (Zd dr);clear r2 r3 r4 r5 bW hb2 a6' b3 hdi
  go_wp2_with (first
   |refine Zg rfl 57 rfl _ Zo ?_
   |refine Zs rfl 57 _ _ rfl _ _ rfl rfl a5 (by exact Zc) (by simp only[Zm]) (Zv _) ?_
   |refine Zs rfl 57 _ _ rfl (w3.heap.size+1) _ (by first|rfl|(unfold Act.eval Act.put;simp;done)|(unfold Act.eval;simp;done)) rfl a6 (by exact Zc) (by simp only[Zm]) (Zv _) ?_)
  simp only[Yw];generalize (((w3.alloc (.cells (Zd 0) 57)).alloc (.cells (Zd 0) 57)).setRow w3.heap.size (Zd dq)).setRow (w3.heap.size+1) (Zd dr)=w4 at*;clear a5 a6;generalize w3.heap.size=g7 at*;apply Zi (by kernel_rfl) [(w.heap.size+1+1,57,Zd 0),(w.heap.size+1+1+1,57,Zd 0)] [_,_,_,_,_] ⟨q4,q5,trivial⟩ (by simp<;>omega)
  ·intro p;refine m_l a8 ?_;simp only[pv];refine m_l a9 ?_;simp only[pv];refine m_p 0 dq ?_;simp only[Act.put];refine m_p 2 dr ?_;simp only[Act.put];refine Ze (.int .i64 0) (fun _=>rfl) ?_;simp only[pv];refine Zf ?_;intro w5 hkw hrw _ _;have s4:Row w5 (w.heap.size+1+1) (Zd dq) 57:=hrw 0 _ rfl;have s5:Row w5 (w.heap.size+1+1+1) (Zd dr) 57:=hrw 2 _ rfl;have hb1:=b5.trans (hkw.below w.heap.size b5.size (by simp<;>omega))
   go_wp2_with fail
   exact Vr rfl _ rfl s4 _ rfl s5 _ rfl 4 _ underlying57 (by exact Zc) (by exact Zc) rfl ⟨rfl,hb1⟩
  ·kernel_rfl
end Go.Proofs.YtnagnkhbamhfmaaGreatDoor
