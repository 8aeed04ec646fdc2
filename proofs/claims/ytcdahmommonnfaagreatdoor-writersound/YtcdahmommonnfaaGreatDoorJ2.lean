import Derived.Laws.Bits64b
import Derived.Test.YtcdahmommonnfaaGreatDoorGH
set_option maxRecDepth 100000
set_option maxHeartbeats 8000000
namespace Go.Proofs.YtcdahmommonnfaaGreatDoor
set_option linter.all false
open Go.Proofs.Tryz
def dg (N i:Nat):Nat:=N/2^(16*i)%65536
def AC (f:Nat->Nat):Array Value:=Array.ofFn (n:=32) fun i=>.int .i64 (f i:Nat)
def Mh (N:Nat):Array Value:=AC (dg N)
open Go.RowKit
def ofF (L H k i:Nat):Nat:=if i<k then dg L i else if 16<=i/\i<16+k then dg H (i-16)else 0
def tw (A c k:Nat):Nat:=(2*(A%2^(16*k))+c)/2^(16*k)
def putD (U m d:Nat):Nat:=U%2^(16*m)+2^(16*m)*(d+65536*(U/2^(16*m)/65536))
def Sm (A B i k U c:Nat):Prop:=U+2^(16*(i+k))*c=A%2^(16*i)*B+dg A i*(B%2^(16*k))*2^(16*i)/\U<2^(16*(i+16))/\c<65536
structure MulH (wr w:World)(g6 g7 g8 A B V:Nat):Prop where
 r4:Row wr (w.heap.size+1+1) (Zc 0) 39
 r5:Row wr (w.heap.size+1+1+1) (Zc 0) 39
 x:Row wr g6 (Mh A) 286
 y:Row wr g7 (Mh B) 286
 o:Row wr g8 (Mh V) 286
 below:Below w.heap.size w wr
theorem MulH.set {wr w:World}{g6 g7 g8 A B V V':Nat}(h:MulH wr w g6 g7 g8 A B V)(i:Nat)(v:Value)(hv:(Mh V).setIfInBounds i v=Mh V')(h6:g6≠g8)(h7:g7≠g8)(h8:w.heap.size+1+1+1<g8):
  MulH (wr.setCell ⟨g8,i,none⟩ v) w g6 g7 g8 A B V':=
 ⟨h.r4.setCell_far _ _ _ (by omega),h.r5.setCell_far _ _ _ (by omega),h.x.setCell_far _ _ _ h6,h.y.setCell_far _ _ _ h7,hv▸h.o.setCell i v,Z3 h.below (by omega) _ _⟩
def pR (A M g:Nat):Nat:=A/2^g%M
def pQ (A M g:Nat):Nat:=2^g*(A/2^g/M)
def pB (A g:Nat):Nat:=A/2^g%2
def Dc (A B:Nat):Nat:=if B=0 then 0 else A/B
theorem Jr (A B:Nat)(w:World)(hA:A<2^256)(hB:B<2^256):
  Calls prog 170 #[.agg (Zc A),.agg (Zc B)] w fun e w'=>e= .returned (.tuple #[.agg (Zc (Dc A B)),.agg (Zc (So A B)),.int .i64 (RJ B)])/\Below w.heap.size w w':=by
 have r2:Row ((((w.alloc (.cells (Zc A) 39)).alloc (.cells (Zc B) 39)).alloc (.cells (Zc 0) 39)).alloc (.cells (Zc 0) 39)) w.heap.size (Zc A) 39:=(by repeat(first|(refine Row.here ?_;first|(with_reducible rfl)|(simp;done))|refine Row.alloc ?_ _));have r3:Row ((((w.alloc (.cells (Zc A) 39)).alloc (.cells (Zc B) 39)).alloc (.cells (Zc 0) 39)).alloc (.cells (Zc 0) 39)) (w.heap.size+1) (Zc B) 39:=(by repeat(first|(refine Row.here ?_;first|(with_reducible rfl)|(simp;done))|refine Row.alloc ?_ _));have r4:Row ((((w.alloc (.cells (Zc A) 39)).alloc (.cells (Zc B) 39)).alloc (.cells (Zc 0) 39)).alloc (.cells (Zc 0) 39)) (w.heap.size+1+1) (Zc 0) 39:=(by repeat(first|(refine Row.here ?_;first|(with_reducible rfl)|(simp;done))|refine Row.alloc ?_ _));have r5:Row ((((w.alloc (.cells (Zc A) 39)).alloc (.cells (Zc B) 39)).alloc (.cells (Zc 0) 39)).alloc (.cells (Zc 0) 39)) (w.heap.size+1+1+1) (Zc 0) 39:=(by repeat(first|(refine Row.here ?_;first|(with_reducible rfl)|(simp;done))|refine Row.alloc ?_ _));have bW:Below w.heap.size w ((((w.alloc (.cells (Zc A) 39)).alloc (.cells (Zc B) 39)).alloc (.cells (Zc 0) 39)).alloc (.cells (Zc 0) 39)):=(by repeat(first|exact Below.refl _ _|refine Below.alloc ?_ (by simp<;>omega) _));by_cases h0:B=0
 ·have HZ:Hid (Dc A B=0/\So A B=0/\RJ B=1):=⟨if_pos h0,if_pos h0,if_pos h0⟩
  have HV:Hid (decide (B%2^256=0%2^256)=true):=by show _=_;rw[h0];rfl
  clear h0 hA hB;have r5':=r5.setRow_far (w.heap.size+1+1) (Zc 0) (by omega)
  go_enter func170,ntmps170
  go_wp2_with (first
   |refine Zr rfl 39 _ rfl _ rfl ?_
   |refine Zj rfl 39 rfl _ Zv ?_
   |refine ZL rfl 39 rfl _ ZO ?_
   |refine Zh rfl 39 _ rfl (w.heap.size+1) (by first|rfl|(unfold Act.eval Act.put;simp;done)|(unfold Act.eval;simp;done)) r3 4 _ underlying39 (by exact Ze) ?_
   |refine ZK rfl (.bool true) ((ZZ _ _ _ rfl B 0 rfl rfl _).trans (by rw[HV.out])) ?_
   |refine Zw rfl 39 _ _ rfl _ _ rfl rfl r4 (by exact Ze) (by simp only[Zt]) (ZA _) ?_
   |refine Zw rfl 39 _ _ rfl (w.heap.size+1+1+1) _ (by first|rfl|(unfold Act.eval Act.put;simp;done)|(unfold Act.eval;simp;done)) rfl r5' (by exact Ze) (by simp only[Zt]) (ZA _) ?_)
  exact Vk rfl _ rfl ((r4.setRow (Zc 0)).setRow_far _ (Zc 0) (by omega)) _ rfl (r5'.setRow (Zc 0)) _ rfl 4 _ underlying39 (by exact Ze) (by exact Ze) rfl ⟨by rw[HZ.out.1,HZ.out.2.1,HZ.out.2.2];rfl,Zy (Zy bW (by omega) _) (by omega) _⟩
 ·have HZ:Hid (Dc A B=A/B/\So A B=A%B/\RJ B=0):=⟨if_neg h0,if_neg h0,if_neg h0⟩
  have HV:Hid (decide (B%2^256=0%2^256)=false):=by
   show _=_
   rw[Nat.mod_eq_of_lt hB];exact decide_eq_false h0
  have hdi:=fun w'=>VG A 0 B w' hA (by omega) hB
  rw[Nat.zero_mul,Nat.zero_add]at hdi;rw[HZ.out.1,HZ.out.2.1,HZ.out.2.2];clear h0 hA hB HZ;generalize A/B=dq at*;generalize A%B=dr at*
  go_enter func170,ntmps170
  go_wp2_with (first
   |refine Zr rfl 39 _ rfl _ rfl ?_
   |refine Zj rfl 39 rfl _ Zv ?_
   |refine ZL rfl 39 rfl _ ZO ?_
   |refine Zh rfl 39 _ rfl _ rfl r2 4 _ underlying39 (by exact Ze) ?_
   |refine Zh rfl 39 _ rfl (w.heap.size+1) (by first|rfl|(unfold Act.eval Act.put;simp;done)|(unfold Act.eval;simp;done)) r3 4 _ underlying39 (by exact Ze) ?_
   |refine ZK rfl (.bool false) ((ZZ _ _ _ rfl B 0 rfl rfl _).trans (by rw[HV.out])) ?_)
  generalize (((w.alloc (.cells (Zc A) 39)).alloc (.cells (Zc B) 39)).alloc (.cells (Zc 0) 39)).alloc (.cells (Zc 0) 39)=w1 at*;refine(hdi _).mono ?_;rintro e w3 ⟨rfl,hb2⟩;have hz:=(r5.belowAll hb2).lt;have a5:Row ((w3.alloc (.cells (Zc 0) 39)).alloc (.cells (Zc 0) 39)) w3.heap.size (Zc 0) 39:=(by repeat(first|(refine Row.here ?_;first|(with_reducible rfl)|(simp;done))|refine Row.alloc ?_ _));have a6':Row ((w3.alloc (.cells (Zc 0) 39)).alloc (.cells (Zc 0) 39)) (w3.heap.size+1) (Zc 0) 39:=(by repeat(first|(refine Row.here ?_;first|(with_reducible rfl)|(simp;done))|refine Row.alloc ?_ _));have a6:=a6'.setRow_far w3.heap.size (Zc dq) (by omega);have a9:=a6.setRow (Zc dr);have a8:=(a5.setRow (Zc dq)).setRow_far (w3.heap.size+1) (Zc dr) (by omega);have q4:=((((r4.belowAll hb2).alloc (.cells (Zc 0) 39)).alloc (.cells (Zc 0) 39)).setRow_far w3.heap.size (Zc dq) (by omega)).setRow_far (w3.heap.size+1) (Zc dr) (by omega);have q5:=((((r5.belowAll hb2).alloc (.cells (Zc 0) 39)).alloc (.cells (Zc 0) 39)).setRow_far w3.heap.size (Zc dq) (by omega)).setRow_far (w3.heap.size+1) (Zc dr) (by omega);have b3:=Zk bW (Nat.le_refl _) hb2;have b5:=Zy (Zy ((b3.alloc b3.size (.cells (Zc 0) 39)).alloc (by have:=b3.size;simp;omega) (.cells (Zc 0) 39)) (g:=w3.heap.size) (by omega) (Zc dq)) (g:=w3.heap.size+1) (by omega) (Zc dr);clear r2 r3 r4 r5 bW hb2 a6' b3 hdi
  go_wp2_with (first
   |refine Zj rfl 39 rfl _ Zv ?_
   |refine Zw rfl 39 _ _ rfl _ _ rfl rfl a5 (by exact Ze) (by simp only[Zt]) (ZA _) ?_
   |refine Zw rfl 39 _ _ rfl (w3.heap.size+1) _ (by first|rfl|(unfold Act.eval Act.put;simp;done)|(unfold Act.eval;simp;done)) rfl a6 (by exact Ze) (by simp only[Zt]) (ZA _) ?_)
  simp only[YF];generalize (((w3.alloc (.cells (Zc 0) 39)).alloc (.cells (Zc 0) 39)).setRow w3.heap.size (Zc dq)).setRow (w3.heap.size+1) (Zc dr)=w4 at*;clear a5 a6;generalize w3.heap.size=g7 at*;apply Zo (by kernel_rfl) [(w.heap.size+1+1,39,Zc 0),(w.heap.size+1+1+1,39,Zc 0)] [_,_,_,_,_] ⟨q4,q5,trivial⟩ (by simp<;>omega)
  ·intro p;refine m_l a8 ?_;simp only[pv];refine m_l a9 ?_;simp only[pv];refine m_p 0 dq ?_;simp only[Act.put];refine m_p 2 dr ?_;simp only[Act.put];refine Zg (.int .i64 0) (fun _=>rfl) ?_;simp only[pv];refine Zi ?_;intro w5 hkw hrw _ _;have s4:Row w5 (w.heap.size+1+1) (Zc dq) 39:=hrw 0 _ rfl;have s5:Row w5 (w.heap.size+1+1+1) (Zc dr) 39:=hrw 2 _ rfl;have hb1:=b5.trans (hkw.below w.heap.size b5.size (by simp<;>omega))
   go_wp2_with fail
   exact Vk rfl _ rfl s4 _ rfl s5 _ rfl 4 _ underlying39 (by exact Ze) (by exact Ze) rfl ⟨rfl,hb1⟩
  ·kernel_rfl
end Go.Proofs.YtcdahmommonnfaaGreatDoor
