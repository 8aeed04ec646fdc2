import Derived.Test.YtnagnkhbamhfmaaGreatDoorGT
set_option maxRecDepth 100000
set_option maxHeartbeats 8000000
namespace Go.Proofs.YtnagnkhbamhfmaaGreatDoor
set_option linter.all false
open Go.Proofs.Tryz
open Go.RowKit
def Nob (w:World)(v:Option Addr):Prop:=v=none∨ ∃g,v=some ⟨g,0,none⟩/\Row w g (rgC 0 0 0 0) 160
theorem Nob.below {w w':World}{v:Option Addr}(h:Nob w v)(hb:Below w.heap.size w w'):Nob w' v:=h.imp id fun⟨g,h1,h2⟩=>⟨g,h1,h2.belowAll hb⟩
theorem Nob.on {w w':World}{v:Option Addr}(h:Nob w v)(hk:Kept [] w w'):Nob w' v:=h.imp id fun⟨g,h1,h2⟩=>⟨g,h1,hk.row h2 (by simp)⟩
theorem Nw (v:Option Addr)(w:World)(h:Nob w v):
  Calls prog 158 #[.pointer v] w fun e w'=>e= .returned (.bool false)/\Below w.heap.size w w':=by
 obtain rfl|⟨g0,rfl,r0⟩:=h
 ·go_enter hY0,ntmps158
  iterate 2 go_step
  apply Za [] [_] trivial a_
  ·intro p;refine Ze (.bool false) (fun _=>rfl) ?_;simp only[pv];refine Zf ?_;intro w2 hkw hrw hnew hdis;have sb:=k_b hkw;clear hkw hrw hnew hdis;iterate 3 go_step
   refine ZB ?_;refine q_m ?_;simp only[pv];refine q_v _ (YK 68 _ _ _ rfl none rfl rfl Rx) ?_;refine q_m ?_;simp only[pv];refine ZI (by rfl) ?_;simp only[pv];refine ZI (by rfl) ?_;simp only[pv];refine ZI (by rfl) ?_;simp only[pv];refine ZI (by rfl) ?_;simp only[pv];refine ZI (by rfl) ?_;simp only[pv];refine ZI (by rfl) ?_;refine q_p false (.bool false) ?_;refine q_a ?_;simp only[pv];refine ZR ?_;intro w3 hqb;replace sb:=b_o sb hqb;clear hqb;go_wp2;go_ret;exact⟨rfl,sb⟩
  ·rfl
 ·go_enter hY0,ntmps158
  iterate 2 go_step
  apply Za [] [_] trivial a_
  ·intro p;refine Ze (.bool false) (fun _=>rfl) ?_;simp only[pv];refine Zf ?_;intro w2 hkw hrw hnew hdis;replace r0:=hkw.ro r0;have sb:=k_b hkw;clear hkw hrw hnew hdis;iterate 3 go_step
   refine ZB ?_;refine q_m ?_;simp only[pv];refine q_v _ (YK 68 _ _ _ rfl (some ⟨g0,0,none⟩) rfl rfl Rx) ?_;refine q_m ?_;refine q_m ?_;simp only[pv];refine q_v (.pointer (some ⟨g0,0,none⟩)) (Yf _ rfl g0 0 rfl) ?_;simp only[pv];refine q_v _ (Zh 160 _ 0 rfl g0 0 rfl _ dA0 _ rfl 3 bJ0) ?_;simp only[pv];refine YJ (by rfl) 57 _ rfl _ (0) rfl r0 (Zc 0) (AY 0 0 0 0) _ b_ rfl Zd ?_;simp only[pv];refine q_v _ (ZE 57 rfl _ ZA) ?_;simp only[pv];refine q_v (.bool false) (fun w'=>(Z5 _ _ _ rfl 0 0 rfl rfl w').trans (by rw[d_ rfl];rfl)) ?_;refine q_p true (.bool false) ?_;refine q_a ?_;simp only[pv];refine ZR ?_;intro w3 hqb;replace sb:=b_o sb hqb;clear hqb;go_wp2;go_ret;exact⟨rfl,sb⟩
  ·rfl
theorem zx (v:Option Addr)(A B:Nat)(w:World)(h:Nob w v):
  Calls prog 144 #[.pointer v,.agg (Zc A),.agg (Zc B)] w fun e w'=>e= .returned (.agg (Zc 0))/\Below w.heap.size w w':=by
 have hgi:=fun w' (hb:Below w.heap.size w w')=>Nw v w' (h.below hb)
 clear h
 go_enter func144,ntmps144
 iterate 2 go_step
 apply Za [] [_,_,_] trivial a_
 ·intro p;refine Ya 57 _ rfl _ rfl ?_;simp only[pv];refine Ya 57 _ rfl _ rfl ?_;simp only[pv];refine m_n ?_;simp only[pv];refine Zf ?_;intro w2 hkw hrw hnew hdis;have n4:=hnew 0 rfl;have n5:=hnew 1 rfl;have n6:=hnew 2 rfl;have zr4:Row w2 (p 0) (Zc A) 57:=hrw 1 (57,Zc A) rfl;have zr5:Row w2 (p 1) (Zc B) 57:=hrw 3 (57,Zc B) rfl;have zr6:Row w2 (p 2) (Zc 0) 57:=hrw 5 (57,Zc 0) rfl;have sb:=k_b hkw;have b6:w.heap.size<=p 2:=n6;clear hkw hrw hnew hdis n4 n5 n6;generalize p 0=g4 at*;generalize p 1=g5 at*;generalize p 2=g6 at*;clear zr4;clear zr5;have r6:=zr6;clear zr6;iterate 4 go_step
  apply Za [] [_,_,_] trivial a_
  ·intro p;refine m_m ?_;simp only[pv];refine m_k 158 hY0 #[.pointer v] (fun w' hk=>hgi w' (sb.trans (hk.below w.heap.size sb.size (by simp)))) ?_;simp only[pv];refine Ze _ (Zz _ _ rfl false rfl) ?_;simp only[pv];refine Zf ?_;intro w3 hkw hrw hnew hdis;replace r6:=hkw.ro r6;replace sb:=kk sb hkw;clear hkw hrw hnew hdis;iterate 4 go_step
   apply Za [(g6,57,Zc 0)] [_,_] ⟨r6,trivial⟩ (by simp<;>omega)
   ·intro p;refine Ze _ (ZE 57 rfl _ ZA) ?_;simp only[pv];refine m_p 0 0 ?_;simp only[Act.put];refine Zf ?_;intro w4 hkw hrw hnew hdis;have zr6:Row w4 (g6) (Zc 0) 57:=hrw 0 (57,Zc 0) rfl;replace sb:=kk sb hkw;clear hkw hrw hnew hdis r6;have r6:=zr6;clear zr6;go_wp2;exact ZM rfl _ rfl r6 4 _ b_ (by exact Zd) rfl ⟨rfl,sb⟩
   ·rfl
  ·rfl
 ·rfl
theorem in_no (v:Option Addr)(A:Nat)(w:World)(h:Nob w v):
  Calls prog 128 #[.pointer v,.agg (Zc A)] w fun e w'=>e= .returned (.bool false)/\Below w.heap.size w w':=by
 have hgi:=fun w' (hb:Below w.heap.size w w')=>Nw v w' (h.below hb)
 clear h
 go_enter func128,ntmps128
 repeat((fail_if_success with_reducible apply rg);go_step)
 apply Za [] [_,_] trivial a_
 ·intro p;refine Ya 57 _ rfl _ rfl ?_;simp only[pv];refine Ze (.bool false) (fun _=>rfl) ?_;simp only[pv];refine Zf ?_;intro w2 hkw hrw hnew hdis;have n3:=hnew 0 rfl;have zr3:Row w2 (p 0) (Zc A) 57:=hrw 1 (57,Zc A) rfl;have sb:=k_b hkw;have b3:w.heap.size<=p 0:=n3;clear hkw hrw hnew hdis n3;generalize p 0=g3 at*;have r3:=zr3;clear zr3;repeat((fail_if_success with_reducible apply rg);go_step)
  refine ZD (by kernel_rfl) (by kernel_rfl) ?_;refine q_m ?_;simp only[pv];refine q_k 158 hY0 #[.pointer v] (fun w' hb=>hgi w' (Zk sb (c_ _) hb)) ?_;refine q_m ?_;simp only[pv];refine ZI (by rfl) ?_;simp only[pv];refine ZI (by rfl) ?_;simp only[pv];refine ZI (by rfl) ?_;simp only[pv];refine ZI (by rfl) ?_;simp only[pv];refine ZI (by rfl) ?_;simp only[pv];refine ZI (by rfl) ?_;simp only[pv];refine ZI (by rfl) ?_;refine q_p false (.bool false) ?_;refine q_a ?_;simp only[pv];refine ZR ?_;intro w3 hqb;replace sb:=b_o sb hqb;clear hqb;go_wp2;go_ret;exact⟨rfl,sb⟩
 ·rfl
structure Held (wr w:World)(g3 g4 g6 g7 g8 g9 g10 M L S b f:Nat):Prop where
 m:Row wr g3 (Zc M) 57
 z:Row wr g4 (Zc 0) 57
 one:Row wr g6 (Zc 1) 57
 l:Row wr g7 (Zc L) 57
 s:Row wr g8 (Zc S) 57
 b:Row wr g9 (Zc b) 57
 f:Row wr g10 (Zc f) 57
 below:Below w.heap.size w wr
theorem Nx {S X:Nat}(h:S≠X)(hS:S<2^256)(hX:X<2^256):(!decide (S%2^256=X%2^256))=true:=by
 rw[g_ hS,g_ hX,e_ h];rfl
theorem TP {S X:Nat}(h:S≠X)(hS:S<2^256)(hX:X<2^256):decide (S%2^256=X%2^256)=false:=by
 rw[g_ hS,g_ hX,e_ h]
set_option maxHeartbeats 4000000 in
theorem Jk (A M:Nat)(w:World)(hA:A<2^256)(hM:M<2^256)(h2:2<=M):
  Calls prog 183 #[.agg (Zc A),.agg (Zc M)] w fun e w'=>e= .returned (.tuple #[.agg (Zc (Ru A M)),.int .i64 (Cj A M)])/\Below w.heap.size w w':=by
 have hof:=fun w'=>Xl 1 w' (by omega)
 rw[Qu]at hof;have hre:=fun w'=>Xm A M w' hA (by omega) hM
 have HI:Hid (Iv A M M (A%M) 0 1 false):=Nc A M h2;have HM:Hid (M<2^256/\2<=M):=⟨hM,h2⟩;have HV:Hid (decide (M%2^256=0%2^256)=false):=TP (by omega) hM (by decide);have HW:Hid (decide (M%2^256=1%2^256)=false):=TP (by omega) hM (by decide);clear hA hM h2;generalize A%M=R0 at*
 go_enter func183,ntmps183
 iterate 2 go_step
 apply Za [] [_,_,_,_] trivial a_
 ·intro p;refine Ya 57 _ rfl _ rfl ?_;simp only[pv];refine Ya 57 _ rfl _ rfl ?_;simp only[pv];refine m_n ?_;simp only[pv];refine Ze (.int .i64 0) (fun _=>rfl) ?_;simp only[pv];refine Zf ?_;intro w1 hkw hrw hnew hdis;have n2:=hnew 0 rfl;have n3:=hnew 1 rfl;have n4:=hnew 2 rfl;have zr2:Row w1 (p 0) (Zc A) 57:=hrw 1 (57,Zc A) rfl;have zr3:Row w1 (p 1) (Zc M) 57:=hrw 3 (57,Zc M) rfl;have zr4:Row w1 (p 2) (Zc 0) 57:=hrw 5 (57,Zc 0) rfl;have d3x4:=hdis 1 2 (by omega) rfl rfl;have sb:=k_b hkw;have b4:w.heap.size<=p 2:=n4;clear hkw hrw hnew hdis n2 n3 n4;generalize p 0=g2 at*;generalize p 1=g3 at*;generalize p 2=g4 at*;have r2:=zr2;clear zr2;have r3:=zr3;clear zr3;have r4:=zr4;clear zr4;iterate 3 go_step
  apply Za [] [_,_,_] trivial a_
  ·intro p;refine m_c 57 gZ0 #[.int .i64 1] hof ?_;simp only[pv];refine m_n ?_;simp only[pv];refine m_p 3 1 ?_;simp only[Act.put];refine Zf ?_;intro w2 hkw hrw hnew hdis;have n6:=hnew 1 rfl;have zr6:Row w2 (p 1) (Zc 1) 57:=hrw 3 (57,Zc 1) rfl;have d4x6:=l_l r4.lt n6;replace r2:=hkw.ro r2;replace r3:=hkw.ro r3;replace r4:=hkw.ro r4;replace sb:=kk sb hkw;clear hkw hrw hnew hdis n6;generalize p 1=g6 at*;have r6:=zr6;clear zr6;clear hof
   go_wp2_with (first
    |refine Zv rfl 57 rfl _ ZA ?_
    |refine Zj rfl 57 _ rfl _ rfl r3 4 _ b_ (by exact Zd) ?_
    |refine Zy rfl (.bool false) ((ZG _ _ _ rfl M 0 rfl rfl _).trans (by rw[HV.out])) ?_
    |refine XX (by rfl) 57 _ rfl _ rfl r3 4 _ b_ (by exact Zd) ?_
    |refine XX (by rfl) 57 _ rfl _ rfl r6 4 _ b_ (by exact Zd) ?_
    |refine Uh (by rfl) (.bool false) ((ZG _ _ _ rfl M 1 rfl rfl _).trans (by rw[HW.out])) ?_)
   clear HV HW;apply Zi (by kernel_rfl) [] [_,_,_,_,_,_,_,_] trivial a_
   ·intro p;refine m_l r3 ?_;simp only[pv];refine m_l r2 ?_;simp only[pv];refine m_l r3 ?_;simp only[pv];refine m_c 156 fZ0 #[.agg (Zc A),.agg (Zc M)] hre ?_;simp only[pv];refine m_n ?_;simp only[pv];refine m_n ?_;simp only[pv];refine m_p 9 M ?_;simp only[Act.put];refine m_p 11 R0 ?_;simp only[Act.put];refine Zf ?_;intro w3 hkw hrw hnew hdis;have n7:=hnew 4 rfl;have n8:=hnew 5 rfl;have zr7:Row w3 (p 4) (Zc M) 57:=hrw 9 (57,Zc M) rfl;have zr8:Row w3 (p 5) (Zc R0) 57:=hrw 11 (57,Zc R0) rfl;have d3x7:=l_l r3.lt n7;have d3x8:=l_l r3.lt n8;have d4x7:=l_l r4.lt n7;have d4x8:=l_l r4.lt n8;have d6x7:=l_l r6.lt n7;have d6x8:=l_l r6.lt n8;have d7x8:=hdis 4 5 (by omega) rfl rfl;replace r3:=hkw.ro r3;replace r4:=hkw.ro r4;replace r6:=hkw.ro r6;have b7:=f_ sb.size n7;have b8:=f_ sb.size n8;replace sb:=kk sb hkw;clear hkw hrw hnew hdis n7 n8;generalize p 4=g7 at*;generalize p 5=g8 at*;have r7:=zr7;clear zr7;have r8:=zr8;clear zr8;clear hre;iterate 3 go_step
    apply Zi (by kernel_rfl) [] [_,_,_,_,_,_] trivial a_
    ·intro p;refine Ze _ (ZE 57 rfl _ ZA) ?_;simp only[pv];refine m_l r6 ?_;simp only[pv];refine m_n ?_;simp only[pv];refine m_n ?_;simp only[pv];refine m_p 5 0 ?_;simp only[Act.put];refine m_p 7 1 ?_;simp only[Act.put];refine Zf ?_;intro w4 hkw hrw hnew hdis;have n9:=hnew 2 rfl;have n10:=hnew 3 rfl;have zr9:Row w4 (p 2) (Zc 0) 57:=hrw 5 (57,Zc 0) rfl;have zr10:Row w4 (p 3) (Zc 1) 57:=hrw 7 (57,Zc 1) rfl;have d3x9:=l_l r3.lt n9;have d3x10:=l_l r3.lt n10;have d4x9:=l_l r4.lt n9;have d4x10:=l_l r4.lt n10;have d6x9:=l_l r6.lt n9;have d6x10:=l_l r6.lt n10;have d7x9:=l_l r7.lt n9;have d7x10:=l_l r7.lt n10;have d8x9:=l_l r8.lt n9;have d8x10:=l_l r8.lt n10;have d9x10:=hdis 2 3 (by omega) rfl rfl;replace r3:=hkw.ro r3;replace r4:=hkw.ro r4;replace r6:=hkw.ro r6;replace r7:=hkw.ro r7;replace r8:=hkw.ro r8;have b9:=f_ sb.size n9;have b10:=f_ sb.size n10;replace sb:=kk sb hkw;clear hkw hrw hnew hdis n9 n10;generalize p 2=g9 at*;generalize p 3=g10 at*;have r9:=zr9;clear zr9;have r10:=zr10;clear zr10;have H0:Held w4 w g3 g4 g6 g7 g8 g9 g10 M M R0 0 1:=⟨r3,r4,r6,r7,r8,r9,r10,sb⟩
     have HX:Hid (w.heap.size<=g4/\g3≠g4/\g4≠g6/\g4≠g7/\g4≠g8/\g4≠g9/\g4≠g10/\g3≠g7/\g3≠g8/\g3≠g9/\g3≠g10/\g6≠g7/\g6≠g8/\g6≠g9/\g6≠g10/\g7≠g8/\g7≠g9/\g7≠g10/\g8≠g9/\g8≠g10/\g9≠g10/\w.heap.size<=g7/\w.heap.size<=g8/\w.heap.size<=g9/\w.heap.size<=g10):=by
      refine⟨b4,d3x4,?_,?_,?_,?_,?_,?_,?_,?_,?_,?_,?_,?_,?_,?_,?_,?_,?_,?_,d9x10,b7,b8,b9,b10⟩<;>omega
     clear r3 r4 r6 r7 r8 r9 r10 sb d3x4 d4x6 d3x7 d4x7 d6x7 d3x8 d4x8 d6x8 d7x8 d3x9 d4x9 d6x9 d7x9 d8x9 d3x10 d4x10 d6x10 d7x10 d8x10 d9x10 b4 b7 b8 b9 b10
     go_wp2_with fail
     go_loopg [11] R0 (fun g s11 wr=> ∃(L S b f:Nat) (neg:Bool),S<=g/\s11= .bool neg/\Iv A M L S b f neg/\Held wr w g3 g4 g6 g7 g8 g9 g10 M L S b f)
     case atStart=>exact⟨M,R0,0,1,false,c_ _,rfl,HI.out,H0⟩
     case round=>
      obtain⟨L,S,b,f,neg,hS,rfl,hI,hH⟩:=hrel;obtain⟨x1,x2,x3,x4,x5,x6,x7,x8,x9,x10,x11,x12,x13,x14,x15,x16,x17,x18,x19,x20,x21,x22,x23,x24,x25⟩:=HX.out;obtain⟨hM,h2⟩:=HM.out
      have hLM:L<=M:=by
       have:=hI.det;have:L*1<=L*f:=R_ _ hI.pos;omega
      have hfM:f<=M:=by
       have:=hI.det;have:=hI.lt;have:1*f<=L*f:=z_ _ (by omega);omega
      have hSL:=hI.lt;have r3:=hH.m;have r4:=hH.z;have r6:=hH.one;have r7:=hH.l;have r8:=hH.s;have r9:=hH.b;have r10:=hH.f;have sb:=hH.below;clear H0 HI HX hH;have hc:S=0∨S=1∨2<=S:=by omega
      rcases hc with hS0|rfl|hS2
      ·-- nothing is left: there is no inverse
       have HZ:Hid (Ru A M=0/\Cj A M=3):=by
        have hg:Nat.gcd A M≠1:=by rw[<-hI.gcd,hS0,hQ0];exact hI.ne
        refine⟨?_,?_⟩
        ·unfold Ru;rw[i_ (by omega),i_ hg]
        ·unfold Cj;rw[i_ (by omega),i_ hg]
       have HV:Hid ((!decide (S%2^256=1%2^256))=true):=Nx (by omega) (by omega) (by decide);have HW:Hid (decide (S%2^256=0%2^256)=true):=(by show _=_;rw[hS0];rfl);clear hI hS hLM hfM hM h2 hS0;iterate 2 go_step
       apply Za [] [_,_,_] trivial a_
       ·intro p;refine m_l r8 ?_;simp only[pv];refine m_l r6 ?_;simp only[pv];refine Ze (.bool true) (fun w'=>(Z5 _ _ _ rfl S 1 rfl rfl w').trans (by rw[HV.out])) ?_;simp only[pv];refine Zf ?_;intro w5 hkw hrw hnew hdis;replace r4:=hkw.ro r4;replace r8:=hkw.ro r8;replace sb:=kk sb hkw;clear hkw hrw hnew hdis;iterate 9 go_step
        apply Za [] [_,_,_] trivial a_
        ·intro p;refine m_l r8 ?_;simp only[pv];refine Ze _ (ZE 57 rfl _ ZA) ?_;simp only[pv];refine Ze (.bool true) (fun w'=>(ZG _ _ _ rfl S 0 rfl rfl w').trans (by rw[HW.out])) ?_;simp only[pv];refine Zf ?_;intro w6 hkw hrw hnew hdis;replace r4:=hkw.ro r4;replace sb:=kk sb hkw;clear hkw hrw hnew hdis;iterate 4 go_step
         apply Za [(g4,57,Zc 0)] [_,_,_] ⟨r4,trivial⟩ (by simp<;>omega)
         ·intro p;refine Ze _ (ZE 57 rfl _ ZA) ?_;simp only[pv];refine m_p 0 0 ?_;simp only[Act.put];refine Ze (.int .i64 3) (fun _=>rfl) ?_;simp only[pv];refine Zf ?_;intro w7 hkw hrw hnew hdis;have zr4:Row w7 (g4) (Zc 0) 57:=hrw 0 (57,Zc 0) rfl;replace sb:=kk sb hkw;clear hkw hrw hnew hdis r4;have r4:=zr4;clear zr4;go_wp2;exact Z9 rfl _ rfl r4 4 _ b_ (by exact Zd) rfl _ rfl ⟨by rw[HZ.out.1,HZ.out.2];rfl,sb⟩
         ·rfl
        ·rfl
       ·rfl
      ·-- one is left
       obtain⟨hfl,hinv⟩:=Kd A M L b f neg h2 hI
       have HZ:Hid (Ru A M=(if neg=true then M-f else f)/\Cj A M=0):=by
        have hg:Nat.gcd A M=1:=by rw[<-hI.gcd,Nat.gcd_one_right]
        refine⟨?_,?_⟩
        ·unfold Ru;rw[i_ (by omega),j_ hg,hinv]
        ·unfold Cj;rw[i_ (by omega),j_ hg]
       have hsu:=fun w'=>XV M f w' (by omega)
       rw[Ck M f hfM hM]at hsu;clear hI hS hLM hfM hM h2 hinv;iterate 2 go_step
       apply Za [] [_,_,_] trivial a_
       ·intro p;refine m_l r8 ?_;simp only[pv];refine m_l r6 ?_;simp only[pv];refine Ze (.bool false) (fun w'=>(Z5 _ _ _ rfl 1 1 rfl rfl w').trans (by simp)) ?_;simp only[pv];refine Zf ?_;intro w5 hkw hrw hnew hdis;replace r3:=hkw.ro r3;replace r4:=hkw.ro r4;replace r10:=hkw.ro r10;replace sb:=kk sb hkw;clear hkw hrw hnew hdis;cases neg
        ·rw[i_ (by decide)]at HZ;clear hsu;iterate 8 go_step
         apply Za [] [_] trivial a_
         ·intro p;refine m_m ?_;simp only[pv];refine Zf ?_;intro w6 hkw hrw hnew hdis;replace r4:=hkw.ro r4;replace r10:=hkw.ro r10;replace sb:=kk sb hkw;clear hkw hrw hnew hdis;iterate 7 go_step
          apply Za [(g4,57,Zc 0)] [_,_,_] ⟨r4,trivial⟩ (by simp<;>omega)
          ·intro p;refine m_l r10 ?_;simp only[pv];refine m_p 0 f ?_;simp only[Act.put];refine Ze (.int .i64 0) (fun _=>rfl) ?_;simp only[pv];refine Zf ?_;intro w7 hkw hrw hnew hdis;have zr4:Row w7 (g4) (Zc f) 57:=hrw 0 (57,Zc f) rfl;replace sb:=kk sb hkw;clear hkw hrw hnew hdis r4;have r4:=zr4;clear zr4;go_wp2;exact Z9 rfl _ rfl r4 4 _ b_ (by exact Zd) rfl _ rfl ⟨by rw[HZ.out.1,HZ.out.2];rfl,sb⟩
          ·rfl
         ·rfl
        ·rw[j_ rfl]at HZ;generalize bN M f 256=bo at*;iterate 8 go_step
         apply Za [] [_] trivial a_
         ·intro p;refine m_m ?_;simp only[pv];refine Zf ?_;intro w6 hkw hrw hnew hdis;replace r3:=hkw.ro r3;replace r4:=hkw.ro r4;replace r10:=hkw.ro r10;replace sb:=kk sb hkw;clear hkw hrw hnew hdis;iterate 3 go_step
          apply Za [(g10,57,Zc f)] [_,_,_,_,_,_,_] ⟨r10,trivial⟩ (by simp<;>omega)
          ·intro p;refine m_l r3 ?_;simp only[pv];refine Yz 0 57 _ rfl rfl rfl 4 _ b_ Zd ?_;simp only[pv];refine m_c 154 iO0 #[.agg (Zc M),.agg (Zc f)] hsu ?_;refine m_m ?_;refine m_e ?_;refine m_e ?_;simp only[pv];refine m_p 0 (M-f) ?_;simp only[Act.put];refine Zf ?_;intro w7 hkw hrw hnew hdis;have zr10:Row w7 (g10) (Zc (M-f)) 57:=hrw 0 (57,Zc (M-f)) rfl;replace r4:=hkw.ro r4;replace sb:=kk sb hkw;clear hkw hrw hnew hdis r10;have r10:=zr10;clear zr10;iterate 3 go_step
           apply Za [(g4,57,Zc 0)] [_,_,_] ⟨r4,trivial⟩ (by simp<;>omega)
           ·intro p;refine m_l r10 ?_;simp only[pv];refine m_p 0 (M-f) ?_;simp only[Act.put];refine Ze (.int .i64 0) (fun _=>rfl) ?_;simp only[pv];refine Zf ?_;intro w8 hkw hrw hnew hdis;have zr4:Row w8 (g4) (Zc (M-f)) 57:=hrw 0 (57,Zc (M-f)) rfl;replace sb:=kk sb hkw;clear hkw hrw hnew hdis r4;have r4:=zr4;clear zr4;go_wp2;exact Z9 rfl _ rfl r4 4 _ b_ (by exact Zd) rfl _ rfl ⟨by rw[HZ.out.1,HZ.out.2];rfl,sb⟩
           ·rfl
          ·rfl
         ·rfl
       ·rfl
      ·cases gk with
       |zero=>omega
       |succ g=>
        have hN:=Kc A M L S b f neg hI (by omega) (by omega);have hlt:=m_ L (show 0<S by omega);have hdi:=fun w'=>Vs L 0 S w' (by omega) (by omega) (by omega)
        rw[cD0,B_]at hdi;have hql:L/S<2^256:=T_ (bP0 _ _) (by omega);have hmu:=fun w'=>U3 (L/S) f w' hql (by omega)
        have had:=fun w'=>Uc b (L/S*f) w'
        have HV:Hid ((!decide (S%2^256=1%2^256))=true):=Nx (by omega) (by omega) (by decide);have HW:Hid (decide (S%2^256=0%2^256)=false):=TP (by omega) (by omega) (by decide);have HN:Hid (Iv A M S (L%S) f (b+L/S*f) (!neg)/\L%S<=g):=⟨hN,by omega⟩;clear hN hlt hSL hql hI hS hS2 hLM hfM hM h2;generalize L/S*f/2^256=ph at*;generalize L/S*f=ps at*;generalize b+ps=nx at*;generalize L/S=dq at*;generalize L%S=dr at*;generalize cN b ps 256=cc at*;iterate 2 go_step
        apply Za [] [_,_,_] trivial a_
        ·intro p;refine m_l r8 ?_;simp only[pv];refine m_l r6 ?_;simp only[pv];refine Ze (.bool true) (fun w'=>(Z5 _ _ _ rfl S 1 rfl rfl w').trans (by rw[HV.out])) ?_;simp only[pv];refine Zf ?_;intro w5 hkw hrw hnew hdis;replace r3:=hkw.ro r3;replace r4:=hkw.ro r4;replace r6:=hkw.ro r6;replace r7:=hkw.ro r7;replace r8:=hkw.ro r8;replace r9:=hkw.ro r9;replace r10:=hkw.ro r10;replace sb:=kk sb hkw;clear hkw hrw hnew hdis;iterate 9 go_step
         apply Za [] [_,_,_] trivial a_
         ·intro p;refine m_l r8 ?_;simp only[pv];refine Ze _ (ZE 57 rfl _ ZA) ?_;simp only[pv];refine Ze (.bool false) (fun w'=>(ZG _ _ _ rfl S 0 rfl rfl w').trans (by rw[HW.out])) ?_;simp only[pv];refine Zf ?_;intro w6 hkw hrw hnew hdis;replace r3:=hkw.ro r3;replace r4:=hkw.ro r4;replace r6:=hkw.ro r6;replace r7:=hkw.ro r7;replace r8:=hkw.ro r8;replace r9:=hkw.ro r9;replace r10:=hkw.ro r10;replace sb:=kk sb hkw;clear hkw hrw hnew hdis;iterate 7 go_step
          apply Za [] [_,_,_,_,_,_,_,_,_,_,_] trivial a_
          ·intro p;refine m_l r7 ?_;simp only[pv];refine Ze _ (ZE 57 rfl _ ZA) ?_;simp only[pv];refine m_l r8 ?_;simp only[pv];refine m_c 155 func155 #[.agg (Zc L),.agg (Zc 0),.agg (Zc S)] hdi ?_;refine m_m ?_;refine m_e ?_;refine m_e ?_;simp only[pv];refine m_n ?_;simp only[pv];refine m_n ?_;simp only[pv];refine m_p 15 dq ?_;simp only[Act.put];refine m_p 17 dr ?_;simp only[Act.put];refine Zf ?_;intro w7 hkw hrw hnew hdis;have n12:=hnew 7 rfl;have n13:=hnew 8 rfl;have zr12:Row w7 (p 7) (Zc dq) 57:=hrw 15 (57,Zc dq) rfl;have zr13:Row w7 (p 8) (Zc dr) 57:=hrw 17 (57,Zc dr) rfl;have d7x13:=l_l r7.lt n13;have d8x13:=l_l r8.lt n13;have d12x13:=hdis 7 8 (by omega) rfl rfl;replace r3:=hkw.ro r3;replace r4:=hkw.ro r4;replace r6:=hkw.ro r6;replace r7:=hkw.ro r7;replace r8:=hkw.ro r8;replace r9:=hkw.ro r9;replace r10:=hkw.ro r10;replace sb:=kk sb hkw;clear hkw hrw hnew hdis n12 n13;generalize p 7=g12 at*;generalize p 8=g13 at*;have r12:=zr12;clear zr12;have r13:=zr13;clear zr13;iterate 3 go_step
           apply Za [] [_,_,_,_,_,_,_,_,_,_] trivial a_
           ·intro p;refine m_l r12 ?_;simp only[pv];refine m_l r10 ?_;simp only[pv];refine m_c 157 func157 #[.agg (Zc dq),.agg (Zc f)] hmu ?_;refine m_m ?_;refine m_e ?_;refine m_e ?_;simp only[pv];refine m_n ?_;simp only[pv];refine m_n ?_;simp only[pv];refine m_p 13 ps ?_;simp only[Act.put];refine m_p 15 ph ?_;simp only[Act.put];refine Zf ?_;intro w8 hkw hrw hnew hdis;have zr14:Row w8 (p 6) (Zc ps) 57:=hrw 13 (57,Zc ps) rfl;have zr15:Row w8 (p 7) (Zc ph) 57:=hrw 15 (57,Zc ph) rfl;replace r3:=hkw.ro r3;replace r4:=hkw.ro r4;replace r6:=hkw.ro r6;replace r7:=hkw.ro r7;replace r8:=hkw.ro r8;replace r9:=hkw.ro r9;replace r10:=hkw.ro r10;replace r13:=hkw.ro r13;replace sb:=kk sb hkw;clear hkw hrw hnew hdis;generalize p 6=g14 at*;generalize p 7=g15 at*;have r14:=zr14;clear zr14;clear zr15;iterate 3 go_step
            apply Za [] [_,_,_,_,_,_,_,_,_] trivial a_
            ·intro p;refine m_l r9 ?_;simp only[pv];refine m_l r14 ?_;simp only[pv];refine m_c 184 func184 #[.agg (Zc b),.agg (Zc ps)] had ?_;refine m_m ?_;refine m_e ?_;refine m_e ?_;simp only[pv];refine m_n ?_;simp only[pv];refine m_p 13 nx ?_;simp only[Act.put];refine m_a ?_;simp only[pv];refine Zf ?_;intro w9 hkw hrw hnew hdis;have n16:=hnew 6 rfl;have zr16:Row w9 (p 6) (Zc nx) 57:=hrw 13 (57,Zc nx) rfl;have d7x16:=l_l r7.lt n16;have d8x16:=l_l r8.lt n16;have d9x16:=l_l r9.lt n16;have d10x16:=l_l r10.lt n16;replace r3:=hkw.ro r3;replace r4:=hkw.ro r4;replace r6:=hkw.ro r6;replace r7:=hkw.ro r7;replace r8:=hkw.ro r8;replace r9:=hkw.ro r9;replace r10:=hkw.ro r10;replace r13:=hkw.ro r13;replace sb:=kk sb hkw;clear hkw hrw hnew hdis n16;generalize p 6=g16 at*;have r16:=zr16;clear zr16;iterate 3 go_step
             apply Zi (by kernel_rfl) [(g7,57,Zc L),(g8,57,Zc S)] [_,_,_,_] ⟨r7,r8,trivial⟩ (by simp<;>omega)
             ·intro p;refine Yz 2 57 _ rfl rfl rfl 4 _ b_ Zd ?_;simp only[pv];refine m_l r13 ?_;simp only[pv];refine m_p 0 S ?_;simp only[Act.put];refine m_p 2 dr ?_;simp only[Act.put];refine Zf ?_;intro w10 hkw hrw hnew hdis;have zr7:Row w10 (g7) (Zc S) 57:=hrw 0 (57,Zc S) rfl;have zr8:Row w10 (g8) (Zc dr) 57:=hrw 2 (57,Zc dr) rfl;replace r3:=hkw.ro r3;replace r4:=hkw.ro r4;replace r6:=hkw.ro r6;replace r9:=hkw.ro r9;replace r10:=hkw.ro r10;replace r16:=hkw.ro r16;replace sb:=kk sb hkw;clear hkw hrw hnew hdis r7 r8;have r7:=zr7;clear zr7;have r8:=zr8;clear zr8;iterate 3 go_step
              apply Zi (by kernel_rfl) [(g9,57,Zc b),(g10,57,Zc f)] [_,_,_,_] ⟨r9,r10,trivial⟩ (by simp<;>omega)
              ·intro p;refine Yz 2 57 _ rfl rfl rfl 4 _ b_ Zd ?_;simp only[pv];refine m_l r16 ?_;simp only[pv];refine m_p 0 f ?_;simp only[Act.put];refine m_p 2 nx ?_;simp only[Act.put];refine Zf ?_;intro w11 hkw hrw hnew hdis;have zr9:Row w11 (g9) (Zc f) 57:=hrw 0 (57,Zc f) rfl;have zr10:Row w11 (g10) (Zc nx) 57:=hrw 2 (57,Zc nx) rfl;replace r3:=hkw.ro r3;replace r4:=hkw.ro r4;replace r6:=hkw.ro r6;replace r7:=hkw.ro r7;replace r8:=hkw.ro r8;replace sb:=kk sb hkw;clear hkw hrw hnew hdis r9 r10;have r9:=zr9;clear zr9;have r10:=zr10;clear zr10;have H9:Held w11 w g3 g4 g6 g7 g8 g9 g10 M S dr f nx:=⟨r3,r4,r6,r7,r8,r9,r10,sb⟩;clear r3 r4 r6 r7 r8 r9 r10 sb;go_wp2
               go_roundg g
               case measure=>omega
               case rel=>exact⟨S,dr,f,nx,!neg,HN.out.2,by first|rfl|simp,HN.out.1,H9⟩
              ·kernel_rfl
             ·kernel_rfl
            ·rfl
           ·rfl
          ·rfl
         ·rfl
        ·rfl
    ·kernel_rfl
   ·kernel_rfl
  ·rfl
 ·rfl
theorem GQ (A M:Nat)(w:World)(hA:A<2^256)(hM:M<2^256):
  Calls prog 183 #[.agg (Zc A),.agg (Zc M)] w (Rt (.tuple #[.agg (Zc (Ru A M)),.int .i64 (Cj A M)]) w):=by
 by_cases h2:M<2
 ·unfold Ru Cj;rw[j_ h2,j_ h2];exact Ht A M w h2
 ·exact Jk A M w hA hM (by omega)
end Go.Proofs.YtnagnkhbamhfmaaGreatDoor
