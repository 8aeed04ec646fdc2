import Derived.Test.YtnagnkhbamhfmaaGreatDoorGN
set_option maxRecDepth 100000
set_option maxHeartbeats 8000000
namespace Go.Proofs.YtnagnkhbamhfmaaGreatDoor
set_option linter.all false
open Go.Proofs.Tryz
open Go.RowKit
structure PartH (wr w:World)(g2 g3 g4 g5 g6 g7 A M Q R:Nat):Prop where
 a:Row wr g2 (ZU A) 206
 m:Row wr g3 (ZU M) 206
 z:Row wr g4 (ZU 0) 206
 z':Row wr g5 (ZU 0) 206
 q:Row wr g6 (ZU Q) 206
 r:Row wr g7 (ZU R) 206
 below:Below w.heap.size w wr
theorem MO (A M:Nat)(w:World)(hA:A<2^256*2^256)(hM:0<M)(hM2:M<2^256):
  Calls prog 174 #[.agg (ZU A),.agg (ZU M)] w fun e w'=>e= .returned (.tuple #[.agg (ZU (A/M)),.agg (ZU (A%M))])/\Below w.heap.size w w':=by
 have HH:Hid (A<2^256*2^256/\0<M/\M<2^256):=⟨hA,hM,hM2⟩;clear hA hM hM2
 go_enter func174,ntmps174
 iterate 2 go_step
 apply Za [] [_,_,_,_] trivial a_
 ·intro p;refine Ya 206 _ rfl _ rfl ?_;simp only[pv];refine Ya 206 _ rfl _ rfl ?_;simp only[pv];refine XP 206 rfl _ X1 ?_;simp only[pv];refine XP 206 rfl _ X1 ?_;simp only[pv];refine Zf ?_;intro w2 hkw hrw hnew hdis;have s0:Row w2 (p 0) (ZU A) 206:=hrw 1 (206,ZU A) rfl;have s1:Row w2 (p 1) (ZU M) 206:=hrw 3 (206,ZU M) rfl;have s2:Row w2 (p 2) (ZU 0) 206:=hrw 5 (206,ZU 0) rfl;have s3:Row w2 (p 3) (ZU 0) 206:=hrw 7 (206,ZU 0) rfl;have l2:=hnew 2 rfl;have l3:=hnew 3 rfl;have l23:=hdis 2 3 (by omega) rfl rfl;have sb:=k_b hkw;clear hkw hrw hnew hdis;generalize p 0=g2 at*;generalize p 1=g3 at*;generalize p 2=g4 at*;generalize p 3=g5 at*;iterate 3 go_step
  apply Za [] [_,_,_,_,_,_] trivial a_
  ·intro p;refine Ze _ (ZE 206 rfl _ Ve) ?_;simp only[pv];refine Ze _ (ZE 206 rfl _ Ve) ?_;simp only[pv];refine XP 206 rfl _ X1 ?_;simp only[pv];refine XP 206 rfl _ X1 ?_;simp only[pv];refine Xc 5 206 _ _ rfl rfl rfl (ZU 0) rfl (by rw[ZF];exact Z0) (by simp only[ZF]) (YU _) ?_;simp only[Act.put];refine Xc 7 206 _ _ rfl rfl rfl (ZU 0) rfl (by rw[ZF];exact Z0) (by simp only[ZF]) (YU _) ?_;simp only[Act.put];refine Zf ?_;intro w3 hkw hrw hnew hdis;have t6:Row w3 (p 2) (ZU 0) 206:=hrw 5 (206,ZU 0) rfl;have t7:Row w3 (p 3) (ZU 0) 206:=hrw 7 (206,ZU 0) rfl;have l6:=hnew 2 rfl;have l7:=hnew 3 rfl;have l67:=hdis 2 3 (by omega) rfl rfl;have H1:PartH w3 w g2 g3 g4 g5 (p 2) (p 3) A M 0 0:=⟨hkw.row s0 (by simp),hkw.row s1 (by simp),hkw.row s2 (by simp),hkw.row s3 (by simp),t6,t7,sb.trans (hkw.below w.heap.size sb.size (by simp))⟩;have k0:=s0.lt;have k1:=s1.lt;have k2:=s2.lt;have k3:=s3.lt;clear hkw hrw hnew hdis s0 s1 s2 s3 sb t6 t7;generalize p 2=g6 at*;generalize p 3=g7 at*
   have HX:Hid (g2<g6/\g2<g7/\g3<g6/\g3<g7/\g4<g6/\g4<g7/\g5<g6/\g5<g7/\g6≠g7/\g4≠g5/\w.heap.size<=g4/\w.heap.size<=g5):=by
    refine⟨?_,?_,?_,?_,?_,?_,?_,?_,l67,l23,l2,l3⟩<;>omega
   clear k0 k1 k2 k3 l2 l3 l23 l6 l7 l67
   go_wp2_with fail
   go_loopg [8] 512 (fun g s8 wr=>s8= .int .i64 ((g:Int)-1)/\g<=512/\PartH wr w g2 g3 g4 g5 g6 g7 A M (pQ A M g) (pR A M g))
   case atStart=>exact⟨rfl,c_ _,by rw[za A M HH.out.1,A9 A M HH.out.1];exact H1⟩
   case round=>
    obtain⟨rfl,hle,hH⟩:=hrel;obtain⟨x1,x2,x3,x4,x5,x6,x7,x8,x9,x10,x11,x12⟩:=HX.out;clear H1 HX
    cases gk with
    |zero=>
     rw[zc,zb]at hH;clear hle;have hx: ¬((0:Int)<= -1):=by omega
     go_wp2;apply Zi (by kernel_rfl) [(g4,206,ZU 0),(g5,206,ZU 0)] [_,_,_,_] ⟨hH.z,hH.z',trivial⟩ (by simp<;>omega)
     ·intro p;refine Xv 206 _ rfl _ rfl hH.q (by simp<;>omega) 32 _ aW0 (by rw[ZF];exact Z0) ?_;simp only[pv];refine Xv 206 _ rfl _ rfl hH.r (by simp<;>omega) 32 _ aW0 (by rw[ZF];exact Z0) ?_;simp only[pv];refine Xc 0 206 _ _ rfl rfl rfl (ZU (A/M)) rfl (by rw[ZF];exact Z0) (by simp only[ZF]) (YU _) ?_;simp only[Act.put];refine Xc 2 206 _ _ rfl rfl rfl (ZU (A%M)) rfl (by rw[ZF];exact Z0) (by simp only[ZF]) (YU _) ?_;simp only[Act.put];refine Zf ?_;intro w7 hkw hrw _ _;have e1:Row w7 g4 (ZU (A/M)) 206:=hrw 0 (206,ZU (A/M)) rfl;have e2:Row w7 g5 (ZU (A%M)) 206:=hrw 2 (206,ZU (A%M)) rfl;have b7:=hH.below.trans (hkw.below w.heap.size hH.below.size (by simp<;>omega));go_wp2;exact Ua rfl _ rfl e1 _ rfl e2 32 _ aW0 (by rw[ZF];exact Z0) (by rw[ZF];exact Z0) rfl ⟨rfl,b7⟩
     ·kernel_rfl
    |succ g=>
     rw[show((g+1:Nat):Int)-1=(g:Int) by omega];obtain⟨hA,hM,hM2⟩:=HH.out;have htw:=fun w'=>KH (pR A M (g+1)) (pB A g) w' (CO A g)
     have hbe:=fun w'=>KK (2*pR A M (g+1)+pB A g) M w' (CS A M g hM hM2) (by have:(2:Nat)^256*1<=2^256*2^256:=R_ _ (by decide);omega)
     have hle':=fun w' (h:M<=2*pR A M (g+1)+pB A g)=>Gr (2*pR A M (g+1)+pB A g) M w' h
     have hgo:=xh A g;have PL:Hid (2*pR A M (g+1)+pB A g<M->pR A M g=2*pR A M (g+1)+pB A g/\pQ A M g=pQ A M (g+1)):=fun h=>zd A M g _ hM rfl h
     have PM:Hid (M<=2*pR A M (g+1)+pB A g->pR A M g=2*pR A M (g+1)+pB A g-M/\pQ A M g=pQ A M (g+1)+2^g):=fun h=>ze A M g _ hM rfl h
     have PS:Hid ((ZU (pQ A M (g+1))).setIfInBounds (g/16) (.int .i64 ((dg (pQ A M (g+1)) (g/16)|||2^(g%16):Nat):Int))=ZU (pQ A M (g+1)+2^g)):=xj _ g;generalize pR A M (g+1)=r0 at*;generalize pQ A M (g+1)=q0 at*;generalize pB A g=b at*;generalize 2*r0+b=r1 at*;have hgl:g<512:=by omega
     clear hA hM2 hM hle;have hg0:(0:Int)<=g:=by omega
     go_wp2;apply Zi (by kernel_rfl) [(g7,206,ZU r0)] [_,_,_,_,_,_,_,_,_,_,_] ⟨hH.r,trivial⟩ (by simp<;>omega)
     ·intro p;refine Yz 0 206 _ rfl rfl rfl 32 _ aW0 (by rw[ZF];exact Z0) ?_;refine m_m ?_;simp only[pv];refine Ze _ (X3 _ _ _ _ rfl g 16 rfl rfl (by omega) (by omega)) ?_;simp only[pv];refine Ze _ (Zt 206 _ _ rfl (g2) rfl (g/16) 32 rfl (by omega) _ aW0 aJ0) ?_;simp only[pv];refine Zs 3 _ rfl _ (g/16) rfl hH.a (by simp<;>omega) (.int .i64 (dg A (g/16):Nat)) (U7 A (g/16) (by omega)) bG0 ?_;refine m_m ?_;simp only[pv];refine Ze _ (YO _ _ _ _ rfl g 16 rfl rfl (by omega)) ?_;simp only[pv];refine Ze _ (Mt _ _ _ _ rfl _ (g%16) rfl rfl (by omega)) ?_;simp only[pv];refine Ze (.int .i64 (b:Nat)) (fun w'=>(WH .and _ _ _ _ (.inl rfl) rfl _ _ rfl rfl w').trans (by rw[hgo])) ?_;simp only[pv];refine m_c 204 func204 #[.agg (ZU r0),.int .i64 b] htw ?_;simp only[pv];refine Xc 0 206 _ _ rfl rfl rfl (ZU r1) rfl (by rw[ZF];exact Z0) (by simp only[ZF]) (YU _) ?_;simp only[Act.put];refine Zf ?_;intro w5 hkw hrw _ _;have e5:Row w5 g7 (ZU r1) 206:=hrw 0 (206,ZU r1) rfl;have H5:PartH w5 w g2 g3 g4 g5 g6 g7 A M q0 r1:=⟨hkw.row hH.a (by simp<;>omega),hkw.row hH.m (by simp<;>omega),hkw.row hH.z (by simp<;>omega),hkw.row hH.z' (by simp<;>omega),hkw.row hH.q (by simp<;>omega),e5,hH.below.trans (hkw.below w.heap.size hH.below.size (by simp<;>omega))⟩;clear hkw hrw hH htw hgo e5;by_cases hc:r1<M
      ·obtain⟨p1,p2⟩:=PL.out hc;rw[d_ hc]at hbe;clear hc PL PM PS hle';iterate 3 go_step
       apply Za [] [_,_,_,_] trivial a_
       ·intro p;refine Xv 206 _ rfl _ rfl H5.r (by simp<;>omega) 32 _ aW0 (by rw[ZF];exact Z0) ?_;simp only[pv];refine Xv 206 _ rfl _ rfl H5.m (by simp<;>omega) 32 _ aW0 (by rw[ZF];exact Z0) ?_;simp only[pv];refine m_c 205 func205 #[.agg (ZU r1),.agg (ZU M)] hbe ?_;simp only[pv];refine Ze (.bool false) (Zz _ _ rfl true rfl) ?_;simp only[pv];refine Zf ?_;intro w6 hkw _ _ _;have H6:PartH w6 w g2 g3 g4 g5 g6 g7 A M q0 r1:=⟨hkw.row H5.a (by simp),hkw.row H5.m (by simp),hkw.row H5.z (by simp),hkw.row H5.z' (by simp),hkw.row H5.q (by simp),hkw.row H5.r (by simp),H5.below.trans (hkw.below w.heap.size H5.below.size (by simp))⟩;clear H5 hkw hbe;go_wp2
        go_roundg g
        case measure=>omega
        case rel=>exact⟨rfl,by omega,by rw[p1,p2];exact H6⟩
       ·rfl
      ·obtain⟨p1,p2⟩:=PM.out (by omega);have hls:=fun w'=>hle' w' (by omega)
       rw[e_ hc]at hbe;clear hc PL PM hle';iterate 3 go_step
       apply Za [] [_,_,_,_] trivial a_
       ·intro p;refine Xv 206 _ rfl _ rfl H5.r (by simp<;>omega) 32 _ aW0 (by rw[ZF];exact Z0) ?_;simp only[pv];refine Xv 206 _ rfl _ rfl H5.m (by simp<;>omega) 32 _ aW0 (by rw[ZF];exact Z0) ?_;simp only[pv];refine m_c 205 func205 #[.agg (ZU r1),.agg (ZU M)] hbe ?_;simp only[pv];refine Ze (.bool true) (Zz _ _ rfl false rfl) ?_;simp only[pv];refine Zf ?_;intro w6 hkw _ _ _;have H6:PartH w6 w g2 g3 g4 g5 g6 g7 A M q0 r1:=⟨hkw.row H5.a (by simp),hkw.row H5.m (by simp),hkw.row H5.z (by simp),hkw.row H5.z' (by simp),hkw.row H5.q (by simp),hkw.row H5.r (by simp),H5.below.trans (hkw.below w.heap.size H5.below.size (by simp))⟩;clear H5 hkw hbe;iterate 4 go_step
        apply Za [(g7,206,ZU r1)] [_,_,_,_] ⟨H6.r,trivial⟩ (by simp<;>omega)
        ·intro p;refine Yz 0 206 _ rfl rfl rfl 32 _ aW0 (by rw[ZF];exact Z0) ?_;simp only[pv];refine Xv 206 _ rfl _ rfl H6.m (by simp<;>omega) 32 _ aW0 (by rw[ZF];exact Z0) ?_;simp only[pv];refine m_c 206 func206 #[.agg (ZU r1),.agg (ZU M)] hls ?_;simp only[pv];refine Xc 0 206 _ _ rfl rfl rfl (ZU (r1-M)) rfl (by rw[ZF];exact Z0) (by simp only[ZF]) (YU _) ?_;simp only[Act.put];refine Zf ?_;intro w8 hkw hrw _ _;have e8:Row w8 g7 (ZU (r1-M)) 206:=hrw 0 (206,ZU (r1-M)) rfl;have H8:PartH w8 w g2 g3 g4 g5 g6 g7 A M q0 (r1-M):=⟨hkw.row H6.a (by simp<;>omega),hkw.row H6.m (by simp<;>omega),hkw.row H6.z (by simp<;>omega),hkw.row H6.z' (by simp<;>omega),hkw.row H6.q (by simp<;>omega),e8,H6.below.trans (hkw.below w.heap.size H6.below.size (by simp<;>omega))⟩;clear H6 hkw hrw hls e8;iterate 2 go_step
         apply Zi (by kernel_rfl) [(g6,206,ZU q0)] [_,_,_,_,_,_,_,_,_,_,_,_] ⟨H8.q,trivial⟩ (by simp<;>omega)
         ·intro p;refine m_m ?_;simp only[pv];refine Ze _ (X3 _ _ _ _ rfl g 16 rfl rfl (by omega) (by omega)) ?_;refine m_m ?_;simp only[pv];refine Ze _ (X3 _ _ _ _ rfl g 16 rfl rfl (by omega) (by omega)) ?_;simp only[pv];refine Ze _ (Zt 206 _ _ rfl (g6) rfl (g/16) 32 rfl (by omega) _ aW0 aJ0) ?_;simp only[pv];refine YY 0 3 _ rfl (g/16) rfl rfl (.int .i64 (dg q0 (g/16):Nat)) (U7 q0 (g/16) (by omega)) bG0 ?_;refine m_m ?_;simp only[pv];refine Ze _ (YO _ _ _ _ rfl g 16 rfl rfl (by omega)) ?_;simp only[pv];refine Ze _ (Mu _ _ _ _ rfl 1 (g%16) rfl rfl (by omega)) ?_;simp only[pv];refine Ze (.int .i64 ((dg q0 (g/16)|||2^(g%16):Nat):Int)) (fun w'=>(WH .or _ _ _ _ (.inr rfl) rfl _ _ rfl rfl w').trans (by rw[wL _ _ (RD _ _)])) ?_;simp only[pv];refine Ze _ (Zt 206 _ _ rfl (g6) rfl (g/16) 32 rfl (by omega) _ aW0 aJ0) ?_;simp only[pv];refine Xk 0 3 _ _ rfl (g/16) rfl rfl .i64 (((dg q0 (g/16)|||2^(g%16):Nat):Int)) rfl aJ0 (by rw[ZF];omega) (ZU (q0+2^g)) PS.out ?_;simp only[Act.put];refine Zf ?_;intro w9 hkw hrw _ _;have e9:Row w9 g6 (ZU (q0+2^g)) 206:=hrw 0 (206,ZU (q0+2^g)) rfl;have H9:PartH w9 w g2 g3 g4 g5 g6 g7 A M (q0+2^g) (r1-M):=⟨hkw.row H8.a (by simp<;>omega),hkw.row H8.m (by simp<;>omega),hkw.row H8.z (by simp<;>omega),hkw.row H8.z' (by simp<;>omega),e9,hkw.row H8.r (by simp<;>omega),H8.below.trans (hkw.below w.heap.size H8.below.size (by simp<;>omega))⟩;clear hkw hrw H8 e9 PS;go_wp2
          go_roundg g
          case measure=>omega
          case rel=>exact⟨rfl,by omega,by rw[p1,p2];exact H9⟩
         ·kernel_rfl
        ·rfl
       ·rfl
     ·kernel_rfl
  ·rfl
 ·rfl
theorem Gv {M:Nat}(h:M=0):decide (M%2^256=0%2^256)=true:=by subst h;rfl
theorem KL {M:Nat}(h:M≠0)(hM:M<2^256):decide (M%2^256=0%2^256)=false:=by
 rw[g_ hM];exact e_ (by simp;omega)
theorem KM (A B M:Nat)(w:World)(hM:M=0):
  Calls prog 133 #[.agg (Zc A),.agg (Zc B),.agg (Zc M)] w fun e w'=>e= .returned (.tuple #[.agg (Zc 0),.int .i64 1])/\Below w.heap.size w w':=by
 have HV:Hid (decide (M%2^256=0%2^256)=true):=Gv hM;clear hM
 go_enter func133,ntmps133
 iterate 2 go_step
 apply Za [] [_,_,_,_,_] trivial a_
 ·intro p;refine Ya 57 _ rfl _ rfl ?_;simp only[pv];refine Ya 57 _ rfl _ rfl ?_;simp only[pv];refine Ya 57 _ rfl _ rfl ?_;simp only[pv];refine m_n ?_;simp only[pv];refine Ze (.int .i64 0) (fun _=>rfl) ?_;simp only[pv];refine Zf ?_;intro w2 hkw hrw hnew hdis;have n3:=hnew 0 rfl;have n4:=hnew 1 rfl;have n5:=hnew 2 rfl;have n6:=hnew 3 rfl;have zr3:Row w2 (p 0) (Zc A) 57:=hrw 1 (57,Zc A) rfl;have zr4:Row w2 (p 1) (Zc B) 57:=hrw 3 (57,Zc B) rfl;have zr5:Row w2 (p 2) (Zc M) 57:=hrw 5 (57,Zc M) rfl;have zr6:Row w2 (p 3) (Zc 0) 57:=hrw 7 (57,Zc 0) rfl;have d3x4:=hdis 0 1 (by omega) rfl rfl;have d3x5:=hdis 0 2 (by omega) rfl rfl;have d3x6:=hdis 0 3 (by omega) rfl rfl;have d4x5:=hdis 1 2 (by omega) rfl rfl;have d4x6:=hdis 1 3 (by omega) rfl rfl;have d5x6:=hdis 2 3 (by omega) rfl rfl;have sb:=k_b hkw;have b3:w.heap.size<=p 0:=n3;have b4:w.heap.size<=p 1:=n4;have b5:w.heap.size<=p 2:=n5;have b6:w.heap.size<=p 3:=n6;clear hkw hrw hnew hdis n3 n4 n5 n6;generalize p 0=g3 at*;generalize p 1=g4 at*;generalize p 2=g5 at*;generalize p 3=g6 at*;have r3:=zr3;clear zr3;have r4:=zr4;clear zr4;have r5:=zr5;clear zr5;have r6:=zr6;clear zr6;iterate 4 go_step
  apply Za [] [_,_,_] trivial a_
  ·intro p;refine m_l r5 ?_;simp only[pv];refine Ze _ (ZE 57 rfl _ ZA) ?_;simp only[pv];refine Ze (.bool true) (fun w'=>(ZG _ _ _ rfl M 0 rfl rfl w').trans (by rw[HV.out])) ?_;simp only[pv];refine Zf ?_;intro w3 hkw hrw hnew hdis;replace r6:=hkw.ro r6;replace sb:=kk sb hkw;clear hkw hrw hnew hdis;iterate 4 go_step
   apply Za [(g6,57,Zc 0)] [_,_,_] ⟨r6,trivial⟩ (by simp<;>omega)
   ·intro p;refine Ze _ (ZE 57 rfl _ ZA) ?_;simp only[pv];refine m_p 0 0 ?_;simp only[Act.put];refine Ze (.int .i64 1) (fun _=>rfl) ?_;simp only[pv];refine Zf ?_;intro w4 hkw hrw hnew hdis;have zr6:Row w4 (g6) (Zc 0) 57:=hrw 0 (57,Zc 0) rfl;replace sb:=kk sb hkw;clear hkw hrw hnew hdis r6;have r6:=zr6;clear zr6;go_wp2;exact Z9 rfl _ rfl r6 4 _ b_ (by exact Zd) rfl _ rfl ⟨rfl,sb⟩
   ·rfl
  ·rfl
 ·rfl
theorem KN (A B M:Nat)(w:World)(hA:A<2^256)(hB:B<2^256)(h0:0<M)(hM:M<2^256):
  Calls prog 133 #[.agg (Zc A),.agg (Zc B),.agg (Zc M)] w fun e w'=>e= .returned (.tuple #[.agg (Zc ((A+2^256*B)%M)),.int .i64 0])/\Below w.heap.size w w':=by
 have HV:Hid (decide (M%2^256=0%2^256)=false):=KL (by omega) hM
 have hN:A+2^256*B<2^256*2^256:=by
  have:=R_ (2^256) (show B<=2^256-1 by omega);omega
 have hoA:=fun w'=>KG A B w' hA
 have hoM:=fun w'=>KG M 0 w' hM
 rw[bE0,cC0]at hoM;have hpa:=fun w'=>MO (A+2^256*B) M w' hN h0 hM
 have hna:=fun w'=>Gs ((A+2^256*B)%M) w'
 clear hA hB h0 hM hN;generalize A+2^256*B=N at*;generalize N%M/2^256=T at*;generalize N%M=R at*;generalize N/M=Q at*
 go_enter func133,ntmps133
 iterate 2 go_step
 apply Za [] [_,_,_,_,_] trivial a_
 ·intro p;refine Ya 57 _ rfl _ rfl ?_;simp only[pv];refine Ya 57 _ rfl _ rfl ?_;simp only[pv];refine Ya 57 _ rfl _ rfl ?_;simp only[pv];refine m_n ?_;simp only[pv];refine Ze (.int .i64 0) (fun _=>rfl) ?_;simp only[pv];refine Zf ?_;intro w2 hkw hrw hnew hdis;have n3:=hnew 0 rfl;have n4:=hnew 1 rfl;have n5:=hnew 2 rfl;have n6:=hnew 3 rfl;have zr3:Row w2 (p 0) (Zc A) 57:=hrw 1 (57,Zc A) rfl;have zr4:Row w2 (p 1) (Zc B) 57:=hrw 3 (57,Zc B) rfl;have zr5:Row w2 (p 2) (Zc M) 57:=hrw 5 (57,Zc M) rfl;have zr6:Row w2 (p 3) (Zc 0) 57:=hrw 7 (57,Zc 0) rfl;have d3x4:=hdis 0 1 (by omega) rfl rfl;have d3x5:=hdis 0 2 (by omega) rfl rfl;have d3x6:=hdis 0 3 (by omega) rfl rfl;have d4x5:=hdis 1 2 (by omega) rfl rfl;have d4x6:=hdis 1 3 (by omega) rfl rfl;have d5x6:=hdis 2 3 (by omega) rfl rfl;have sb:=k_b hkw;have b3:w.heap.size<=p 0:=n3;have b4:w.heap.size<=p 1:=n4;have b5:w.heap.size<=p 2:=n5;have b6:w.heap.size<=p 3:=n6;clear hkw hrw hnew hdis n3 n4 n5 n6;generalize p 0=g3 at*;generalize p 1=g4 at*;generalize p 2=g5 at*;generalize p 3=g6 at*;have r3:=zr3;clear zr3;have r4:=zr4;clear zr4;have r5:=zr5;clear zr5;have r6:=zr6;clear zr6;iterate 4 go_step
  apply Za [] [_,_,_] trivial a_
  ·intro p;refine m_l r5 ?_;simp only[pv];refine Ze _ (ZE 57 rfl _ ZA) ?_;simp only[pv];refine Ze (.bool false) (fun w'=>(ZG _ _ _ rfl M 0 rfl rfl w').trans (by rw[HV.out])) ?_;simp only[pv];refine Zf ?_;intro w3 hkw hrw hnew hdis;replace r3:=hkw.ro r3;replace r4:=hkw.ro r4;replace r5:=hkw.ro r5;replace r6:=hkw.ro r6;replace sb:=kk sb hkw;clear hkw hrw hnew hdis;iterate 7 go_step
   apply Zi (by kernel_rfl) [] [_,_,_,_,_,_,_,_,_,_,_,_,_,_] trivial a_
   ·intro p;refine m_l r3 ?_;simp only[pv];refine m_l r4 ?_;simp only[pv];refine m_c 175 func175 #[.agg (Zc A),.agg (Zc B)] hoA ?_;simp only[pv];refine m_l r5 ?_;simp only[pv];refine Ze _ (ZE 57 rfl _ ZA) ?_;simp only[pv];refine m_c 175 func175 #[.agg (Zc M),.agg (Zc 0)] hoM ?_;simp only[pv];refine m_c 174 func174 #[.agg (ZU N),.agg (ZU M)] hpa ?_;refine m_m ?_;refine m_e ?_;refine m_e ?_;simp only[pv];refine XP 206 rfl _ X1 ?_;simp only[pv];refine XP 206 rfl _ X1 ?_;simp only[pv];refine Xc 21 206 _ _ rfl rfl rfl (ZU Q) rfl (by rw[ZF];exact Z0) (by simp only[ZF]) (YU _) ?_;simp only[Act.put];refine Xc 23 206 _ _ rfl rfl rfl (ZU R) rfl (by rw[ZF];exact Z0) (by simp only[ZF]) (YU _) ?_;simp only[Act.put];refine Zf ?_;intro w4 hkw hrw hnew hdis;have n8:=hnew 10 rfl;have n9:=hnew 11 rfl;have zr8:Row w4 (p 10) (ZU Q) 206:=hrw 21 (206,ZU Q) rfl;have zr9:Row w4 (p 11) (ZU R) 206:=hrw 23 (206,ZU R) rfl;have d6x8:=l_l r6.lt n8;have d6x9:=l_l r6.lt n9;have d8x9:=hdis 10 11 (by omega) rfl rfl;replace r6:=hkw.ro r6;have b8:=f_ sb.size n8;have b9:=f_ sb.size n9;replace sb:=kk sb hkw;clear hkw hrw hnew hdis n8 n9;generalize p 10=g8 at*;generalize p 11=g9 at*;have r8:=zr8;clear zr8;have r9:=zr9;clear zr9;iterate 3 go_step
    apply Za [] [_,_,_,_,_,_,_,_,_] trivial a_
    ·intro p;refine Xv 206 _ rfl _ rfl r9 (by simp<;>omega) 32 _ aW0 (by rw[ZF];exact Z0) ?_;simp only[pv];refine m_c 176 func176 #[.agg (ZU R)] hna ?_;refine m_m ?_;refine m_e ?_;refine m_e ?_;simp only[pv];refine m_n ?_;simp only[pv];refine m_n ?_;simp only[pv];refine m_p 11 R ?_;simp only[Act.put];refine m_p 13 T ?_;simp only[Act.put];refine Zf ?_;intro w5 hkw hrw hnew hdis;have n10:=hnew 5 rfl;have n11:=hnew 6 rfl;have zr10:Row w5 (p 5) (Zc R) 57:=hrw 11 (57,Zc R) rfl;have zr11:Row w5 (p 6) (Zc T) 57:=hrw 13 (57,Zc T) rfl;have d6x10:=l_l r6.lt n10;have d6x11:=l_l r6.lt n11;have d10x11:=hdis 5 6 (by omega) rfl rfl;replace r6:=hkw.ro r6;have b10:=f_ sb.size n10;have b11:=f_ sb.size n11;replace sb:=kk sb hkw;clear hkw hrw hnew hdis n10 n11;generalize p 5=g10 at*;generalize p 6=g11 at*;have r10:=zr10;clear zr10;have r11:=zr11;clear zr11;iterate 3 go_step
     apply Za [(g6,57,Zc 0)] [_,_,_] ⟨r6,trivial⟩ (by simp<;>omega)
     ·intro p;refine m_l r10 ?_;simp only[pv];refine m_p 0 R ?_;simp only[Act.put];refine Ze (.int .i64 0) (fun _=>rfl) ?_;simp only[pv];refine Zf ?_;intro w6 hkw hrw hnew hdis;have zr6:Row w6 (g6) (Zc R) 57:=hrw 0 (57,Zc R) rfl;replace sb:=kk sb hkw;clear hkw hrw hnew hdis r6;have r6:=zr6;clear zr6;go_wp2;exact Z9 rfl _ rfl r6 4 _ b_ (by exact Zd) rfl _ rfl ⟨rfl,sb⟩
     ·rfl
    ·rfl
   ·kernel_rfl
  ·rfl
 ·rfl
theorem Gw (A B M:Nat)(w:World)(hA:A<2^256)(hB:B<2^256)(hM:M<2^256):
  Calls prog 133 #[.agg (Zc A),.agg (Zc B),.agg (Zc M)] w (Rt (.tuple #[.agg (Zc (Sx (B*2^256+A) M)),.int .i64 (U6 M)]) w):=by
 unfold Sx U6;rcases aK0 M with h0|h0
 ·rw[j_ h0,j_ h0];exact KM A B M w h0
 ·rw[i_ (by omega),i_ (by omega),show B*2^256+A=A+2^256*B by omega];exact KN A B M w hA hB h0 hM
def Eu (i x y:Nat):Prop:=i=0∨(y<x/\x*y*2^i<2*(2^256*2^256))
structure GcdH (wr w:World)(g4 g5 g6 x y:Nat):Prop where
 z:Row wr g4 (Zc 0) 57
 x:Row wr g5 (Zc x) 57
 y:Row wr g6 (Zc y) 57
 below:Below w.heap.size w wr
end Go.Proofs.YtnagnkhbamhfmaaGreatDoor
