import Derived.Test.YtighhihgmkcabaaGreatGN
set_option maxRecDepth 100000
set_option maxHeartbeats 2000000
namespace Go.Proofs.YtighhihgmkcabaaGreat
set_option linter.unusedVariables false
open Go.RowKit
structure PartH (wr w:World)(g2 g3 g4 g5 g6 g7 A M Q R:Nat):Prop where
 a:Row wr g2 (digC A) 119
 m:Row wr g3 (digC M) 119
 z:Row wr g4 (digC 0) 119
 z':Row wr g5 (digC 0) 119
 q:Row wr g6 (digC Q) 119
 r:Row wr g7 (digC R) 119
 below:Below w.heap.size w wr
theorem parted_any (A M:Nat)(w:World)(hA:A<2^256*2^256)(hM:0<M)(hM2:M<2^256):
  Calls Tryz.prog 85 #[.agg (digC A),.agg (digC M)] w fun e w'=>e= .returned (.tuple #[.agg (digC (A/M)),.agg (digC (A%M))])/\Below w.heap.size w w':=by
 have HH:Hid (A<2^256*2^256/\0<M/\M<2^256):=⟨hA,hM,hM2⟩
 clear hA hM hM2
 go_enter Tryz.func85,Tryz.ntmps85
 iterate 2 go_step
 apply wp_region_mixp [] [_,_,_,_] trivial List.nodup_nil
 ·intro p;refine mx_box 119 _ rfl _ rfl ?_;simp only[pv];refine mx_box 119 _ rfl _ rfl ?_;simp only[pv];refine mx_new 119 rfl _ zero_dig ?_;simp only[pv];refine mx_new 119 rfl _ zero_dig ?_;simp only[pv];refine mx_end ?_;intro w2 hkw hrw hnew hdis
  have s0:Row w2 (p 0) (digC A) 119:=hrw 1 (119,digC A) rfl
  have s1:Row w2 (p 1) (digC M) 119:=hrw 3 (119,digC M) rfl
  have s2:Row w2 (p 2) (digC 0) 119:=hrw 5 (119,digC 0) rfl
  have s3:Row w2 (p 3) (digC 0) 119:=hrw 7 (119,digC 0) rfl
  have l2:=hnew 2 rfl
  have l3:=hnew 3 rfl
  have l23:=hdis 2 3 (by omega) rfl rfl
  have sb:=k_b hkw
  clear hkw hrw hnew hdis
  generalize p 0=g2 at*
  generalize p 1=g3 at*
  generalize p 2=g4 at*
  generalize p 3=g5 at*
  iterate 3 go_step
  apply wp_region_mixp [] [_,_,_,_,_,_] trivial List.nodup_nil
  ·intro p;refine mx_val (.agg (digC 0)) (exec_build0 119 rfl _ built_dig) ?_;simp only[pv];refine mx_val (.agg (digC 0)) (exec_build0 119 rfl _ built_dig) ?_;simp only[pv];refine mx_new 119 rfl _ zero_dig ?_;simp only[pv];refine mx_new 119 rfl _ zero_dig ?_;simp only[pv];refine mx_put 5 119 _ _ rfl rfl rfl (digC 0) rfl (by rw[digC_size];exact size_dig) (by simp only[digC_size]) (digC_one _) ?_;simp only[Act.put];refine mx_put 7 119 _ _ rfl rfl rfl (digC 0) rfl (by rw[digC_size];exact size_dig) (by simp only[digC_size]) (digC_one _) ?_;simp only[Act.put];refine mx_end ?_;intro w3 hkw hrw hnew hdis
   have t6:Row w3 (p 2) (digC 0) 119:=hrw 5 (119,digC 0) rfl
   have t7:Row w3 (p 3) (digC 0) 119:=hrw 7 (119,digC 0) rfl
   have l6:=hnew 2 rfl
   have l7:=hnew 3 rfl
   have l67:=hdis 2 3 (by omega) rfl rfl
   have H1:PartH w3 w g2 g3 g4 g5 (p 2) (p 3) A M 0 0:=⟨hkw.row s0 (by simp),hkw.row s1 (by simp),hkw.row s2 (by simp),hkw.row s3 (by simp),t6,t7,sb.trans (hkw.below w.heap.size sb.size (by simp))⟩
   have k0:=s0.lt
   have k1:=s1.lt
   have k2:=s2.lt
   have k3:=s3.lt
   clear hkw hrw hnew hdis s0 s1 s2 s3 sb t6 t7
   generalize p 2=g6 at*
   generalize p 3=g7 at*
   have HX:Hid (g2<g6/\g2<g7/\g3<g6/\g3<g7/\g4<g6/\g4<g7/\g5<g6/\g5<g7/\g6≠g7/\g4≠g5/\w.heap.size<=g4/\w.heap.size<=g5):=by
    refine⟨?_,?_,?_,?_,?_,?_,?_,?_,l67,l23,l2,l3⟩<;>omega
   clear k0 k1 k2 k3 l2 l3 l23 l6 l7 l67
   go_wp2_with fail
   go_loopg [8] 512 (fun g s8 wr=>s8= .int .i64 ((g:Int)-1)/\g<=512/\PartH wr w g2 g3 g4 g5 g6 g7 A M (pQ A M g) (pR A M g))
   case atStart=>exact⟨rfl,Nat.le_refl _,by rw[pQ_far A M HH.out.1,pR_far A M HH.out.1];exact H1⟩
   case round=>
    obtain⟨rfl,hle,hH⟩:=hrel
    obtain⟨x1,x2,x3,x4,x5,x6,x7,x8,x9,x10,x11,x12⟩:=HX.out
    clear H1 HX
    cases gk with
    |zero=>
     rw[pQ_end,pR_end]at hH
     clear hle
     have hx: ¬((0:Int)<= -1):=by omega
     go_wp2
     apply wp_region_mix (by kernel_rfl) [(g4,119,digC 0),(g5,119,digC 0)] [_,_,_,_] ⟨hH.z,hH.z',trivial⟩ (by simp<;>omega)
     ·intro p;refine mx_load 119 _ rfl _ rfl hH.q (by simp<;>omega) 32 _ Tryz.underlying119 (by rw[digC_size];exact size_dig) ?_;simp only[pv];refine mx_load 119 _ rfl _ rfl hH.r (by simp<;>omega) 32 _ Tryz.underlying119 (by rw[digC_size];exact size_dig) ?_;simp only[pv];refine mx_put 0 119 _ _ rfl rfl rfl (digC (A/M)) rfl (by rw[digC_size];exact size_dig) (by simp only[digC_size]) (digC_one _) ?_;simp only[Act.put];refine mx_put 2 119 _ _ rfl rfl rfl (digC (A%M)) rfl (by rw[digC_size];exact size_dig) (by simp only[digC_size]) (digC_one _) ?_;simp only[Act.put];refine mx_end ?_;intro w7 hkw hrw _ _
      have e1:Row w7 g4 (digC (A/M)) 119:=hrw 0 (119,digC (A/M)) rfl
      have e2:Row w7 g5 (digC (A%M)) 119:=hrw 2 (119,digC (A%M)) rfl
      have b7:=hH.below.trans (hkw.below w.heap.size hH.below.size (by simp<;>omega))
      go_wp2
      exact ret_rows2 rfl _ rfl e1 _ rfl e2 32 _ Tryz.underlying119 (by rw[digC_size];exact size_dig) (by rw[digC_size];exact size_dig) rfl ⟨rfl,b7⟩
     ·kernel_rfl
    |succ g=>
     rw[show((g+1:Nat):Int)-1=(g:Int) by omega]
     obtain⟨hA,hM,hM2⟩:=HH.out
     have htw:=fun w'=>twice_any (pR A M (g+1)) (pB A g) w' (pB_le A g)
     have hbe:=fun w'=>below_any (2*pR A M (g+1)+pB A g) M w' (p_bound A M g hM hM2) (by have:(2:Nat)^256*1<=2^256*2^256:=Nat.mul_le_mul_left _ (by decide);omega)
     have hle':=fun w' (h:M<=2*pR A M (g+1)+pB A g)=>less_any (2*pR A M (g+1)+pB A g) M w' h
     have hgo:=pB_go A g
     have PL:Hid (2*pR A M (g+1)+pB A g<M->pR A M g=2*pR A M (g+1)+pB A g/\pQ A M g=pQ A M (g+1)):=fun h=>p_less A M g _ hM rfl h
     have PM:Hid (M<=2*pR A M (g+1)+pB A g->pR A M g=2*pR A M (g+1)+pB A g-M/\pQ A M g=pQ A M (g+1)+2^g):=fun h=>p_more A M g _ hM rfl h
     have PS:Hid ((digC (pQ A M (g+1))).setIfInBounds (g/16) (.int .i64 ((dg (pQ A M (g+1)) (g/16)|||2^(g%16):Nat):Int))=digC (pQ A M (g+1)+2^g)):=p_set _ g
     generalize pR A M (g+1)=r0 at*
     generalize pQ A M (g+1)=q0 at*
     generalize pB A g=b at*
     generalize 2*r0+b=r1 at*
     have hgl:g<512:=by omega
     clear hA hM2 hM hle
     have hg0:(0:Int)<=g:=by omega
     go_wp2
     apply wp_region_mix (by kernel_rfl) [(g7,119,digC r0)] [_,_,_,_,_,_,_,_,_,_,_] ⟨hH.r,trivial⟩ (by simp<;>omega)
     ·intro p;refine mx_loadT 0 119 _ rfl rfl rfl 32 _ Tryz.underlying119 (by rw[digC_size];exact size_dig) ?_;refine m_m ?_;simp only[pv];refine mx_val (.int .i64 ((g/16:Nat):Int)) (exec_quo_i _ _ _ _ rfl g 16 rfl rfl (by omega) (by omega)) ?_;simp only[pv];refine mx_val (.pointer (some ⟨g2,g/16,none⟩)) (exec_index 119 _ _ rfl (g2) rfl (g/16) 32 rfl (by omega) _ Tryz.underlying119 Tryz.sizeOf3) ?_;simp only[pv];refine mx_loadc 3 _ rfl _ (g/16) rfl hH.a (by simp<;>omega) (.int .i64 (dg A (g/16):Nat)) (digC_get A (g/16) (by omega)) Tryz.isAgg3 ?_;refine m_m ?_;simp only[pv];refine mx_val (.int .i64 ((g%16:Nat):Int)) (exec_rem_i _ _ _ _ rfl g 16 rfl rfl (by omega)) ?_;simp only[pv];refine mx_val (.int .i64 ((dg A (g/16)/2^(g%16):Nat):Int)) (exec_shr_i _ _ _ _ rfl _ (g%16) rfl rfl (by omega)) ?_;simp only[pv];refine mx_val (.int .i64 (b:Nat)) (fun w'=>(exec_bits_i .and _ _ _ _ (.inl rfl) rfl _ _ rfl rfl w').trans (by rw[hgo])) ?_;simp only[pv];refine m_c 115 Tryz.func115 #[.agg (digC r0),.int .i64 b] htw ?_;simp only[pv];refine mx_put 0 119 _ _ rfl rfl rfl (digC r1) rfl (by rw[digC_size];exact size_dig) (by simp only[digC_size]) (digC_one _) ?_;simp only[Act.put];refine mx_end ?_;intro w5 hkw hrw _ _
      have e5:Row w5 g7 (digC r1) 119:=hrw 0 (119,digC r1) rfl
      have H5:PartH w5 w g2 g3 g4 g5 g6 g7 A M q0 r1:=⟨hkw.row hH.a (by simp<;>omega),hkw.row hH.m (by simp<;>omega),hkw.row hH.z (by simp<;>omega),hkw.row hH.z' (by simp<;>omega),hkw.row hH.q (by simp<;>omega),e5,hH.below.trans (hkw.below w.heap.size hH.below.size (by simp<;>omega))⟩
      clear hkw hrw hH htw hgo e5
      by_cases hc:r1<M
      ·obtain⟨p1,p2⟩:=PL.out hc
       rw[decide_eq_true hc]at hbe
       clear hc PL PM PS hle'
       iterate 3 go_step
       apply wp_region_mixp [] [_,_,_,_] trivial List.nodup_nil
       ·intro p;refine mx_load 119 _ rfl _ rfl H5.r (by simp<;>omega) 32 _ Tryz.underlying119 (by rw[digC_size];exact size_dig) ?_;simp only[pv];refine mx_load 119 _ rfl _ rfl H5.m (by simp<;>omega) 32 _ Tryz.underlying119 (by rw[digC_size];exact size_dig) ?_;simp only[pv];refine m_c 116 Tryz.func116 #[.agg (digC r1),.agg (digC M)] hbe ?_;simp only[pv];refine mx_val (.bool false) (exec_not _ _ rfl true rfl) ?_;simp only[pv];refine mx_end ?_;intro w6 hkw _ _ _
        have H6:PartH w6 w g2 g3 g4 g5 g6 g7 A M q0 r1:=⟨hkw.row H5.a (by simp),hkw.row H5.m (by simp),hkw.row H5.z (by simp),hkw.row H5.z' (by simp),hkw.row H5.q (by simp),hkw.row H5.r (by simp),H5.below.trans (hkw.below w.heap.size H5.below.size (by simp))⟩
        clear H5 hkw hbe
        go_wp2
        go_roundg g
        case measure=>omega
        case rel=>exact⟨rfl,by omega,by rw[p1,p2];exact H6⟩
       ·rfl
      ·obtain⟨p1,p2⟩:=PM.out (by omega)
       have hls:=fun w'=>hle' w' (by omega)
       rw[decide_eq_false hc]at hbe
       clear hc PL PM hle'
       iterate 3 go_step
       apply wp_region_mixp [] [_,_,_,_] trivial List.nodup_nil
       ·intro p;refine mx_load 119 _ rfl _ rfl H5.r (by simp<;>omega) 32 _ Tryz.underlying119 (by rw[digC_size];exact size_dig) ?_;simp only[pv];refine mx_load 119 _ rfl _ rfl H5.m (by simp<;>omega) 32 _ Tryz.underlying119 (by rw[digC_size];exact size_dig) ?_;simp only[pv];refine m_c 116 Tryz.func116 #[.agg (digC r1),.agg (digC M)] hbe ?_;simp only[pv];refine mx_val (.bool true) (exec_not _ _ rfl false rfl) ?_;simp only[pv];refine mx_end ?_;intro w6 hkw _ _ _
        have H6:PartH w6 w g2 g3 g4 g5 g6 g7 A M q0 r1:=⟨hkw.row H5.a (by simp),hkw.row H5.m (by simp),hkw.row H5.z (by simp),hkw.row H5.z' (by simp),hkw.row H5.q (by simp),hkw.row H5.r (by simp),H5.below.trans (hkw.below w.heap.size H5.below.size (by simp))⟩
        clear H5 hkw hbe
        iterate 4 go_step
        apply wp_region_mixp [(g7,119,digC r1)] [_,_,_,_] ⟨H6.r,trivial⟩ (by simp<;>omega)
        ·intro p;refine mx_loadT 0 119 _ rfl rfl rfl 32 _ Tryz.underlying119 (by rw[digC_size];exact size_dig) ?_;simp only[pv];refine mx_load 119 _ rfl _ rfl H6.m (by simp<;>omega) 32 _ Tryz.underlying119 (by rw[digC_size];exact size_dig) ?_;simp only[pv];refine m_c 117 Tryz.func117 #[.agg (digC r1),.agg (digC M)] hls ?_;simp only[pv];refine mx_put 0 119 _ _ rfl rfl rfl (digC (r1-M)) rfl (by rw[digC_size];exact size_dig) (by simp only[digC_size]) (digC_one _) ?_;simp only[Act.put];refine mx_end ?_;intro w8 hkw hrw _ _
         have e8:Row w8 g7 (digC (r1-M)) 119:=hrw 0 (119,digC (r1-M)) rfl
         have H8:PartH w8 w g2 g3 g4 g5 g6 g7 A M q0 (r1-M):=⟨hkw.row H6.a (by simp<;>omega),hkw.row H6.m (by simp<;>omega),hkw.row H6.z (by simp<;>omega),hkw.row H6.z' (by simp<;>omega),hkw.row H6.q (by simp<;>omega),e8,H6.below.trans (hkw.below w.heap.size H6.below.size (by simp<;>omega))⟩
         clear H6 hkw hrw hls e8
         iterate 2 go_step
         apply wp_region_mix (by kernel_rfl) [(g6,119,digC q0)] [_,_,_,_,_,_,_,_,_,_,_,_] ⟨H8.q,trivial⟩ (by simp<;>omega)
         ·intro p;refine m_m ?_;simp only[pv];refine mx_val (.int .i64 ((g/16:Nat):Int)) (exec_quo_i _ _ _ _ rfl g 16 rfl rfl (by omega) (by omega)) ?_;refine m_m ?_;simp only[pv];refine mx_val (.int .i64 ((g/16:Nat):Int)) (exec_quo_i _ _ _ _ rfl g 16 rfl rfl (by omega) (by omega)) ?_;simp only[pv];refine mx_val (.pointer (some ⟨g6,g/16,none⟩)) (exec_index 119 _ _ rfl (g6) rfl (g/16) 32 rfl (by omega) _ Tryz.underlying119 Tryz.sizeOf3) ?_;simp only[pv];refine mx_loadcT 0 3 _ rfl (g/16) rfl rfl (.int .i64 (dg q0 (g/16):Nat)) (digC_get q0 (g/16) (by omega)) Tryz.isAgg3 ?_;refine m_m ?_;simp only[pv];refine mx_val (.int .i64 ((g%16:Nat):Int)) (exec_rem_i _ _ _ _ rfl g 16 rfl rfl (by omega)) ?_;simp only[pv];refine mx_val (.int .i64 (IntKind.i64.wrap (((1:Nat):Int)*2^(g%16)))) (exec_shl_i _ _ _ _ rfl 1 (g%16) rfl rfl (by omega)) ?_;simp only[pv];refine mx_val (.int .i64 ((dg q0 (g/16)|||2^(g%16):Nat):Int)) (fun w'=>(exec_bits_i .or _ _ _ _ (.inr rfl) rfl _ _ rfl rfl w').trans (by rw[p_or _ _ (dg_lt _ _)])) ?_;simp only[pv];refine mx_val (.pointer (some ⟨g6,g/16,none⟩)) (exec_index 119 _ _ rfl (g6) rfl (g/16) 32 rfl (by omega) _ Tryz.underlying119 Tryz.sizeOf3) ?_;simp only[pv];refine mx_putc 0 3 _ _ rfl (g/16) rfl rfl .i64 (((dg q0 (g/16)|||2^(g%16):Nat):Int)) rfl Tryz.sizeOf3 (by rw[digC_size];omega) (digC (q0+2^g)) PS.out ?_;simp only[Act.put];refine mx_end ?_;intro w9 hkw hrw _ _
          have e9:Row w9 g6 (digC (q0+2^g)) 119:=hrw 0 (119,digC (q0+2^g)) rfl
          have H9:PartH w9 w g2 g3 g4 g5 g6 g7 A M (q0+2^g) (r1-M):=⟨hkw.row H8.a (by simp<;>omega),hkw.row H8.m (by simp<;>omega),hkw.row H8.z (by simp<;>omega),hkw.row H8.z' (by simp<;>omega),e9,hkw.row H8.r (by simp<;>omega),H8.below.trans (hkw.below w.heap.size H8.below.size (by simp<;>omega))⟩
          clear hkw hrw H8 e9 PS
          go_wp2
          go_roundg g
          case measure=>omega
          case rel=>exact⟨rfl,by omega,by rw[p1,p2];exact H9⟩
         ·kernel_rfl
        ·rfl
       ·rfl
     ·kernel_rfl
  ·rfl
 ·rfl
theorem eqz_true {M:Nat}(h:M=0):decide (M%2^256=0%2^256)=true:=by subst h;rfl
theorem eqz_false {M:Nat}(h:M≠0)(hM:M<2^256):decide (M%2^256=0%2^256)=false:=by
 rw[Nat.mod_eq_of_lt hM]
 exact decide_eq_false (by simp;omega)
theorem rrem_zero (A B M:Nat)(w:World)(hM:M=0):
  Calls Tryz.prog 56 #[.agg (natC A),.agg (natC B),.agg (natC M)] w fun e w'=>e= .returned (.tuple #[.agg (natC 0),.int .i64 1])/\Below w.heap.size w w':=by
 have HV:Hid (decide (M%2^256=0%2^256)=true):=eqz_true hM
 clear hM
 go_enter Tryz.func56,Tryz.ntmps56
 iterate 2 go_step
 apply wp_region_mixp [] [_,_,_,_,_] trivial List.nodup_nil
 ·intro p;refine mx_box 43 _ rfl _ rfl ?_;simp only[pv];refine mx_box 43 _ rfl _ rfl ?_;simp only[pv];refine mx_box 43 _ rfl _ rfl ?_;simp only[pv];refine m_n ?_;simp only[pv];refine mx_val (.int .i64 0) (fun _=>rfl) ?_;simp only[pv];refine mx_end ?_;intro w2 hkw hrw hnew hdis
  have n3:=hnew 0 rfl
  have n4:=hnew 1 rfl
  have n5:=hnew 2 rfl
  have n6:=hnew 3 rfl
  have zr3:Row w2 (p 0) (natC A) 43:=hrw 1 (43,natC A) rfl
  have zr4:Row w2 (p 1) (natC B) 43:=hrw 3 (43,natC B) rfl
  have zr5:Row w2 (p 2) (natC M) 43:=hrw 5 (43,natC M) rfl
  have zr6:Row w2 (p 3) (natC 0) 43:=hrw 7 (43,natC 0) rfl
  have d3x4:=hdis 0 1 (by omega) rfl rfl
  have d3x5:=hdis 0 2 (by omega) rfl rfl
  have d3x6:=hdis 0 3 (by omega) rfl rfl
  have d4x5:=hdis 1 2 (by omega) rfl rfl
  have d4x6:=hdis 1 3 (by omega) rfl rfl
  have d5x6:=hdis 2 3 (by omega) rfl rfl
  have sb:=k_b hkw
  have b3:w.heap.size<=p 0:=n3
  have b4:w.heap.size<=p 1:=n4
  have b5:w.heap.size<=p 2:=n5
  have b6:w.heap.size<=p 3:=n6
  clear hkw hrw hnew hdis n3 n4 n5 n6
  generalize p 0=g3 at*
  generalize p 1=g4 at*
  generalize p 2=g5 at*
  generalize p 3=g6 at*
  have r3:=zr3
  clear zr3
  have r4:=zr4
  clear zr4
  have r5:=zr5
  clear zr5
  have r6:=zr6
  clear zr6
  iterate 4 go_step
  apply wp_region_mixp [] [_,_,_] trivial List.nodup_nil
  ·intro p;refine m_l r5 ?_;simp only[pv];refine mx_val (.agg (natC 0)) (exec_build0 43 rfl _ built_nat) ?_;simp only[pv];refine mx_val (.bool true) (fun w'=>(exec_eql_nat _ _ _ rfl M 0 rfl rfl w').trans (by rw[HV.out])) ?_;simp only[pv];refine mx_end ?_;intro w3 hkw hrw hnew hdis;replace r6:=hkw.ro r6;replace sb:=kk sb hkw;clear hkw hrw hnew hdis
   iterate 4 go_step
   apply wp_region_mixp [(g6,43,natC 0)] [_,_,_] ⟨r6,trivial⟩ (by simp<;>omega)
   ·intro p;refine mx_val (.agg (natC 0)) (exec_build0 43 rfl _ built_nat) ?_;simp only[pv];refine m_p 0 0 ?_;simp only[Act.put];refine mx_val (.int .i64 1) (fun _=>rfl) ?_;simp only[pv];refine mx_end ?_;intro w4 hkw hrw hnew hdis
    have zr6:Row w4 (g6) (natC 0) 43:=hrw 0 (43,natC 0) rfl
    replace sb:=kk sb hkw;clear hkw hrw hnew hdis r6
    have r6:=zr6
    clear zr6
    go_wp2
    exact ret_row2 rfl _ rfl r6 4 _ Tryz.underlying43 (by exact size_nat) rfl _ rfl ⟨rfl,sb⟩
   ·rfl
  ·rfl
 ·rfl
theorem rrem_more (A B M:Nat)(w:World)(hA:A<2^256)(hB:B<2^256)(h0:0<M)(hM:M<2^256):
  Calls Tryz.prog 56 #[.agg (natC A),.agg (natC B),.agg (natC M)] w fun e w'=>e= .returned (.tuple #[.agg (natC ((A+2^256*B)%M)),.int .i64 0])/\Below w.heap.size w w':=by
 have HV:Hid (decide (M%2^256=0%2^256)=false):=eqz_false (by omega) hM
 have hN:A+2^256*B<2^256*2^256:=by
  have:=Nat.mul_le_mul_left (2^256) (show B<=2^256-1 by omega)
  omega
 have hoA:=fun w'=>dof_any A B w' hA
 have hoM:=fun w'=>dof_any M 0 w' hM
 rw[Nat.mul_zero,Nat.add_zero]at hoM
 have hpa:=fun w'=>parted_any (A+2^256*B) M w' hN h0 hM
 have hna:=fun w'=>nats_any ((A+2^256*B)%M) w'
 clear hA hB h0 hM hN
 generalize A+2^256*B=N at*
 generalize N%M/2^256=T at*
 generalize N%M=R at*
 generalize N/M=Q at*
 go_enter Tryz.func56,Tryz.ntmps56
 iterate 2 go_step
 apply wp_region_mixp [] [_,_,_,_,_] trivial List.nodup_nil
 ·intro p;refine mx_box 43 _ rfl _ rfl ?_;simp only[pv];refine mx_box 43 _ rfl _ rfl ?_;simp only[pv];refine mx_box 43 _ rfl _ rfl ?_;simp only[pv];refine m_n ?_;simp only[pv];refine mx_val (.int .i64 0) (fun _=>rfl) ?_;simp only[pv];refine mx_end ?_;intro w2 hkw hrw hnew hdis
  have n3:=hnew 0 rfl
  have n4:=hnew 1 rfl
  have n5:=hnew 2 rfl
  have n6:=hnew 3 rfl
  have zr3:Row w2 (p 0) (natC A) 43:=hrw 1 (43,natC A) rfl
  have zr4:Row w2 (p 1) (natC B) 43:=hrw 3 (43,natC B) rfl
  have zr5:Row w2 (p 2) (natC M) 43:=hrw 5 (43,natC M) rfl
  have zr6:Row w2 (p 3) (natC 0) 43:=hrw 7 (43,natC 0) rfl
  have d3x4:=hdis 0 1 (by omega) rfl rfl
  have d3x5:=hdis 0 2 (by omega) rfl rfl
  have d3x6:=hdis 0 3 (by omega) rfl rfl
  have d4x5:=hdis 1 2 (by omega) rfl rfl
  have d4x6:=hdis 1 3 (by omega) rfl rfl
  have d5x6:=hdis 2 3 (by omega) rfl rfl
  have sb:=k_b hkw
  have b3:w.heap.size<=p 0:=n3
  have b4:w.heap.size<=p 1:=n4
  have b5:w.heap.size<=p 2:=n5
  have b6:w.heap.size<=p 3:=n6
  clear hkw hrw hnew hdis n3 n4 n5 n6
  generalize p 0=g3 at*
  generalize p 1=g4 at*
  generalize p 2=g5 at*
  generalize p 3=g6 at*
  have r3:=zr3
  clear zr3
  have r4:=zr4
  clear zr4
  have r5:=zr5
  clear zr5
  have r6:=zr6
  clear zr6
  iterate 4 go_step
  apply wp_region_mixp [] [_,_,_] trivial List.nodup_nil
  ·intro p;refine m_l r5 ?_;simp only[pv];refine mx_val (.agg (natC 0)) (exec_build0 43 rfl _ built_nat) ?_;simp only[pv];refine mx_val (.bool false) (fun w'=>(exec_eql_nat _ _ _ rfl M 0 rfl rfl w').trans (by rw[HV.out])) ?_;simp only[pv];refine mx_end ?_;intro w3 hkw hrw hnew hdis;replace r3:=hkw.ro r3;replace r4:=hkw.ro r4;replace r5:=hkw.ro r5;replace r6:=hkw.ro r6;replace sb:=kk sb hkw;clear hkw hrw hnew hdis
   iterate 7 go_step
   apply wp_region_mix (by kernel_rfl) [] [_,_,_,_,_,_,_,_,_,_,_,_,_,_] trivial List.nodup_nil
   ·intro p;refine m_l r3 ?_;simp only[pv];refine m_l r4 ?_;simp only[pv];refine m_c 86 Tryz.func86 #[.agg (natC A),.agg (natC B)] hoA ?_;simp only[pv];refine m_l r5 ?_;simp only[pv];refine mx_val (.agg (natC 0)) (exec_build0 43 rfl _ built_nat) ?_;simp only[pv];refine m_c 86 Tryz.func86 #[.agg (natC M),.agg (natC 0)] hoM ?_;simp only[pv];refine m_c 85 Tryz.func85 #[.agg (digC N),.agg (digC M)] hpa ?_;refine m_m ?_;refine m_e ?_;refine m_e ?_;simp only[pv];refine mx_new 119 rfl _ zero_dig ?_;simp only[pv];refine mx_new 119 rfl _ zero_dig ?_;simp only[pv];refine mx_put 21 119 _ _ rfl rfl rfl (digC Q) rfl (by rw[digC_size];exact size_dig) (by simp only[digC_size]) (digC_one _) ?_;simp only[Act.put];refine mx_put 23 119 _ _ rfl rfl rfl (digC R) rfl (by rw[digC_size];exact size_dig) (by simp only[digC_size]) (digC_one _) ?_;simp only[Act.put];refine mx_end ?_;intro w4 hkw hrw hnew hdis
    have n8:=hnew 10 rfl
    have n9:=hnew 11 rfl
    have zr8:Row w4 (p 10) (digC Q) 119:=hrw 21 (119,digC Q) rfl
    have zr9:Row w4 (p 11) (digC R) 119:=hrw 23 (119,digC R) rfl
    have d6x8:=l_l r6.lt n8
    have d6x9:=l_l r6.lt n9
    have d8x9:=hdis 10 11 (by omega) rfl rfl
    replace r6:=hkw.ro r6
    have b8:=Nat.le_trans sb.size n8
    have b9:=Nat.le_trans sb.size n9
    replace sb:=kk sb hkw;clear hkw hrw hnew hdis n8 n9
    generalize p 10=g8 at*
    generalize p 11=g9 at*
    have r8:=zr8
    clear zr8
    have r9:=zr9
    clear zr9
    iterate 3 go_step
    apply wp_region_mixp [] [_,_,_,_,_,_,_,_,_] trivial List.nodup_nil
    ·intro p;refine mx_load 119 _ rfl _ rfl r9 (by simp<;>omega) 32 _ Tryz.underlying119 (by rw[digC_size];exact size_dig) ?_;simp only[pv];refine m_c 87 Tryz.func87 #[.agg (digC R)] hna ?_;refine m_m ?_;refine m_e ?_;refine m_e ?_;simp only[pv];refine m_n ?_;simp only[pv];refine m_n ?_;simp only[pv];refine m_p 11 R ?_;simp only[Act.put];refine m_p 13 T ?_;simp only[Act.put];refine mx_end ?_;intro w5 hkw hrw hnew hdis
     have n10:=hnew 5 rfl
     have n11:=hnew 6 rfl
     have zr10:Row w5 (p 5) (natC R) 43:=hrw 11 (43,natC R) rfl
     have zr11:Row w5 (p 6) (natC T) 43:=hrw 13 (43,natC T) rfl
     have d6x10:=l_l r6.lt n10
     have d6x11:=l_l r6.lt n11
     have d10x11:=hdis 5 6 (by omega) rfl rfl
     replace r6:=hkw.ro r6
     have b10:=Nat.le_trans sb.size n10
     have b11:=Nat.le_trans sb.size n11
     replace sb:=kk sb hkw;clear hkw hrw hnew hdis n10 n11
     generalize p 5=g10 at*
     generalize p 6=g11 at*
     have r10:=zr10
     clear zr10
     have r11:=zr11
     clear zr11
     iterate 3 go_step
     apply wp_region_mixp [(g6,43,natC 0)] [_,_,_] ⟨r6,trivial⟩ (by simp<;>omega)
     ·intro p;refine m_l r10 ?_;simp only[pv];refine m_p 0 R ?_;simp only[Act.put];refine mx_val (.int .i64 0) (fun _=>rfl) ?_;simp only[pv];refine mx_end ?_;intro w6 hkw hrw hnew hdis
      have zr6:Row w6 (g6) (natC R) 43:=hrw 0 (43,natC R) rfl
      replace sb:=kk sb hkw;clear hkw hrw hnew hdis r6
      have r6:=zr6
      clear zr6
      go_wp2
      exact ret_row2 rfl _ rfl r6 4 _ Tryz.underlying43 (by exact size_nat) rfl _ rfl ⟨rfl,sb⟩
     ·rfl
    ·rfl
   ·kernel_rfl
  ·rfl
 ·rfl
theorem rrem_any (A B M:Nat)(w:World)(hA:A<2^256)(hB:B<2^256)(hM:M<2^256):
  Calls Tryz.prog 56 #[.agg (natC A),.agg (natC B),.agg (natC M)] w fun e w'=>e= .returned (.tuple #[.agg (natC (modZ (B*2^256+A) M)),.int .i64 (errI M)])/\Below w.heap.size w w':=by
 unfold modZ errI
 rcases Nat.eq_zero_or_pos M with h0|h0
 ·rw[if_pos h0,if_pos h0]
  exact rrem_zero A B M w h0
 ·rw[if_neg (by omega),if_neg (by omega),show B*2^256+A=A+2^256*B by omega]
  exact rrem_more A B M w hA hB h0 hM
def Eu (i x y:Nat):Prop:=i=0∨(y<x/\x*y*2^i<2*(2^256*2^256))
structure GcdH (wr w:World)(g4 g5 g6 x y:Nat):Prop where
 z:Row wr g4 (natC 0) 43
 x:Row wr g5 (natC x) 43
 y:Row wr g6 (natC y) 43
 below:Below w.heap.size w wr
end Go.Proofs.YtighhihgmkcabaaGreat
