import Derived.Test.YtighhihgmkcabaaGreatGT
namespace Go.Proofs.YtighhihgmkcabaaGreat
set_option linter.unusedVariables false
open Go.RowKit
theorem exec_geq_i {P:Program}{o:Oper}{ρ:Operand->Value}(t:TypeId)(x y:Operand)(u:TypeId)(ho:o.op= .binOp .geq t x y u)(n m:Int)(hx:ρ x= .int .i64 n)(hy:ρ y= .int .i64 m)(b:Bool)(hb:decide (m<=n)=b)(w:World):
  (execOp ρ o).run P w= .ok (.value (.bool b)) w:=by
 subst hb
 unfold execOp
 simp only[ho,hx,hy]
 simp[go_sem]
theorem exec_sub_ir {P:Program}{o:Oper}{ρ:Operand->Value}(t:TypeId)(x y:Operand)(u:TypeId)(ho:o.op= .binOp .sub t x y u)(n m r:Int)(hx:ρ x= .int .i64 n)(hy:ρ y= .int .i64 m)(hr:IntKind.i64.wrap (n-m)=r)(w:World):
  (execOp ρ o).run P w= .ok (.value (.int .i64 r)) w:=by
 subst hr
 unfold execOp
 simp only[ho,hx,hy]
 simp[go_sem]
theorem wrap_small (z:Int)(h1: -9223372036854775808<=z)(h2:z<9223372036854775808):IntKind.i64.wrap z=z:=by
 rw[IntKind.wrap_i64];omega
theorem half_bit (E k:Nat):E/2^k=E/2^(k+1)+E/2^(k+1)+E/2^k%2:=by
 rw[Nat.pow_succ,<-Nat.div_div_eq_div_mul]
 omega
theorem pw_sq (a x m:Nat):a^x%m*(a^x%m)%m=a^(x+x)%m:=by
 rw[<-Nat.mul_mod,<-Nat.pow_add]
theorem pw_bit0 (a E k m:Nat)(h: ¬E/2^k%2=1):a^(E/2^(k+1))%m*(a^(E/2^(k+1))%m)%m=a^(E/2^k)%m:=by
 rw[pw_sq,show E/2^k=E/2^(k+1)+E/2^(k+1) by have:=half_bit E k;omega]
theorem pw_bit1 (a E k m:Nat)(h:E/2^k%2=1):a^(E/2^(k+1))%m*(a^(E/2^(k+1))%m)%m*a%m=a^(E/2^k)%m:=by
 rw[pw_sq,Nat.mod_mul_mod,<-Nat.pow_succ,show E/2^k=E/2^(k+1)+E/2^(k+1)+1 by have:=half_bit E k;omega]
theorem pw_start (a E m:Nat):1%m=a^(E/2^bitLen E)%m:=by
 rw[Nat.div_eq_of_lt (lt_bitLen E _ (Nat.le_refl _)),Nat.pow_zero]
theorem bitI_set (E k:Nat)(hk:k<256)(h:E/2^k%2=1):bitI E (k:Int)=1:=by
 unfold bitI
 rw[if_pos ⟨by omega,by omega,by rw[Int.toNat_natCast,Nat.testBit_eq_decide_div_mod_eq,h];rfl⟩]
theorem bitI_not (E k:Nat)(h: ¬E/2^k%2=1):bitI E (k:Int)=0:=by
 unfold bitI
 rw[if_neg]
 rintro⟨_,_,h3⟩
 rw[Int.toNat_natCast,Nat.testBit_eq_decide_div_mod_eq,decide_eq_true_iff]at h3
 exact h h3
set_option maxRecDepth 100000 in
set_option maxHeartbeats 1000000 in
theorem rtimes_any (a b m:Nat)(w:World)(hm0:0<m)(hm:m<4611686018427387904):
  Calls Tryz.prog 57 #[.int .i64 a,.int .i64 b,.int .i64 m] w fun e w'=>e= .returned (.int .i64 (a*b%m:Nat))/\Below w.heap.size w w':=by
 have h1:=Nat.mod_lt a hm0
 have h2:=Nat.mod_lt b hm0
 have e3:a%m*(b%m)%m=a*b%m:=(Nat.mul_mod a b m).symm
 have hr:=Nat.mod_lt (a*b) hm0
 have h4:a%m*(b%m)<m*m:=Nat.mul_lt_mul'' h1 h2
 have h5:m*m<=m*4611686018427387904:=Nat.mul_le_mul_left m (Nat.le_of_lt hm)
 have hmul:=fun w'=>mul64_any (a%m) (b%m) (by omega) (by omega) w'
 have hq:a%m*(b%m)/18446744073709551616<m:=by
  rw[Nat.div_lt_iff_lt_mul (by decide)]
  omega
 have hdiv:=fun w'=>div64s_any (a%m*(b%m)/18446744073709551616) (a%m*(b%m)%18446744073709551616) m w' hq (by omega) (Nat.mod_lt _ (by decide))
 rw[show a%m*(b%m)/18446744073709551616*18446744073709551616+a%m*(b%m)%18446744073709551616=a%m*(b%m)from Nat.div_add_mod' _ _,e3]at hdiv
 clear h4 h5 hq e3
 generalize a%m*(b%m)/18446744073709551616=hi at*
 generalize a%m*(b%m)%18446744073709551616=lo at*
 generalize a*b%m=z at*
 go_enter Tryz.func57,Tryz.ntmps57
 iterate 2 go_step
 apply wp_region_mixp [] [_] trivial List.nodup_nil
 ·intro p;refine mx_val (.int .i64 0) (fun _=>rfl) ?_;simp only[pv];refine mx_end ?_;intro w2 hkw hrw hnew hdis
  have sb:=k_b hkw
  clear hkw hrw hnew hdis
  iterate 3 go_step
  apply wp_region_mix (by kernel_rfl) [] [_,_,_,_,_,_,_,_,_,_,_,_,_,_] trivial List.nodup_nil
  ·intro p;refine m_m ?_;refine m_m ?_;simp only[pv];refine mx_val (.int .i64 (a%m:Nat)) (exec_rem_i _ _ _ _ rfl a m rfl rfl hm0) ?_;simp only[pv];refine mx_val (.int .u64 (a%m:Nat)) (exec_conv_iw _ rfl (a%m) rfl (by omega)) ?_;refine m_m ?_;refine m_m ?_;simp only[pv];refine mx_val (.int .i64 (b%m:Nat)) (exec_rem_i _ _ _ _ rfl b m rfl rfl hm0) ?_;simp only[pv];refine mx_val (.int .u64 (b%m:Nat)) (exec_conv_iw _ rfl (b%m) rfl (by omega)) ?_;simp only[pv];refine m_c 88 Tryz.func88 #[.int .u64 (a%m:Nat),.int .u64 (b%m:Nat)] hmul ?_;refine m_m ?_;refine m_e ?_;refine m_e ?_;refine m_a ?_;simp only[pv];refine m_a ?_;simp only[pv];refine mx_end ?_;intro w3 hkw hrw hnew hdis;replace sb:=kk sb hkw;clear hkw hrw hnew hdis
   go_wp2_with (first
    |refine wpList_value rfl (.int .u64 (m:Nat)) (exec_conv_iw _ rfl m rfl (by omega) _) ?_)
   refine(hdiv _).mono ?_
   rintro _ wb ⟨⟨q,rfl⟩,bb⟩
   replace sb:=b_o sb bb;clear bb hdiv hmul
   dsimp only
   iterate 20 go_step
   apply wp_region_mixp [] [_,_,_] trivial List.nodup_nil
   ·intro p;refine m_m ?_;simp only[pv];refine mx_val (.int .i64 z) (exec_conv_ui _ rfl z rfl (by omega)) ?_;refine m_a ?_;simp only[pv];refine mx_end ?_;intro w4 hkw hrw hnew hdis;replace sb:=kk sb hkw;clear hkw hrw hnew hdis
    go_wp2
    go_ret
    exact⟨rfl,sb⟩
   ·rfl
  ·kernel_rfl
 ·rfl
set_option maxRecDepth 100000 in
set_option maxHeartbeats 2000000 in
theorem rpower_any (a E m:Nat)(w:World)(hE:E<2^256)(hm0:0<m)(hm:m<4611686018427387904):
  Calls Tryz.prog 58 #[.int .i64 a,.agg (natC E),.int .i64 m] w fun e w'=>e= .returned (.int .i64 (a^E%m:Nat))/\Below w.heap.size w w':=by
 have hle:=fun w'=>rlen_any E w' hE
 have hL:=bitLen_to E 256 hE
 have H0:Hid (1%m=a^(E/2^bitLen E)%m):=pw_start a E m
 have HT:Hid (∀x y w',Calls Tryz.prog 57 #[.int .i64 (x:Nat),.int .i64 (y:Nat),.int .i64 m] w' (Rt (.int .i64 (x*y%m:Nat)) w')):=fun x y w'=>rtimes_any x y m w' hm0 hm
 clear hE
 generalize hbl:bitLen E=BL at*
 go_enter Tryz.func58,Tryz.ntmps58
 iterate 2 go_step
 apply wp_region_mixp [] [_,_] trivial List.nodup_nil
 ·intro p;refine mx_box 43 _ rfl _ rfl ?_;simp only[pv];refine mx_val (.int .i64 0) (fun _=>rfl) ?_;simp only[pv];refine mx_end ?_;intro w2 hkw hrw hnew hdis
  have n4:=hnew 0 rfl
  have zr4:Row w2 (p 0) (natC E) 43:=hrw 1 (43,natC E) rfl
  have sb:=k_b hkw
  have b4:w.heap.size<=p 0:=n4
  clear hkw hrw hnew hdis n4
  generalize p 0=g4 at*
  have r4:=zr4
  clear zr4
  iterate 3 go_step
  apply wp_region_mixp [] [_,_,_] trivial List.nodup_nil
  ·intro p;refine m_m ?_;simp only[pv];refine mx_val (.int .i64 (1%m:Nat)) (exec_rem_i _ _ _ _ rfl 1 m rfl rfl hm0) ?_;refine m_a ?_;simp only[pv];refine mx_end ?_;intro w3 hkw hrw hnew hdis;replace r4:=hkw.ro r4;replace sb:=kk sb hkw;clear hkw hrw hnew hdis
   iterate 4 go_step
   apply wp_region_mixp [] [_,_,_,_] trivial List.nodup_nil
   ·intro p;refine m_l r4 ?_;simp only[pv];refine m_c 41 Tryz.func41 #[.agg (natC E)] hle ?_;simp only[pv];refine mx_val (.int .i64 ((BL:Int)-1)) (exec_sub_ir _ _ _ _ rfl BL 1 _ rfl rfl (wrap_small _ (by omega) (by omega))) ?_;refine m_a ?_;simp only[pv];refine mx_end ?_;intro w4 hkw hrw hnew hdis;replace r4:=hkw.ro r4;replace sb:=kk sb hkw;clear hkw hrw hnew hdis;clear hle
    go_wp2_with fail
    go_loopg [7,8] BL (fun g s7 s8 wr=>s7= .int .i64 (a^(E/2^g)%m:Nat)/\s8= .int .i64 ((g:Int)-1)/\g<=256/\Row wr g4 (natC E) 43/\Below w.heap.size w wr)
    case atStart=>exact⟨by rw[<-H0.out],rfl,hL,r4,sb⟩
    case round=>
     clear r4 sb
     obtain⟨rfl,rfl,hg,r4,sb⟩:=hrel
     cases gk with
     |zero=>
      rw[show a^(E/2^0)%m=a^E%m by rw[Nat.pow_zero,Nat.div_one]]
      iterate 2 go_step
      apply wp_region_mixp [] [_,_] trivial List.nodup_nil
      ·intro p;refine m_m ?_;simp only[pv];refine mx_val (.bool false) (exec_geq_i _ _ _ _ rfl ((0:Nat)-1:Int) 0 rfl rfl false rfl) ?_;simp only[pv];refine mx_end ?_;intro w5 hkw hrw hnew hdis;replace sb:=kk sb hkw;clear hkw hrw hnew hdis
       go_wp2
       go_ret
       exact⟨rfl,sb⟩
      ·rfl
     |succ g=>
      rw[show((g+1:Nat):Int)-1=(g:Int) by omega]
      have hsq:=HT.out (a^(E/2^(g+1))%m) (a^(E/2^(g+1))%m)
      have hbi:=fun w'=>rbit_any E (g:Int) w'
      by_cases hb:E/2^g%2=1
      ·rw[bitI_set E g (by omega) hb]at hbi
       have hta:=HT.out (a^(E/2^(g+1))%m*(a^(E/2^(g+1))%m)%m) a
       have HV:Hid (a^(E/2^(g+1))%m*(a^(E/2^(g+1))%m)%m*a%m=a^(E/2^g)%m):=pw_bit1 a E g m hb
       clear hb
       generalize a^(E/2^(g+1))%m=X at*
       generalize X*X%m=Y at*
       iterate 2 go_step
       apply wp_region_mixp [] [_,_] trivial List.nodup_nil
       ·intro p;refine m_m ?_;simp only[pv];refine mx_val (.bool true) (exec_geq_i _ _ _ _ rfl g 0 rfl rfl true (decide_eq_true (by omega))) ?_;simp only[pv];refine mx_end ?_;intro w9 hkw hrw hnew hdis;replace r4:=hkw.ro r4;replace sb:=kk sb hkw;clear hkw hrw hnew hdis
        iterate 9 go_step
        apply wp_region_mixp [] [_,_,_,_,_] trivial List.nodup_nil
        ·intro p;refine m_m ?_;refine m_m ?_;refine m_m ?_;simp only[pv];refine m_c 57 Tryz.func57 #[.int .i64 X,.int .i64 X,.int .i64 m] hsq ?_;refine m_a ?_;simp only[pv];refine mx_end ?_;intro w5 hkw hrw hnew hdis;replace r4:=hkw.ro r4;replace sb:=kk sb hkw;clear hkw hrw hnew hdis
         iterate 3 go_step
         apply wp_region_mixp [] [_,_,_,_] trivial List.nodup_nil
         ·intro p;refine m_l r4 ?_;refine m_m ?_;simp only[pv];refine m_c 90 Tryz.func90 #[.agg (natC E),.int .i64 (g:Nat)] hbi ?_;simp only[pv];refine mx_val (.bool true) (exec_eql_k .i64 _ _ _ _ rfl 1 1 rfl rfl true rfl) ?_;simp only[pv];refine mx_end ?_;intro w6 hkw hrw hnew hdis;replace r4:=hkw.ro r4;replace sb:=kk sb hkw;clear hkw hrw hnew hdis
          iterate 3 go_step
          apply wp_region_mixp [] [_,_,_,_,_] trivial List.nodup_nil
          ·intro p;refine m_m ?_;refine m_m ?_;refine m_m ?_;simp only[pv];refine m_c 57 Tryz.func57 #[.int .i64 Y,.int .i64 a,.int .i64 m] hta ?_;refine m_a ?_;simp only[pv];refine mx_end ?_;intro w7 hkw hrw hnew hdis;replace r4:=hkw.ro r4;replace sb:=kk sb hkw;clear hkw hrw hnew hdis
           iterate 2 go_step
           apply wp_region_mixp [] [_,_,_] trivial List.nodup_nil
           ·intro p;refine m_m ?_;simp only[pv];refine mx_val (.int .i64 ((g:Int)-1)) (exec_sub_ir _ _ _ _ rfl g 1 _ rfl rfl (wrap_small _ (by omega) (by omega))) ?_;refine m_a ?_;simp only[pv];refine mx_end ?_;intro w8 hkw hrw hnew hdis;replace r4:=hkw.ro r4;replace sb:=kk sb hkw;clear hkw hrw hnew hdis
            go_wp2
            go_roundg g
            case measure=>omega
            case rel=>exact⟨by rw[<-HV.out],rfl,by omega,r4,sb⟩
           ·rfl
          ·rfl
         ·rfl
        ·rfl
       ·rfl
      ·rw[bitI_not E g hb]at hbi
       have HV:Hid (a^(E/2^(g+1))%m*(a^(E/2^(g+1))%m)%m=a^(E/2^g)%m):=pw_bit0 a E g m hb
       clear hb
       generalize a^(E/2^(g+1))%m=X at*
       generalize X*X%m=Y at*
       iterate 2 go_step
       apply wp_region_mixp [] [_,_] trivial List.nodup_nil
       ·intro p;refine m_m ?_;simp only[pv];refine mx_val (.bool true) (exec_geq_i _ _ _ _ rfl g 0 rfl rfl true (decide_eq_true (by omega))) ?_;simp only[pv];refine mx_end ?_;intro w9 hkw hrw hnew hdis;replace r4:=hkw.ro r4;replace sb:=kk sb hkw;clear hkw hrw hnew hdis
        iterate 9 go_step
        apply wp_region_mixp [] [_,_,_,_,_] trivial List.nodup_nil
        ·intro p;refine m_m ?_;refine m_m ?_;refine m_m ?_;simp only[pv];refine m_c 57 Tryz.func57 #[.int .i64 X,.int .i64 X,.int .i64 m] hsq ?_;refine m_a ?_;simp only[pv];refine mx_end ?_;intro w5 hkw hrw hnew hdis;replace r4:=hkw.ro r4;replace sb:=kk sb hkw;clear hkw hrw hnew hdis
         iterate 3 go_step
         apply wp_region_mixp [] [_,_,_,_] trivial List.nodup_nil
         ·intro p;refine m_l r4 ?_;refine m_m ?_;simp only[pv];refine m_c 90 Tryz.func90 #[.agg (natC E),.int .i64 (g:Nat)] hbi ?_;simp only[pv];refine mx_val (.bool false) (exec_eql_k .i64 _ _ _ _ rfl 0 1 rfl rfl false rfl) ?_;simp only[pv];refine mx_end ?_;intro w6 hkw hrw hnew hdis;replace r4:=hkw.ro r4;replace sb:=kk sb hkw;clear hkw hrw hnew hdis
          iterate 6 go_step
          apply wp_region_mixp [] [_,_,_] trivial List.nodup_nil
          ·intro p;refine m_m ?_;simp only[pv];refine mx_val (.int .i64 ((g:Int)-1)) (exec_sub_ir _ _ _ _ rfl g 1 _ rfl rfl (wrap_small _ (by omega) (by omega))) ?_;refine m_a ?_;simp only[pv];refine mx_end ?_;intro w8 hkw hrw hnew hdis;replace r4:=hkw.ro r4;replace sb:=kk sb hkw;clear hkw hrw hnew hdis
           go_wp2
           go_roundg g
           case measure=>omega
           case rel=>exact⟨by rw[<-HV.out],rfl,by omega,r4,sb⟩
          ·rfl
         ·rfl
        ·rfl
       ·rfl
   ·rfl
  ·rfl
 ·rfl
theorem low_small (M:Nat)(h:M<9223372036854775808):lowI M=(M:Int)/\lowB M=true:=by
 unfold lowI lowB
 rw[if_pos h,decide_eq_true h]
 exact⟨rfl,rfl⟩
end Go.Proofs.YtighhihgmkcabaaGreat
