import Derived.Test.YtgdalihjpemjiaaGreatGK
import Derived.Test.YtgdalihjpemjiaaGreatGC
namespace Go.Proofs.YtgdalihjpemjiaaGreat
set_option linter.unusedVariables false
open Go.RowKit
theorem exec_add_in {P : Program} {o : Oper} {ρ : Operand → Value} (t : TypeId) (x y : Operand) (u : TypeId) (ho : o.op = .binOp .add t x y u) (n m : Nat) (hx : ρ x = .int .i64 n) (hy : ρ y = .int .i64 m) (h : n + m < 9223372036854775808) (w : World) :
  (execOp ρ o).run P w = .ok (.value (.int .i64 ((n + m : Nat) : Int))) w := by
 unfold execOp
 simp only [ho, hx, hy]
 simp [go_sem]
 rw [IntKind.wrap_i64]
 omega
theorem exec_eql_k {P : Program} {o : Oper} {ρ : Operand → Value} (k : IntKind) (t : TypeId) (x y : Operand) (u : TypeId) (ho : o.op = .binOp .eql t x y u) (n m : Int) (hx : ρ x = .int k n) (hy : ρ y = .int k m) (b : Bool) (hb : decide (n = m) = b) (w : World) :
  (execOp ρ o).run P w = .ok (.value (.bool b)) w := by
 subst hb
 unfold execOp
 simp only [ho, hx, hy]
 simp [eqGuard, go_sem]
 rfl
theorem exec_lt_i {P : Program} {o : Oper} {ρ : Operand → Value} (t : TypeId) (x y : Operand) (u : TypeId) (ho : o.op = .binOp .lss t x y u) (n m : Int) (hx : ρ x = .int .i64 n) (hy : ρ y = .int .i64 m) (w : World) :
  (execOp ρ o).run P w = .ok (.value (.bool (decide (n < m)))) w := by
 unfold execOp
 simp only [ho, hx, hy]
 simp [go_sem]
structure TH (wr w : World) (g0 g4 g5 g6 g7 A B M mi one sq L : Nat) : Prop where
 r : Row wr g0 (rgC M mi one sq) 125
 a : Row wr g4 (natC A) 40
 b : Row wr g5 (natC B) 40
 z : Row wr g6 (natC 0) 40
 l : Row wr g7 (natC L) 39
 below : Below w.heap.size w wr
theorem TH.on {wr w w2 : World} {g0 g4 g5 g6 g7 A B M mi one sq L : Nat} (h : TH wr w g0 g4 g5 g6 g7 A B M mi one sq L) (k : Kept [] wr w2) : TH w2 w g0 g4 g5 g6 g7 A B M mi one sq L :=
 ⟨k.row h.r (by simp), k.row h.a (by simp), k.row h.b (by simp), k.row h.z (by simp), k.row h.l (by simp), h.below.trans (k.below w.heap.size h.below.size (by simp))⟩
theorem TH.put {wr w w2 : World} {g0 g4 g5 g6 g7 A B M mi one sq L L' : Nat} (h : TH wr w g0 g4 g5 g6 g7 A B M mi one sq L) (k : Kept [g7] wr w2) (r : Row w2 g7 (natC L') 39)
  (h0 : g0 ≠ g7) (h4 : g4 ≠ g7) (h5 : g5 ≠ g7) (h6 : g6 ≠ g7) (h7 : w.heap.size ≤ g7) : TH w2 w g0 g4 g5 g6 g7 A B M mi one sq L' :=
 ⟨k.row h.r (by simpa using h0), k.row h.a (by simpa using h4), k.row h.b (by simpa using h5), k.row h.z (by simpa using h6), r, h.below.trans (k.below w.heap.size h.below.size (by simpa using h7))⟩
set_option maxRecDepth 100000 in
set_option maxHeartbeats 4000000 in
theorem mtimes_any (A B M mi one sq g0 : Nat) (w : World) (hA : A < 2 ^ 256) (hB : B < 2 ^ 256) (hM : M < 2 ^ 256) (ho : M % 2 = 1) (h2 : 2 ≤ M) (hmi : mi * M % 18446744073709551616 = 18446744073709551615) (hml : mi < 18446744073709551616) (hAB : A < M ∨ B < M)
  (r0 : Row w g0 (rgC M mi one sq) 125) :
  Calls Tryz.prog 121 #[.pointer (some ⟨g0, 0, none⟩), .agg (natC A), .agg (natC B)] w fun e w' => e = .returned (.agg (natC (mt A B M))) ∧ Below w.heap.size w w' := by
 have HH : Hid (A < 2 ^ 256 ∧ B < 2 ^ 256 ∧ M < 2 ^ 256 ∧ M % 2 = 1 ∧ 2 ≤ M ∧ mi * M % 18446744073709551616 = 18446744073709551615 ∧ mi < 18446744073709551616 ∧ (A < M ∨ B < M)) := ⟨hA, hB, hM, ho, h2, hmi, hml, hAB⟩
 clear hA hB hM ho h2 hmi hml hAB
 go_enter Tryz.func121, Tryz.ntmps121
 iterate 2 go_step
 apply wp_region_mixq [] [_, _, _] trivial List.nodup_nil rfl
 intro p
 refine mx_box 40 _ rfl _ rfl ?_
 simp only [pv]
 refine mx_box 40 _ rfl _ rfl ?_
 simp only [pv]
 refine m_n ?_
 simp only [pv]
 refine mx_end ?_
 intro vw1 hkw hrw hnew hdis
 have n6 := hnew 2 rfl
 have zr4 : Row vw1 (p 0) (natC A) 40 := hrw 1 (40, natC A) rfl
 have zr5 : Row vw1 (p 1) (natC B) 40 := hrw 3 (40, natC B) rfl
 have zr6 : Row vw1 (p 2) (natC 0) 40 := hrw 5 (40, natC 0) rfl
 have d0x6 := l_l r0.lt n6
 replace r0 := hkw.ro r0
 have sb := k_b hkw
 have b6 : w.heap.size ≤ p 2 := n6
 clear hkw hrw hnew hdis n6
 generalize p 0 = g4 at *
 generalize p 1 = g5 at *
 generalize p 2 = g6 at *
 have r4 := zr4
 clear zr4
 have r5 := zr5
 clear zr5
 have r6 := zr6
 clear zr6
 iterate 3 go_step
 apply wp_region_mixq [] [_] trivial List.nodup_nil rfl
 intro p
 refine mx_new 39 rfl _ zero_a4 ?_
 simp only [pv]
 refine mx_end ?_
 intro vw2 hkw hrw hnew hdis
 have n7 := hnew 0 rfl
 have zr7 : Row vw2 (p 0) (natC 0) 39 := hrw 1 (39, natC 0) rfl
 have d0x7 := l_l r0.lt n7
 have d4x7 := l_l r4.lt n7
 have d5x7 := l_l r5.lt n7
 have d6x7 := l_l r6.lt n7
 replace r0 := hkw.ro r0
 replace r4 := hkw.ro r4
 replace r5 := hkw.ro r5
 replace r6 := hkw.ro r6
 have b7 := Nat.le_trans sb.size n7
 replace sb := kk sb hkw
 clear hkw hrw hnew hdis n7
 generalize p 0 = g7 at *
 have r7 := zr7
 clear zr7
 -- the rows that stand: r0: rgC M mi one sq, r4: natC A, r5: natC B, r6: natC 0, r7: natC 0
 have H0 : TH vw2 w g0 g4 g5 g6 g7 A B M mi one sq 0 := ⟨r0, r4, r5, r6, r7, sb⟩
 have HX : Hid (g0 ≠ g7 ∧ g4 ≠ g7 ∧ g5 ≠ g7 ∧ g6 ≠ g7 ∧ w.heap.size ≤ g7 ∧ w.heap.size ≤ g6 ∧ g0 ≠ g6) := ⟨by omega, by omega, by omega, by omega, b7, b6, by omega⟩
 clear r0 r4 r5 r6 r7 sb b6 b7 d0x6 d0x7 d4x7 d5x7 d6x7
 go_wp2_with fail
 go_loopg [8, 18] 4 (fun g s8 s18 wr => ∃ k L v : Nat, k + g = 4 ∧ s8 = .int .u64 v ∧ s18 = .int .i64 k ∧ Mi A B M k L v ∧ TH wr w g0 g4 g5 g6 g7 A B M mi one sq L)
 case atStart => exact ⟨0, 0, 0, by omega, rfl, rfl, mi_first A B M, H0⟩
 case round =>
  obtain ⟨k, L, v, hk, rfl, rfl, hI, hH⟩ := hrel
  obtain ⟨x0, x4, x5, x6, x7, x8, x9⟩ := HX.out
  obtain ⟨hA, hB, hM, ho, h2, hmi, hml, hAB⟩ := HH.out
  clear H0
  cases gk with
  | zero =>
   obtain rfl : k = 4 := by omega
   have HL : Hid ((v = 0 ∧ L < M → L = mt A B M) ∧ (¬ (v = 0 ∧ L < M) → less L M % 2 ^ 256 = mt A B M)) := mi_last A B M L v ho h2 hM hA hB hAB hI
   have HB : Hid (bN L M 256 = if L < M then 1 else 0) := by
    show _ = _
    unfold bN
    rw [Nat.mod_eq_of_lt hI.1, Nat.mod_eq_of_lt hM]
   have hv1 := mi_lt A B M 4 L v hB hM hI
   have hsu := fun w' => nsub_any L M w' hM
   clear hk hI hA hB hM ho h2 hmi hml hAB HH
   have hx : ¬ ((4 : Int) < 4) := by omega
   go_wp2
   apply wp_region_mix (by kernel_rfl) [] [_, _, _, _, _, _, _, _, _, _, _, _] trivial List.nodup_nil
   ·intro p
    refine mx_load 39 _ rfl _ rfl hH.l (by simp <;> omega) 4 _ Tryz.underlying39 size_a4 ?_
    refine m_m ?_
    simp only [pv]
    refine mx_val (.pointer (some ⟨g0, 0, none⟩)) (exec_nil _ rfl g0 0 rfl) ?_
    simp only [pv]
    refine mx_val (.pointer (some ⟨g0, 0, none⟩)) (exec_field 125 _ 0 rfl g0 0 rfl _ Tryz.underlying125 _ rfl 3 Tryz.sizeOf40) ?_
    simp only [pv]
    refine mx_loadm 40 _ rfl _ (0) rfl hH.r (by simp <;> omega) (natC M) (rg_m M mi one sq) _ Tryz.underlying40 rfl size_nat ?_
    simp only [pv]
    refine mx_call 115 _ _ rfl Tryz.func115 (by kernel_rfl) #[.agg (natC L), .agg (natC M)] rfl _ hsu ?_
    refine m_m ?_
    refine m_e ?_
    refine m_e ?_
    simp only [pv]
    refine m_n ?_
    simp only [pv]
    refine m_p 19 (less L M) ?_
    simp only [Act.put]
    refine m_a ?_
    simp only [pv]
    refine mx_end ?_
    intro w5 hkw hrw hnew _
    have r16 : Row w5 (p 9) (natC (less L M)) 40 := hrw 19 (40, natC (less L M)) rfl
    have n16 := hnew 9 rfl
    have r6 := hkw.row hH.z (by simp)
    have r7 := hkw.row hH.l (by simp)
    have d6 := l_l hH.z.lt n16
    have sb := hH.below.trans (hkw.below w.heap.size hH.below.size (by simp))
    clear hkw hrw hnew hH hsu n16
    generalize p 9 = g16 at *
    by_cases hv0 : v = 0
    ·subst hv0
     by_cases hlt : L < M
     ·have e1 : natC (mt A B M) = natC L := by rw [← HL.out.1 ⟨rfl, hlt⟩]
      have eb : bN L M 256 = 1 := by rw [HB.out, if_pos hlt]
      rw [eb]
      clear HL HB hlt eb
      iterate 4 go_step
      refine wp_region_qp ?_
      refine q_m ?_
      simp only [pv]
      refine q_v (.bool true) (exec_eql_k .u64 _ _ _ _ rfl 0 0 rfl rfl true rfl) ?_
      refine q_m ?_
      refine q_m ?_
      simp only [pv]
      refine q_v (.bool true) (exec_eql_k .i64 _ _ _ _ rfl 1 1 rfl rfl true rfl) ?_
      simp only [pv]
      refine qw_pick true (v := .bool true) (by rfl) rfl rfl rfl ?_
      simp only [pv]
      refine qw_nil ?_
      intro w6 hqb
      replace r6 := r6.belowAll hqb
      replace r7 := r7.belowAll hqb
      replace sb := b_o sb hqb
      clear hqb
      iterate 4 go_step
      apply wp_region_mixp [(g6, 40, natC 0)] [_, _] ⟨r6, trivial⟩ (by simp <;> omega)
      ·intro p
       refine mx_load 39 _ rfl _ rfl r7 (by simp <;> omega) 4 _ Tryz.underlying39 size_a4 ?_
       simp only [pv]
       refine m_p 0 L ?_
       simp only [Act.put]
       refine mx_end ?_
       intro w7 hkw hrw hnew hdis
       have zr6 : Row w7 (g6) (natC L) 40 := hrw 0 (40, natC L) rfl
       replace sb := kk sb hkw
       clear hkw hrw hnew hdis r6
       have r6 := zr6
       clear zr6
       go_wp2
       exact ret_row rfl _ rfl r6 4 _ Tryz.underlying40 (by exact size_nat) rfl ⟨by rw [e1], sb⟩
      ·rfl
     ·have e1 : natC (mt A B M) = natC (less L M) := by rw [← HL.out.2 (fun h => hlt h.2), natC_full]
      have eb : bN L M 256 = 0 := by rw [HB.out, if_neg hlt]
      rw [eb]
      clear HL HB hlt eb
      iterate 4 go_step
      refine wp_region_qp ?_
      refine q_m ?_
      simp only [pv]
      refine q_v (.bool true) (exec_eql_k .u64 _ _ _ _ rfl 0 0 rfl rfl true rfl) ?_
      refine q_m ?_
      refine q_m ?_
      simp only [pv]
      refine q_v (.bool false) (exec_eql_k .i64 _ _ _ _ rfl 0 1 rfl rfl false rfl) ?_
      simp only [pv]
      refine qw_pick true (v := .bool false) (by rfl) rfl rfl rfl ?_
      simp only [pv]
      refine qw_nil ?_
      intro w6 hqb
      replace r6 := r6.belowAll hqb
      replace r16 := r16.belowAll hqb
      replace sb := b_o sb hqb
      clear hqb
      iterate 7 go_step
      apply wp_region_mixp [(g6, 40, natC 0)] [_, _] ⟨r6, trivial⟩ (by simp <;> omega)
      ·intro p
       refine m_l r16 ?_
       simp only [pv]
       refine m_p 0 (less L M) ?_
       simp only [Act.put]
       refine mx_end ?_
       intro w7 hkw hrw hnew hdis
       have zr6 : Row w7 (g6) (natC (less L M)) 40 := hrw 0 (40, natC (less L M)) rfl
       replace sb := kk sb hkw
       clear hkw hrw hnew hdis r6
       have r6 := zr6
       clear zr6
       go_wp2
       exact ret_row rfl _ rfl r6 4 _ Tryz.underlying40 (by exact size_nat) rfl ⟨by rw [e1], sb⟩
      ·rfl
    ·have e1 : natC (mt A B M) = natC (less L M) := by rw [← HL.out.2 (fun h => hv0 h.1), natC_full]
     have ev : v = 1 := by omega
     subst ev
     clear HL HB hv0
     iterate 4 go_step
     refine wp_region_qp ?_
     refine q_m ?_
     simp only [pv]
     refine q_v (.bool false) (exec_eql_k .u64 _ _ _ _ rfl 1 0 rfl rfl false rfl) ?_
     refine q_m ?_
     simp only [pv]
     refine qw_skip (by rfl) ?_
     simp only [pv]
     refine qw_skip (by rfl) ?_
     simp only [pv]
     refine qw_pick false (v := .bool false) (by rfl) rfl rfl rfl ?_
     simp only [pv]
     refine qw_nil ?_
     intro w6 hqb
     replace r6 := r6.belowAll hqb
     replace r16 := r16.belowAll hqb
     replace sb := b_o sb hqb
     clear hqb
     iterate 7 go_step
     apply wp_region_mixp [(g6, 40, natC 0)] [_, _] ⟨r6, trivial⟩ (by simp <;> omega)
     ·intro p
      refine m_l r16 ?_
      simp only [pv]
      refine m_p 0 (less L M) ?_
      simp only [Act.put]
      refine mx_end ?_
      intro w7 hkw hrw hnew hdis
      have zr6 : Row w7 (g6) (natC (less L M)) 40 := hrw 0 (40, natC (less L M)) rfl
      replace sb := kk sb hkw
      clear hkw hrw hnew hdis r6
      have r6 := zr6
      clear zr6
      go_wp2
      exact ret_row rfl _ rfl r6 4 _ Tryz.underlying40 (by exact size_nat) rfl ⟨by rw [e1], sb⟩
     ·rfl
   ·kernel_rfl
  | succ g =>
   have hlt : (k : Int) < 4 := by omega
   have hk4 : k < 4 := by omega
   have HN : Hid (∀ o X : Nat, o < 18446744073709551616 → X = M * o + (B * lm A k + L) % 2 ^ 256 → X % 18446744073709551616 = 0 →
     Mi A B M (k + 1) (X / 18446744073709551616 % 2 ^ 192 + 2 ^ 192 * (((v + (B * lm A k + L) / 2 ^ 256) % 18446744073709551616 + X / 2 ^ 256) % 18446744073709551616)) ((v + (B * lm A k + L) / 2 ^ 256) / 18446744073709551616 + ((v + (B * lm A k + L) / 2 ^ 256) % 18446744073709551616 + X / 2 ^ 256) / 18446744073709551616)) :=
    fun o X ho hX hX0 => mi_next A B M k L v _ _ _ _ _ _ o X _ _ _ hI rfl rfl rfl rfl rfl rfl ho hX hX0 rfl rfl rfl
   have hL := hI.1
   have hv1 := mi_lt A B M k L v hB hM hI
   have ha := lm_lt A k
   have HK : Hid (k + (g + 1) = 4) := hk
   have HC : Hid (tlC B (lm A k) L 4 = (B * lm A k + L) / 2 ^ 256) := tlC_four B (lm A k) L hB hL
   have hca := natC_get A k hk4
   clear hI hk
   generalize lm A k = a at *
   go_wp2
   go_loopg [10, 21] 4 (fun g s10 s21 wr => ∃ j : Nat, j + g = 4 ∧ s10 = .int .u64 (tlC B a L j : Nat) ∧ s21 = .int .i64 j ∧ TH wr w g0 g4 g5 g6 g7 A B M mi one sq (mixL (B * a + L) L j))
   case atStart => exact ⟨0, by omega, by rw [tlC_zero]; rfl, rfl, by rw [mixL_zero]; exact hH⟩
   case round =>
    obtain ⟨j, hj, rfl, rfl, hJ⟩ := hrel
    clear hH
    cases gk with
    | zero =>
     obtain rfl : j = 4 := by omega
     rw [mixL_four _ _ hL] at hJ
     rw [HC.out]
     have hx : ¬ ((4 : Int) < 4) := by omega
     have hcb : (B * a + L) / 2 ^ 256 < 18446744073709551616 := by rw [← HC.out]; exact tlC_lt _ _ _ _ ha
     have hL' : (B * a + L) % 2 ^ 256 < 2 ^ 256 := Nat.mod_lt _ (by decide)
     clear hj HC hL
     generalize (B * a + L) % 2 ^ 256 = L' at *
     generalize (B * a + L) / 2 ^ 256 = c at *
     have hX0 := low_zero M L' mi hmi
     have hoL : lm L' 0 * mi % 18446744073709551616 < 18446744073709551616 := Nat.mod_lt _ (by decide)
     have HN' := HN.out (lm L' 0 * mi % 18446744073709551616) _ hoL rfl hX0
     have hbd := mi_lt A B M (k + 1) _ _ hB hM HN'
     have hm0 := lm_lt M 0
     have hl0 := lm_lt L' 0
     have ht0 := fun w' => tmore_any (lm L' 0 * mi % 18446744073709551616) (lm M 0) (lm L' 0) 0 w' hoL hm0 hl0 (by decide)
     have HC2 : Hid (tlC M (lm L' 0 * mi % 18446744073709551616) L' 4 = (M * (lm L' 0 * mi % 18446744073709551616) + L') / 2 ^ 256) := tlC_four M _ L' hM hL'
     have HC1 : Hid ((lm L' 0 * mi % 18446744073709551616 * lm M 0 + lm L' 0 + 0) / 18446744073709551616 = tlC M (lm L' 0 * mi % 18446744073709551616) L' 1) := by
      show _ = _
      rw [tl_carry, tlC_zero, Nat.mul_comm (lm M 0)]
     have hcl' := natC_get L' 0 (by decide)
     have hcm' := rg_cell M mi one sq 0 (by decide)
     clear HN hmi hX0 hm0 hA hB ho h2 hAB HH hM hml
     generalize hol : lm L' 0 * mi % 18446744073709551616 = o at *
     generalize hx0 : o * lm M 0 + lm L' 0 + 0 = z0 at *
     go_step
     apply wp_region_mixp [] [_] trivial List.nodup_nil
     ·intro p
      refine mx_val (.bool false) (fun w' => (exec_lt_i _ _ _ _ rfl 4 4 rfl rfl w').trans rfl) ?_
      simp only [pv]
      refine mx_end ?_
      intro w5 hkw _ _ _
      replace hJ := hJ.on hkw
      clear hkw
      iterate 8 go_step
      apply wp_region_mixp [] [_, _, _, _, _, _, _, _] trivial List.nodup_nil
      ·intro p
       refine m_m ?_
       refine m_m ?_
       simp only [pv]
       refine mx_val (.tuple #[.int .u64 ((v + c) % 18446744073709551616 : Nat), .int .u64 ((v + c) / 18446744073709551616 : Nat)]) (fun w' => exec_extern 149 _ _ rfl Tryz.func149 (by kernel_rfl) (by kernel_rfl) next_add64 find_add64 #[.int .u64 v, .int .u64 c, .int .u64 (0 : Nat)] rfl _ (run_add64_nat _ _ _ (by omega) _)) ?_
       refine m_m ?_
       refine m_e ?_
       refine m_e ?_
       refine m_a ?_
       simp only [pv]
       refine m_a ?_
       simp only [pv]
       refine mx_end ?_
       intro w6 hkw _ _ _
       replace hJ := hJ.on hkw
       clear hkw
       generalize (v + c) % 18446744073709551616 = v' at *
       generalize (v + c) / 18446744073709551616 = ov at *
       iterate 3 go_step
       apply wp_region_mix (by kernel_rfl) [] [_, _, _, _, _, _, _, _] trivial List.nodup_nil
       ·intro p
        refine mx_val (.pointer (some ⟨g7, 0, none⟩)) (exec_index 39 _ _ rfl (g7) rfl (0) 4 rfl (by omega) _ Tryz.underlying39 Tryz.sizeOf38) ?_
        simp only [pv]
        refine mx_loadc 38 _ rfl _ (0) rfl hJ.l (by simp <;> omega) (.int .u64 (lm L' 0 : Nat)) hcl' Tryz.isAgg38 ?_
        refine m_m ?_
        simp only [pv]
        refine mx_val (.pointer (some ⟨g0, 0, none⟩)) (exec_nil _ rfl g0 0 rfl) ?_
        simp only [pv]
        refine mx_val (.pointer (some ⟨g0, 4, none⟩)) (exec_field 125 _ 1 rfl g0 0 rfl _ Tryz.underlying125 _ rfl 0 Tryz.sizeOf38) ?_
        simp only [pv]
        refine mx_loadc 38 _ rfl _ (4) rfl hJ.r (by simp <;> omega) (.int .u64 mi) rfl Tryz.isAgg38 ?_
        simp only [pv]
        refine mx_val (.int .u64 o) (fun w' => (exec_mul_un _ _ _ _ rfl (lm L' 0) mi rfl rfl w').trans (by rw [hol])) ?_
        refine m_a ?_
        simp only [pv]
        refine mx_end ?_
        intro w7 hkw _ _ _
        replace hJ := hJ.on hkw
        clear hkw
        iterate 3 go_step
        apply wp_region_mix (by kernel_rfl) [] [_, _, _, _, _, _, _, _, _, _, _, _, _] trivial List.nodup_nil
        ·intro p
         refine m_m ?_
         refine m_m ?_
         simp only [pv]
         refine mx_val (.pointer (some ⟨g0, 0, none⟩)) (exec_nil _ rfl g0 0 rfl) ?_
         simp only [pv]
         refine mx_val (.pointer (some ⟨g0, 0, none⟩)) (exec_field 125 _ 0 rfl g0 0 rfl _ Tryz.underlying125 _ rfl 3 Tryz.sizeOf40) ?_
         simp only [pv]
         refine mx_val (.pointer (some ⟨g0, 0, none⟩)) (exec_index 40 _ _ rfl (g0) rfl (0) 4 rfl (by omega) _ Tryz.underlying40 Tryz.sizeOf38) ?_
         simp only [pv]
         refine mx_loadc 38 _ rfl _ (0) rfl hJ.r (by simp <;> omega) (.int .u64 (lm M 0 : Nat)) hcm' Tryz.isAgg38 ?_
         simp only [pv]
         refine mx_val (.pointer (some ⟨g7, 0, none⟩)) (exec_index 39 _ _ rfl (g7) rfl (0) 4 rfl (by omega) _ Tryz.underlying39 Tryz.sizeOf38) ?_
         simp only [pv]
         refine mx_loadc 38 _ rfl _ (0) rfl hJ.l (by simp <;> omega) (.int .u64 (lm L' 0 : Nat)) hcl' Tryz.isAgg38 ?_
         simp only [pv]
         refine mx_call 148 _ _ rfl Tryz.func148 (by kernel_rfl) #[.int .u64 o, .int .u64 (lm M 0 : Nat), .int .u64 (lm L' 0 : Nat), .int .u64 (0 : Nat)] rfl _ ht0 ?_
         refine m_m ?_
         refine m_e ?_
         refine m_e ?_
         refine m_a ?_
         simp only [pv]
         refine mx_end ?_
         intro w8 hkw _ _ _
         replace hJ := hJ.on hkw
         clear hkw ht0 hcl' hcm'
         rw [HC1.out]
         clear HC1 hx0 hol
         go_wp2_with fail
         go_loopg [10, 66] 3 (fun g s10 s66 wr => ∃ j : Nat, j + g = 3 ∧ s10 = .int .u64 (tlC M o L' (j + 1) : Nat) ∧ s66 = .int .i64 j ∧ TH wr w g0 g4 g5 g6 g7 A B M mi one sq (mixL ((M * o + L') / 18446744073709551616) L' j))
         case atStart => exact ⟨0, by omega, rfl, rfl, by rw [mixL_zero]; exact hJ⟩
         case round =>
          obtain ⟨i, hi, rfl, rfl, hK⟩ := hrel
          clear hJ
          cases gk with
          | zero =>
           obtain rfl : i = 3 := by omega
           rw [show tlC M o L' (3 + 1) = (M * o + L') / 2 ^ 256 from HC2.out]
           have hl3 : (v' + (M * o + L') / 2 ^ 256) % 18446744073709551616 < 18446744073709551616 := Nat.mod_lt _ (by decide)
           have htop := mixL_top ((M * o + L') / 18446744073709551616) L' _ hl3
           clear hi HC2 hl3
           generalize mixL ((M * o + L') / 18446744073709551616) L' 3 = Lm at *
           generalize (M * o + L') / 2 ^ 256 = c2 at *
           generalize (M * o + L') / 18446744073709551616 % 2 ^ 192 + 2 ^ 192 * ((v' + c2) % 18446744073709551616) = Ln at *
           go_step
           apply wp_region_mixp [] [_] trivial List.nodup_nil
           ·intro p
            refine mx_val (.bool false) (fun w' => (exec_lt_i _ _ _ _ rfl 3 3 rfl rfl w').trans rfl) ?_
            simp only [pv]
            refine mx_end ?_
            intro w9 hkw _ _ _
            replace hK := hK.on hkw
            clear hkw
            iterate 8 go_step
            apply wp_region_mixp [(g7, 39, natC Lm)] [_, _, _, _, _, _, _, _, _] ⟨hK.l, trivial⟩ (by simp <;> omega)
            ·intro p
             refine m_m ?_
             refine m_m ?_
             simp only [pv]
             refine mx_val (.tuple #[.int .u64 ((v' + c2) % 18446744073709551616 : Nat), .int .u64 ((v' + c2) / 18446744073709551616 : Nat)]) (fun w' => exec_extern 149 _ _ rfl Tryz.func149 (by kernel_rfl) (by kernel_rfl) next_add64 find_add64 #[.int .u64 v', .int .u64 c2, .int .u64 (0 : Nat)] rfl _ (run_add64_nat _ _ _ (by omega) _)) ?_
             refine m_m ?_
             refine m_e ?_
             refine m_e ?_
             simp only [pv]
             refine mx_val (.pointer (some ⟨g7, 3, none⟩)) (exec_index 39 _ _ rfl (g7) rfl (3) 4 rfl (by omega) _ Tryz.underlying39 Tryz.sizeOf38) ?_
             simp only [pv]
             refine mx_putc 0 38 _ _ rfl (3) rfl rfl .u64 (((v' + c2) % 18446744073709551616 : Nat)) rfl Tryz.sizeOf38 (by rw [natC_size]; omega) (natC Ln) htop ?_
             simp only [Act.put]
             refine m_a ?_
             simp only [pv]
             refine mx_end ?_
             intro w10 hkw hrw _ _
             have e7 : Row w10 g7 (natC Ln) 39 := hrw 0 (39, natC Ln) rfl
             have hK' := hK.put hkw e7 x0 x4 x5 x6 x7
             clear hkw hrw e7 hK htop
             generalize (v' + c2) / 18446744073709551616 = ov2 at *
             iterate 2 go_step
             apply wp_region_mixp [] [_, _, _, _] trivial List.nodup_nil
             ·intro p
              refine m_m ?_
              refine m_m ?_
              simp only [pv]
              refine mx_val (.int .u64 ((ov + ov2 : Nat) : Int)) (exec_add_un _ _ _ _ rfl ov ov2 rfl rfl (by omega)) ?_
              refine m_a ?_
              simp only [pv]
              refine mx_end ?_
              intro w11 hkw _ _ _
              replace hK' := hK'.on hkw
              clear hkw
              go_wp2
              go_roundg g
              case measure => omega
              case rel =>
               have := HK.out
               exact ⟨k + 1, Ln, ov + ov2, by omega, rfl, by go_num, HN', hK'⟩
             ·rfl
            ·rfl
           ·rfl
          | succ g' =>
           have hil : (i : Int) < 3 := by omega
           have hb := lm_lt M (i + 1)
           have hl := lm_lt L' (i + 1)
           have hc := tlC_lt M o L' (i + 1) hoL
           have htm := fun w' => tmore_any o (lm M (i + 1)) (lm L' (i + 1)) (tlC M o L' (i + 1)) w' hoL hb hl hc
           have hset := mixL_step ((M * o + L') / 18446744073709551616) L' i _ (by omega) rfl
           rw [lm_down1, tl_limb] at hset
           have HC' : Hid (tlC M o L' (i + 1 + 1) = (lm M (i + 1) * o + lm L' (i + 1) + tlC M o L' (i + 1)) / 18446744073709551616) := tl_carry M o L' (i + 1)
           rw [Nat.mul_comm (lm M (i + 1))] at hset HC'
           have hcl := natC_get (mixL ((M * o + L') / 18446744073709551616) L' i) (i + 1) (by omega)
           rw [lm_mixL, if_neg (by omega)] at hcl
           have hcm := rg_cell M mi one sq (i + 1) (by omega)
           have HJ : Hid (i + (g' + 1) = 3) := hi
           clear hi HN' HC2 hL' hv1 HK hcb hca
           generalize mixL ((M * o + L') / 18446744073709551616) L' i = Lj at *
           obtain ⟨Lk, HLk⟩ : ∃ Lk, Hid (Lk = mixL ((M * o + L') / 18446744073709551616) L' (i + 1)) := ⟨_, rfl⟩
           rw [← HLk.out] at hset
           generalize tlC M o L' (i + 1) = cc at *
           generalize lm M (i + 1) = b at *
           generalize lm L' (i + 1) = l at *
           generalize (o * b + l + cc) % 18446744073709551616 = lo at *
           generalize (o * b + l + cc) / 18446744073709551616 = hi at *
           go_wp2
           apply wp_region_mix (by kernel_rfl) [(g7, 39, natC Lj)] [_, _, _, _, _, _, _, _, _, _, _, _, _, _, _, _, _, _, _, _, _] ⟨hK.l, trivial⟩ (by simp <;> omega)
           ·intro p
            refine m_m ?_
            refine m_m ?_
            refine m_m ?_
            refine m_m ?_
            simp only [pv]
            refine mx_val (.int .i64 ((i + 1 : Nat) : Int)) (exec_add_in _ _ _ _ rfl i 1 rfl rfl (by omega)) ?_
            simp only [pv]
            refine mx_val (.pointer (some ⟨g0, 0, none⟩)) (exec_nil _ rfl g0 0 rfl) ?_
            simp only [pv]
            refine mx_val (.pointer (some ⟨g0, 0, none⟩)) (exec_field 125 _ 0 rfl g0 0 rfl _ Tryz.underlying125 _ rfl 3 Tryz.sizeOf40) ?_
            simp only [pv]
            refine mx_val (.pointer (some ⟨g0, (i + 1), none⟩)) (exec_index 40 _ _ rfl (g0) rfl ((i + 1)) 4 rfl (by omega) _ Tryz.underlying40 Tryz.sizeOf38) ?_
            simp only [pv]
            refine mx_loadc 38 _ rfl _ ((i + 1)) rfl hK.r (by simp <;> omega) (.int .u64 b) hcm Tryz.isAgg38 ?_
            refine m_m ?_
            simp only [pv]
            refine mx_val (.int .i64 ((i + 1 : Nat) : Int)) (exec_add_in _ _ _ _ rfl i 1 rfl rfl (by omega)) ?_
            simp only [pv]
            refine mx_val (.pointer (some ⟨g7, (i + 1), none⟩)) (exec_index 39 _ _ rfl (g7) rfl ((i + 1)) 4 rfl (by omega) _ Tryz.underlying39 Tryz.sizeOf38) ?_
            simp only [pv]
            refine mx_loadcT 0 38 _ rfl ((i + 1)) rfl rfl (.int .u64 l) hcl Tryz.isAgg38 ?_
            refine m_m ?_
            simp only [pv]
            refine mx_call 148 _ _ rfl Tryz.func148 (by kernel_rfl) #[.int .u64 o, .int .u64 b, .int .u64 l, .int .u64 cc] rfl _ htm ?_
            refine m_m ?_
            refine m_e ?_
            refine m_e ?_
            simp only [pv]
            refine mx_val (.pointer (some ⟨g7, i, none⟩)) (exec_index 39 _ _ rfl (g7) rfl (i) 4 rfl (by omega) _ Tryz.underlying39 Tryz.sizeOf38) ?_
            simp only [pv]
            refine mx_putc 0 38 _ _ rfl (i) rfl rfl .u64 ((lo : Nat)) rfl Tryz.sizeOf38 (by rw [natC_size]; omega) (natC Lk) hset ?_
            simp only [Act.put]
            refine m_a ?_
            simp only [pv]
            refine mx_end ?_
            intro w9 hkw hrw _ _
            have e7 : Row w9 g7 (natC Lk) 39 := hrw 0 (39, natC Lk) rfl
            have hK' := hK.put hkw e7 x0 x4 x5 x6 x7
            clear hkw hrw e7 hK
            go_wp2
            go_roundg g'
            case measure => omega
            case rel =>
             have := HJ.out
             exact ⟨i + 1, by omega, by rw [HC'.out], by go_num, by rw [← HLk.out]; exact hK'⟩
           ·kernel_rfl
        ·kernel_rfl
       ·kernel_rfl
      ·rfl
     ·rfl
    | succ g' =>
     have hjl : (j : Int) < 4 := by omega
     have hj4 : j < 4 := by omega
     have hb := lm_lt B j
     have hl := lm_lt L j
     have hc := tlC_lt B a L j ha
     have htm := fun w' => tmore_any a (lm B j) (lm L j) (tlC B a L j) w' ha hb hl hc
     have hset := mixL_step (B * a + L) L j _ hj4 rfl
     rw [tl_limb] at hset
     have HC' : Hid (tlC B a L (j + 1) = (lm B j * a + lm L j + tlC B a L j) / 18446744073709551616) := tl_carry B a L j
     rw [Nat.mul_comm (lm B j)] at hset HC'
     have hcl := natC_get (mixL (B * a + L) L j) j hj4
     rw [lm_mixL, if_neg (Nat.lt_irrefl j)] at hcl
     have hcb := natC_get B j hj4
     have HJ : Hid (j + (g' + 1) = 4) := hj
     clear hj HN HC hL hA hB hM ho h2 hmi hml hAB HH hv1
     generalize mixL (B * a + L) L j = Lj at *
     obtain ⟨Lk, HLk⟩ : ∃ Lk, Hid (Lk = mixL (B * a + L) L (j + 1)) := ⟨_, rfl⟩
     rw [← HLk.out] at hset
     generalize tlC B a L j = c at *
     generalize lm B j = b at *
     generalize lm L j = l at *
     generalize (a * b + l + c) % 18446744073709551616 = lo at *
     generalize (a * b + l + c) / 18446744073709551616 = hi at *
     go_wp2
     apply wp_region_mix (by kernel_rfl) [(g7, 39, natC Lj)] [_, _, _, _, _, _, _, _, _, _, _, _, _, _, _, _, _, _] ⟨hJ.l, trivial⟩ (by simp <;> omega)
     ·intro p
      refine m_m ?_
      refine m_m ?_
      simp only [pv]
      refine mx_val (.pointer (some ⟨g4, k, none⟩)) (exec_index 40 _ _ rfl (g4) rfl (k) 4 rfl hk4 _ Tryz.underlying40 Tryz.sizeOf38) ?_
      simp only [pv]
      refine mx_loadc 38 _ rfl _ (k) rfl hJ.a (by simp <;> omega) (.int .u64 a) hca Tryz.isAgg38 ?_
      refine m_m ?_
      simp only [pv]
      refine mx_val (.pointer (some ⟨g5, j, none⟩)) (exec_index 40 _ _ rfl (g5) rfl (j) 4 rfl hj4 _ Tryz.underlying40 Tryz.sizeOf38) ?_
      simp only [pv]
      refine mx_loadc 38 _ rfl _ (j) rfl hJ.b (by simp <;> omega) (.int .u64 b) hcb Tryz.isAgg38 ?_
      refine m_m ?_
      simp only [pv]
      refine mx_val (.pointer (some ⟨g7, j, none⟩)) (exec_index 39 _ _ rfl (g7) rfl (j) 4 rfl hj4 _ Tryz.underlying39 Tryz.sizeOf38) ?_
      simp only [pv]
      refine mx_loadcT 0 38 _ rfl (j) rfl rfl (.int .u64 l) hcl Tryz.isAgg38 ?_
      refine m_m ?_
      simp only [pv]
      refine mx_call 148 _ _ rfl Tryz.func148 (by kernel_rfl) #[.int .u64 a, .int .u64 b, .int .u64 l, .int .u64 c] rfl _ htm ?_
      refine m_m ?_
      refine m_e ?_
      refine m_e ?_
      simp only [pv]
      refine mx_val (.pointer (some ⟨g7, j, none⟩)) (exec_index 39 _ _ rfl (g7) rfl (j) 4 rfl hj4 _ Tryz.underlying39 Tryz.sizeOf38) ?_
      simp only [pv]
      refine mx_putc 0 38 _ _ rfl (j) rfl rfl .u64 ((lo : Nat)) rfl Tryz.sizeOf38 (by rw [natC_size]; omega) (natC Lk) hset ?_
      simp only [Act.put]
      refine m_a ?_
      simp only [pv]
      refine mx_end ?_
      intro w5 hkw hrw _ _
      have e7 : Row w5 g7 (natC Lk) 39 := hrw 0 (39, natC Lk) rfl
      have hJ' := hJ.put hkw e7 x0 x4 x5 x6 x7
      clear hkw hrw e7 hJ
      go_wp2
      go_roundg g'
      case measure => omega
      case rel =>
       have := HJ.out
       exact ⟨j + 1, by omega, by rw [HC'.out], by go_num, by rw [← HLk.out]; exact hJ'⟩
     ·kernel_rfl
end Go.Proofs.YtgdalihjpemjiaaGreat
