/- What must come, whatever the arguments are: the check of the laws of layer 2. -/
import Derived.Test.YteddgjoailpgaaaGP
import Derived.Test.YteddgjoailpgaaaWI
import Derived.Test.YteddgjoailpgaaaGI
namespace Go.Proofs.Yteddgjoailpgaaa
open Go.RowKit
set_option maxRecDepth 100000 in
set_option maxHeartbeats 1000000 in
theorem of2_any (n : Nat) (w : World) (h : (n : Int) < 9223372036854775808) :
  Calls Try.prog 49 #[.int .i64 n] w fun e w' => e = .returned (.agg (natC n)) ∧ Below w.heap.size w w' := by
 have hin := fun w' => rint_any (n : Int) w' h
 rw [Int.toNat_natCast] at hin
 clear h
 go_enter Try.func49, Try.ntmps49
 (repeat ((fail_if_success with_reducible refine rg ?_); go_step))
 apply wp_region_mixq [] [_] trivial List.nodup_nil rfl
 intro p
 refine mx_new 24 rfl _ zero_nat ?_
 simp only [Act.put, pu]
 refine mx_end ?_
 intro vw1 hkw hrw hnew hdis
 have n2 := hnew 0 rfl
 have zr2 : Row vw1 (p 0) (natC 0) 24 := hrw 1 (24, natC 0) rfl
 have sb := hkw.below w.heap.size (Nat.le_refl _) (by simp)
 have b2 : w.heap.size ≤ p 0 := n2
 clear hkw hrw hnew hdis n2
 generalize p 0 = g2 at *
 have r2 := zr2
 clear zr2
 (repeat ((fail_if_success with_reducible refine rg ?_); go_step))
 apply wp_region_mixq [(g2, 24, natC 0)] [_, _, _] ⟨r2, trivial⟩ (by simp <;> omega) rfl
 intro p
 refine mx_move rfl rfl ?_
 simp only [Act.put, pu]
 refine mx_call 44 _ _ rfl Try.func44 (by kernel_rfl) #[.int .i64 n] rfl _ hin ?_
 simp only [Act.put, pu]
 refine mx_put 0 24 _ _ rfl rfl rfl (natC n) rfl (by exact size_nat) (by simp only [natC_size]) (natC_one _) ?_
 simp only [Act.put]
 refine mx_end ?_
 intro vw2 hkw hrw hnew hdis
 have zr2 : Row vw2 g2 (natC n) 24 := hrw 0 (24, natC n) rfl
 replace sb := sb.trans (hkw.below w.heap.size sb.size (by simp <;> omega))
 clear hkw hrw hnew hdis r2
 have r2 := zr2
 clear zr2
 -- the rows that stand: r2: natC n
 go_wp2
 exact ret_row rfl _ rfl r2 4 _ Try.underlying24 (by exact size_nat) rfl ⟨rfl, sb⟩
def aw128 : Nat := 340282366920938463463374607431768211456
theorem aw_inv : invZ 3 7 = 5 ∧ errV 3 7 = 0 := ⟨by decide +kernel, by decide +kernel⟩
theorem aw_lit {o : Oper} {ρ : Operand → Value} (n : Nat) (x : Operand) (ho : o.op = .build 24 #[(0, .const (.int .u64 0)), (1, .const (.int .u64 0)), (2, x)]) (h0 : ρ (.const (.int .u64 0)) = .int .u64 0) (h1 : ρ x = .int .u64 n) (hn : natC (n * aw128) = #[.int .u64 0, .int .u64 0, .int .u64 n, .int .u64 0]) (w : World)
  (hb : Try.prog.built 24 [(0, .int .u64 0), (1, .int .u64 0), (2, .int .u64 n)] = some #[.int .u64 0, .int .u64 0, .int .u64 n, .int .u64 0]) :
  (execOp ρ o).run Try.prog w = .ok (.value (.agg (natC (n * aw128)))) w := by
 unfold execOp
 simp only [ho, List.map_toArray, List.map_cons, List.map_nil, h0, h1, Sem.run_bind]
 rw [run_build w 24 _ (natC (n * aw128)) (by rw [hn]; exact hb)]
 rfl
set_option maxRecDepth 100000 in
set_option maxHeartbeats 4000000 in
theorem awake2_any (w : World) :
  Calls Try.prog 15 #[] w fun e w' => e = .returned (.bool true) ∧ Below w.heap.size w w' := by
 have o3 := fun w' => of2_any 3 w' (by decide)
 have o7 := fun w' => of2_any 7 w' (by decide)
 have o17 := fun w' => of2_any 17 w' (by decide)
 have o5 := fun w' => of2_any 5 w' (by decide)
 have o2 := fun w' => of2_any 2 w' (by decide)
 have o4 := fun w' => of2_any 4 w' (by decide)
 have o12 := fun w' => of2_any 12 w' (by decide)
 have o18 := fun w' => of2_any 18 w' (by decide)
 have o6 := fun w' => of2_any 6 w' (by decide)
 have hinv := fun w' => winv_any 3 7 w' (by decide) (by decide)
 rw [aw_inv.1, aw_inv.2] at hinv
 have hmul := fun w' => wmul_any (1 * aw128) (5 * aw128) w' (by decide) (by decide)
 rw [show natC (1 * aw128 * (5 * aw128)) = natC 0 from (natC_eq _ _).2 (by decide +kernel), show natC (1 * aw128 * (5 * aw128) / 2 ^ 256) = natC 5 from (natC_eq _ _).2 (by decide +kernel)] at hmul
 have hdiv := fun w' => wdiv_any 17 5 w' (by decide) (by decide)
 rw [show divZ 17 5 = 3 from rfl, show modZ 17 5 = 2 from rfl, show errI 5 = 0 from rfl] at hdiv
 have hsub := fun w' => wsub_any 2 5 7 w' (by decide) (by decide) (by decide)
 rw [show subZ 2 5 7 = 4 from rfl, show errI 7 = 0 from rfl] at hsub
 have hgcd := fun w' => wgcd_any 12 18 w' (by decide) (by decide)
 rw [show Nat.gcd 12 18 = 6 from by decide +kernel] at hgcd
 go_enter Try.func15, Try.ntmps15
 (repeat ((fail_if_success with_reducible refine rg ?_); go_step))
 apply wp_region_mixq [] [_] trivial List.nodup_nil rfl
 intro p
 refine mx_val (.bool false) (fun _ => rfl) ?_
 simp only [Act.put, List.setIfInBounds_toArray, List.set_cons_zero]
 refine mx_end ?_
 intro vw1 hkw hrw hnew hdis
 have sb := hkw.below w.heap.size (Nat.le_refl _) (by simp)
 clear hkw hrw hnew hdis
 (repeat ((fail_if_success with_reducible refine rg ?_); go_step))
 apply wp_region_mixq [] [_, _, _, _, _, _, _, _, _] trivial List.nodup_nil rfl
 intro p
 refine mx_call 49 _ _ rfl Try.func49 (by kernel_rfl) #[.int .i64 3] rfl _ o3 ?_
 simp only [Act.put, pu]
 refine mx_call 49 _ _ rfl Try.func49 (by kernel_rfl) #[.int .i64 7] rfl _ o7 ?_
 simp only [Act.put, pu]
 refine mx_call 48 _ _ rfl Try.func48 (by kernel_rfl) #[.agg (natC 3), .agg (natC 7)] rfl _ hinv ?_
 simp only [Act.put, pu]
 refine mx_move rfl rfl ?_
 simp only [Act.put, pu]
 refine mx_ext rfl rfl rfl ?_
 simp only [Act.put, pu]
 refine mx_ext rfl rfl rfl ?_
 simp only [Act.put, pu]
 refine mx_new 24 rfl _ zero_nat ?_
 simp only [Act.put, pu]
 refine mx_put 13 24 _ _ rfl rfl rfl (natC 5) rfl (by exact size_nat) (by simp only [natC_size]) (natC_one _) ?_
 simp only [Act.put]
 refine mx_asg rfl rfl ?_
 simp only [Act.put, pu]
 refine mx_end ?_
 intro vw2 hkw hrw hnew hdis
 have n1 := hnew 6 rfl
 have zr1 : Row vw2 (p 6) (natC 5) 24 := hrw 13 (24, natC 5) rfl
 replace sb := sb.trans (hkw.below w.heap.size sb.size (by simp <;> omega))
 clear hkw hrw hnew hdis n1
 generalize p 6 = g1 at *
 have r1 := zr1
 clear zr1
 (repeat ((fail_if_success with_reducible refine rg ?_); go_step))
 apply wp_region_mixq [] [_, _, _, _, _, _, _, _, _, _] trivial List.nodup_nil rfl
 intro p
 refine mx_val (.agg (natC (1 * aw128))) (fun w' => aw_lit 1 _ rfl rfl rfl (by kernel_rfl) w' (by kernel_rfl)) ?_
 simp only [Act.put, pu]
 refine mx_val (.agg (natC (5 * aw128))) (fun w' => aw_lit 5 _ rfl rfl rfl (by kernel_rfl) w' (by kernel_rfl)) ?_
 simp only [Act.put, pu]
 refine mx_call 46 _ _ rfl Try.func46 (by kernel_rfl) #[.agg (natC (1 * aw128)), .agg (natC (5 * aw128))] rfl _ hmul ?_
 simp only [Act.put, pu]
 refine mx_move rfl rfl ?_
 simp only [Act.put, pu]
 refine mx_ext rfl rfl rfl ?_
 simp only [Act.put, pu]
 refine mx_ext rfl rfl rfl ?_
 simp only [Act.put, pu]
 refine mx_new 24 rfl _ zero_nat ?_
 simp only [Act.put, pu]
 refine mx_new 24 rfl _ zero_nat ?_
 simp only [Act.put, pu]
 refine mx_put 13 24 _ _ rfl rfl rfl (natC 0) rfl (by exact size_nat) (by simp only [natC_size]) (natC_one _) ?_
 simp only [Act.put]
 refine mx_put 15 24 _ _ rfl rfl rfl (natC 5) rfl (by exact size_nat) (by simp only [natC_size]) (natC_one _) ?_
 simp only [Act.put]
 refine mx_end ?_
 intro vw3 hkw hrw hnew hdis
 have n3 := hnew 6 rfl
 have n4 := hnew 7 rfl
 have zr3 : Row vw3 (p 6) (natC 0) 24 := hrw 13 (24, natC 0) rfl
 have zr4 : Row vw3 (p 7) (natC 5) 24 := hrw 15 (24, natC 5) rfl
 replace r1 := hkw.row r1 (by simp <;> omega)
 replace sb := sb.trans (hkw.below w.heap.size sb.size (by simp <;> omega))
 clear hkw hrw hnew hdis n3 n4
 generalize p 6 = g3 at *
 generalize p 7 = g4 at *
 have r3 := zr3
 clear zr3
 have r4 := zr4
 clear zr4
 (repeat ((fail_if_success with_reducible refine rg ?_); go_step))
 apply wp_region_mixq [] [_, _, _, _, _, _, _, _, _, _, _, _] trivial List.nodup_nil rfl
 intro p
 refine mx_call 49 _ _ rfl Try.func49 (by kernel_rfl) #[.int .i64 17] rfl _ o17 ?_
 simp only [Act.put, pu]
 refine mx_call 49 _ _ rfl Try.func49 (by kernel_rfl) #[.int .i64 5] rfl _ o5 ?_
 simp only [Act.put, pu]
 refine mx_call 50 _ _ rfl Try.func50 (by kernel_rfl) #[.agg (natC 17), .agg (natC 5)] rfl _ hdiv ?_
 simp only [Act.put, pu]
 refine mx_move rfl rfl ?_
 simp only [Act.put, pu]
 refine mx_ext rfl rfl rfl ?_
 simp only [Act.put, pu]
 refine mx_ext rfl rfl rfl ?_
 simp only [Act.put, pu]
 refine mx_ext rfl rfl rfl ?_
 simp only [Act.put, pu]
 refine mx_new 24 rfl _ zero_nat ?_
 simp only [Act.put, pu]
 refine mx_new 24 rfl _ zero_nat ?_
 simp only [Act.put, pu]
 refine mx_put 15 24 _ _ rfl rfl rfl (natC 3) rfl (by exact size_nat) (by simp only [natC_size]) (natC_one _) ?_
 simp only [Act.put]
 refine mx_put 17 24 _ _ rfl rfl rfl (natC 2) rfl (by exact size_nat) (by simp only [natC_size]) (natC_one _) ?_
 simp only [Act.put]
 refine mx_asg rfl rfl ?_
 simp only [Act.put, pu]
 refine mx_end ?_
 intro vw4 hkw hrw hnew hdis
 have n5 := hnew 7 rfl
 have n6 := hnew 8 rfl
 have zr5 : Row vw4 (p 7) (natC 3) 24 := hrw 15 (24, natC 3) rfl
 have zr6 : Row vw4 (p 8) (natC 2) 24 := hrw 17 (24, natC 2) rfl
 replace r1 := hkw.row r1 (by simp <;> omega)
 replace r3 := hkw.row r3 (by simp <;> omega)
 replace r4 := hkw.row r4 (by simp <;> omega)
 replace sb := sb.trans (hkw.below w.heap.size sb.size (by simp <;> omega))
 clear hkw hrw hnew hdis n5 n6
 generalize p 7 = g5 at *
 generalize p 8 = g6 at *
 have r5 := zr5
 clear zr5
 have r6 := zr6
 clear zr6
 (repeat ((fail_if_success with_reducible refine rg ?_); go_step))
 apply wp_region_mixq [] [_, _, _, _, _, _, _, _, _, _] trivial List.nodup_nil rfl
 intro p
 refine mx_call 49 _ _ rfl Try.func49 (by kernel_rfl) #[.int .i64 2] rfl _ o2 ?_
 simp only [Act.put, pu]
 refine mx_call 49 _ _ rfl Try.func49 (by kernel_rfl) #[.int .i64 5] rfl _ o5 ?_
 simp only [Act.put, pu]
 refine mx_call 49 _ _ rfl Try.func49 (by kernel_rfl) #[.int .i64 7] rfl _ o7 ?_
 simp only [Act.put, pu]
 refine mx_call 11 _ _ rfl Try.func11 (by kernel_rfl) #[.agg (natC 2), .agg (natC 5), .agg (natC 7)] rfl _ hsub ?_
 simp only [Act.put, pu]
 refine mx_move rfl rfl ?_
 simp only [Act.put, pu]
 refine mx_ext rfl rfl rfl ?_
 simp only [Act.put, pu]
 refine mx_ext rfl rfl rfl ?_
 simp only [Act.put, pu]
 refine mx_new 24 rfl _ zero_nat ?_
 simp only [Act.put, pu]
 refine mx_put 15 24 _ _ rfl rfl rfl (natC 4) rfl (by exact size_nat) (by simp only [natC_size]) (natC_one _) ?_
 simp only [Act.put]
 refine mx_asg rfl rfl ?_
 simp only [Act.put, pu]
 refine mx_end ?_
 intro vw5 hkw hrw hnew hdis
 have n8 := hnew 7 rfl
 have zr8 : Row vw5 (p 7) (natC 4) 24 := hrw 15 (24, natC 4) rfl
 replace r1 := hkw.row r1 (by simp <;> omega)
 replace r3 := hkw.row r3 (by simp <;> omega)
 replace r4 := hkw.row r4 (by simp <;> omega)
 replace r5 := hkw.row r5 (by simp <;> omega)
 replace r6 := hkw.row r6 (by simp <;> omega)
 replace sb := sb.trans (hkw.below w.heap.size sb.size (by simp <;> omega))
 clear hkw hrw hnew hdis n8
 generalize p 7 = g8 at *
 have r8 := zr8
 clear zr8
 (repeat ((fail_if_success with_reducible refine rg ?_); go_step))
 refine wp_region_qw (by kernel_rfl) (by kernel_rfl) ?_
 refine qw_load (by rfl) 24 _ rfl _ rfl r1 4 _ Try.underlying24 size_nat ?_
 simp only [Act.put, pu]
 refine qw_call (by rfl) 49 _ _ rfl Try.func49 (by kernel_rfl) #[.int .i64 5] rfl _ o5 ?_
 simp only [Act.put, pu]
 refine qw_value (by rfl) (.bool true) (fun w' => (exec_eql_nat _ _ _ rfl 5 5 rfl rfl w').trans (by rw [decide_eq_true rfl])) ?_
 simp only [Act.put, pu]
 refine qw_move (by rfl) rfl rfl ?_
 simp only [Act.put, pu]
 refine qw_move (by rfl) rfl rfl ?_
 simp only [Act.put, pu]
 refine qw_value (by rfl) (.bool true) (exec_eql_int _ _ _ _ rfl _ _ rfl rfl) ?_
 simp only [Act.put, pu]
 refine qw_pick true (v := .bool true) (by rfl) rfl rfl rfl ?_
 simp only [Act.put, pu]
 refine qw_move (by rfl) rfl rfl ?_
 simp only [Act.put, pu]
 refine qw_load (by rfl) 24 _ rfl _ rfl r3 4 _ Try.underlying24 size_nat ?_
 simp only [Act.put, pu]
 refine qw_value (by rfl) (.agg (natC 0)) (exec_build0 24 rfl _ built_nat) ?_
 simp only [Act.put, pu]
 refine qw_value (by rfl) (.bool true) (fun w' => (exec_eql_nat _ _ _ rfl 0 0 rfl rfl w').trans (by rw [decide_eq_true rfl])) ?_
 simp only [Act.put, pu]
 refine qw_pick true (v := .bool true) (by rfl) rfl rfl rfl ?_
 simp only [Act.put, pu]
 refine qw_move (by rfl) rfl rfl ?_
 simp only [Act.put, pu]
 refine qw_load (by rfl) 24 _ rfl _ rfl r4 4 _ Try.underlying24 size_nat ?_
 simp only [Act.put, pu]
 refine qw_call (by rfl) 49 _ _ rfl Try.func49 (by kernel_rfl) #[.int .i64 5] rfl _ o5 ?_
 simp only [Act.put, pu]
 refine qw_value (by rfl) (.bool true) (fun w' => (exec_eql_nat _ _ _ rfl 5 5 rfl rfl w').trans (by rw [decide_eq_true rfl])) ?_
 simp only [Act.put, pu]
 refine qw_pick true (v := .bool true) (by rfl) rfl rfl rfl ?_
 simp only [Act.put, pu]
 refine qw_move (by rfl) rfl rfl ?_
 simp only [Act.put, pu]
 refine qw_load (by rfl) 24 _ rfl _ rfl r5 4 _ Try.underlying24 size_nat ?_
 simp only [Act.put, pu]
 refine qw_call (by rfl) 49 _ _ rfl Try.func49 (by kernel_rfl) #[.int .i64 3] rfl _ o3 ?_
 simp only [Act.put, pu]
 refine qw_value (by rfl) (.bool true) (fun w' => (exec_eql_nat _ _ _ rfl 3 3 rfl rfl w').trans (by rw [decide_eq_true rfl])) ?_
 simp only [Act.put, pu]
 refine qw_pick true (v := .bool true) (by rfl) rfl rfl rfl ?_
 simp only [Act.put, pu]
 refine qw_move (by rfl) rfl rfl ?_
 simp only [Act.put, pu]
 refine qw_load (by rfl) 24 _ rfl _ rfl r6 4 _ Try.underlying24 size_nat ?_
 simp only [Act.put, pu]
 refine qw_call (by rfl) 49 _ _ rfl Try.func49 (by kernel_rfl) #[.int .i64 2] rfl _ o2 ?_
 simp only [Act.put, pu]
 refine qw_value (by rfl) (.bool true) (fun w' => (exec_eql_nat _ _ _ rfl 2 2 rfl rfl w').trans (by rw [decide_eq_true rfl])) ?_
 simp only [Act.put, pu]
 refine qw_pick true (v := .bool true) (by rfl) rfl rfl rfl ?_
 simp only [Act.put, pu]
 refine qw_move (by rfl) rfl rfl ?_
 simp only [Act.put, pu]
 refine qw_move (by rfl) rfl rfl ?_
 simp only [Act.put, pu]
 refine qw_value (by rfl) (.bool true) (exec_eql_int _ _ _ _ rfl _ _ rfl rfl) ?_
 simp only [Act.put, pu]
 refine qw_pick true (v := .bool true) (by rfl) rfl rfl rfl ?_
 simp only [Act.put, pu]
 refine qw_move (by rfl) rfl rfl ?_
 simp only [Act.put, pu]
 refine qw_load (by rfl) 24 _ rfl _ rfl r8 4 _ Try.underlying24 size_nat ?_
 simp only [Act.put, pu]
 refine qw_call (by rfl) 49 _ _ rfl Try.func49 (by kernel_rfl) #[.int .i64 4] rfl _ o4 ?_
 simp only [Act.put, pu]
 refine qw_value (by rfl) (.bool true) (fun w' => (exec_eql_nat _ _ _ rfl 4 4 rfl rfl w').trans (by rw [decide_eq_true rfl])) ?_
 simp only [Act.put, pu]
 refine qw_pick true (v := .bool true) (by rfl) rfl rfl rfl ?_
 simp only [Act.put, pu]
 refine qw_move (by rfl) rfl rfl ?_
 simp only [Act.put, pu]
 refine qw_move (by rfl) rfl rfl ?_
 simp only [Act.put, pu]
 refine qw_value (by rfl) (.bool true) (exec_eql_int _ _ _ _ rfl _ _ rfl rfl) ?_
 simp only [Act.put, pu]
 refine qw_pick true (v := .bool true) (by rfl) rfl rfl rfl ?_
 simp only [Act.put, pu]
 refine qw_move (by rfl) rfl rfl ?_
 simp only [Act.put, pu]
 refine qw_call (by rfl) 49 _ _ rfl Try.func49 (by kernel_rfl) #[.int .i64 12] rfl _ o12 ?_
 simp only [Act.put, pu]
 refine qw_call (by rfl) 49 _ _ rfl Try.func49 (by kernel_rfl) #[.int .i64 18] rfl _ o18 ?_
 simp only [Act.put, pu]
 refine qw_call (by rfl) 51 _ _ rfl Try.func51 (by kernel_rfl) #[.agg (natC 12), .agg (natC 18)] rfl _ hgcd ?_
 simp only [Act.put, pu]
 refine qw_call (by rfl) 49 _ _ rfl Try.func49 (by kernel_rfl) #[.int .i64 6] rfl _ o6 ?_
 simp only [Act.put, pu]
 refine qw_value (by rfl) (.bool true) (fun w' => (exec_eql_nat _ _ _ rfl 6 6 rfl rfl w').trans (by rw [decide_eq_true rfl])) ?_
 simp only [Act.put, pu]
 refine qw_pick true (v := .bool true) (by rfl) rfl rfl rfl ?_
 simp only [Act.put, pu]
 refine qw_asg (by rfl) rfl rfl ?_
 simp only [Act.put, List.setIfInBounds_toArray, List.set_cons_zero]
 refine qw_nil ?_
 intro vw6 hqb
 clear r1
 clear r3
 clear r4
 clear r5
 clear r6
 clear r8
 replace sb := below_on sb (Nat.le_refl _) hqb
 clear hqb
 -- the rows that stand: 
 go_wp2
 go_ret
 exact ⟨rfl, sb⟩
end Go.Proofs.Yteddgjoailpgaaa
