/- WideGoes: for every three naturals products go over sums by the third, what is taken away and added is there again, and it does not matter which of two naturals is multiplied with which; no condition. -/
import Derived.Test.YteddgjoailpgaaaWAdd
import Derived.Test.YteddgjoailpgaaaWAwake
import Derived.Test.YteddgjoailpgaaaGU
namespace Go.Proofs.Yteddgjoailpgaaa
open Go.ChangeShapes Go.WideShapes Go.ChangeAt Go.RowKit
namespace wideGoesP
set_option maxRecDepth 100000 in
set_option maxHeartbeats 4000000 in
theorem core0 (A B M : Nat) (w : World) (hv : decide (M % 2 ^ 256 = 0 % 2 ^ 256) = true) :
  Calls Try.prog 4 #[.agg (natC A), .agg (natC B), .agg (natC M)] w fun e w' => e = .returned (.bool true) ∧ Below w.heap.size w w' := by
 have haw := awake2_any
 go_enter Try.func4, Try.ntmps4
 (repeat ((fail_if_success with_reducible refine rg ?_); go_step))
 apply wp_region_mixq [] [_, _, _, _] trivial List.nodup_nil rfl
 intro p
 refine mx_box 24 _ rfl _ rfl ?_
 simp only [Act.put, pu]
 refine mx_box 24 _ rfl _ rfl ?_
 simp only [Act.put, pu]
 refine mx_box 24 _ rfl _ rfl ?_
 simp only [Act.put, pu]
 refine mx_val (.bool false) (fun _ => rfl) ?_
 simp only [Act.put, pu]
 refine mx_end ?_
 intro vw1 hkw hrw hnew hdis
 have n5 := hnew 2 rfl
 have zr5 : Row vw1 (p 2) (natC M) 24 := hrw 5 (24, natC M) rfl
 have sb := hkw.below w.heap.size (Nat.le_refl _) (by simp)
 clear hkw hrw hnew hdis n5
 generalize p 2 = g5 at *
 have r5 := zr5
 clear zr5
 (repeat ((fail_if_success with_reducible refine rg ?_); go_step))
 apply wp_region_mixq [] [_, _, _] trivial List.nodup_nil rfl
 intro p
 refine mx_load 24 _ rfl _ rfl r5 (by simp <;> omega) 4 _ Try.underlying24 size_nat ?_
 simp only [Act.put, pu]
 refine mx_val (.agg (natC 0)) (exec_build0 24 rfl _ built_nat) ?_
 simp only [Act.put, pu]
 refine mx_val (.bool true) (fun w' => (exec_eql_nat _ _ _ rfl M 0 rfl rfl w').trans (by rw [hv])) ?_
 simp only [Act.put, pu]
 refine mx_end ?_
 intro vw2 hkw hrw hnew hdis
 clear r5
 replace sb := sb.trans (hkw.below w.heap.size sb.size (by simp <;> omega))
 clear hkw hrw hnew hdis
 (repeat ((fail_if_success with_reducible refine rg ?_); go_step))
 apply wp_region_mixq [] [_, _] trivial List.nodup_nil rfl
 intro p
 refine mx_call 15 _ _ rfl Try.func15 (by kernel_rfl) #[] rfl _ haw ?_
 simp only [Act.put, pu]
 refine mx_asg rfl rfl ?_
 simp only [Act.put, pu]
 refine mx_end ?_
 intro vw3 hkw hrw hnew hdis
 replace sb := sb.trans (hkw.below w.heap.size sb.size (by simp <;> omega))
 clear hkw hrw hnew hdis
 -- the rows that stand: 
 go_wp2
 go_ret
 exact ⟨rfl, sb⟩
set_option maxRecDepth 100000 in
set_option maxHeartbeats 4000000 in
theorem core1 (A B M C S L X Y R Z : Nat) (w : World) (hv : decide (M % 2 ^ 256 = 0 % 2 ^ 256) = false) (hC : natC C = #[.int .u64 (lm A 3 : Nat), .int .u64 (lm B 2 : Nat), .int .u64 (lm A 1 : Nat), .int .u64 (lm B 0 : Nat)])
  (hs : ∀ w', Calls Try.prog 9 #[.agg (natC A), .agg (natC B), .agg (natC M)] w' fun e w2 => e = .returned (.tuple #[.agg (natC S), .int .i64 0]) ∧ Below w'.heap.size w' w2)
  (hl : ∀ w', Calls Try.prog 13 #[.agg (natC C), .agg (natC S), .agg (natC M)] w' fun e w2 => e = .returned (.tuple #[.agg (natC L), .int .i64 0]) ∧ Below w'.heap.size w' w2)
  (hx : ∀ w', Calls Try.prog 13 #[.agg (natC C), .agg (natC A), .agg (natC M)] w' fun e w2 => e = .returned (.tuple #[.agg (natC X), .int .i64 0]) ∧ Below w'.heap.size w' w2)
  (hy : ∀ w', Calls Try.prog 13 #[.agg (natC C), .agg (natC B), .agg (natC M)] w' fun e w2 => e = .returned (.tuple #[.agg (natC Y), .int .i64 0]) ∧ Below w'.heap.size w' w2)
  (hr : ∀ w', Calls Try.prog 9 #[.agg (natC X), .agg (natC Y), .agg (natC M)] w' fun e w2 => e = .returned (.tuple #[.agg (natC L), .int .i64 0]) ∧ Below w'.heap.size w' w2)
  (hd : ∀ w', Calls Try.prog 11 #[.agg (natC S), .agg (natC B), .agg (natC M)] w' fun e w2 => e = .returned (.tuple #[.agg (natC R), .int .i64 0]) ∧ Below w'.heap.size w' w2)
  (hm : ∀ w', Calls Try.prog 16 #[.agg (natC A), .agg (natC 0), .agg (natC M)] w' fun e w2 => e = .returned (.tuple #[.agg (natC R), .int .i64 0]) ∧ Below w'.heap.size w' w2)
  (hxy : ∀ w', Calls Try.prog 13 #[.agg (natC A), .agg (natC B), .agg (natC M)] w' fun e w2 => e = .returned (.tuple #[.agg (natC Z), .int .i64 0]) ∧ Below w'.heap.size w' w2)
  (hyx : ∀ w', Calls Try.prog 13 #[.agg (natC B), .agg (natC A), .agg (natC M)] w' fun e w2 => e = .returned (.tuple #[.agg (natC Z), .int .i64 0]) ∧ Below w'.heap.size w' w2)
  (hc : ∀ w', Calls Try.prog 17 #[.agg (natC L), .agg (natC M)] w' fun e w2 => e = .returned (.int .i64 (-1)) ∧ Below w'.heap.size w' w2) :
  Calls Try.prog 4 #[.agg (natC A), .agg (natC B), .agg (natC M)] w fun e w' => e = .returned (.bool true) ∧ Below w.heap.size w w' := by
 have haw := awake2_any
 go_enter Try.func4, Try.ntmps4
 (repeat ((fail_if_success with_reducible refine rg ?_); go_step))
 apply wp_region_mixq [] [_, _, _, _] trivial List.nodup_nil rfl
 intro p
 refine mx_box 24 _ rfl _ rfl ?_
 simp only [Act.put, pu]
 refine mx_box 24 _ rfl _ rfl ?_
 simp only [Act.put, pu]
 refine mx_box 24 _ rfl _ rfl ?_
 simp only [Act.put, pu]
 refine mx_val (.bool false) (fun _ => rfl) ?_
 simp only [Act.put, pu]
 refine mx_end ?_
 intro vw1 hkw hrw hnew hdis
 have n3 := hnew 0 rfl
 have n4 := hnew 1 rfl
 have n5 := hnew 2 rfl
 have zr3 : Row vw1 (p 0) (natC A) 24 := hrw 1 (24, natC A) rfl
 have zr4 : Row vw1 (p 1) (natC B) 24 := hrw 3 (24, natC B) rfl
 have zr5 : Row vw1 (p 2) (natC M) 24 := hrw 5 (24, natC M) rfl
 have sb := hkw.below w.heap.size (Nat.le_refl _) (by simp)
 clear hkw hrw hnew hdis n3 n4 n5
 generalize p 0 = g3 at *
 generalize p 1 = g4 at *
 generalize p 2 = g5 at *
 have r3 := zr3
 clear zr3
 have r4 := zr4
 clear zr4
 have r5 := zr5
 clear zr5
 (repeat ((fail_if_success with_reducible refine rg ?_); go_step))
 apply wp_region_mixq [] [_, _, _] trivial List.nodup_nil rfl
 intro p
 refine mx_load 24 _ rfl _ rfl r5 (by simp <;> omega) 4 _ Try.underlying24 size_nat ?_
 simp only [Act.put, pu]
 refine mx_val (.agg (natC 0)) (exec_build0 24 rfl _ built_nat) ?_
 simp only [Act.put, pu]
 refine mx_val (.bool false) (fun w' => (exec_eql_nat _ _ _ rfl M 0 rfl rfl w').trans (by rw [hv])) ?_
 simp only [Act.put, pu]
 refine mx_end ?_
 intro vw2 hkw hrw hnew hdis
 replace r3 := hkw.row r3 (by simp <;> omega)
 replace r4 := hkw.row r4 (by simp <;> omega)
 replace r5 := hkw.row r5 (by simp <;> omega)
 replace sb := sb.trans (hkw.below w.heap.size sb.size (by simp <;> omega))
 clear hkw hrw hnew hdis
 (repeat ((fail_if_success with_reducible refine rg ?_); go_step))
 apply wp_region_mixq [] [_, _, _, _, _, _, _, _, _, _, _] trivial List.nodup_nil rfl
 intro p
 refine mx_val (.pointer (some ⟨g3, 3, none⟩)) (exec_index 24 _ _ rfl (g3) rfl (3) 4 rfl (by omega) _ Try.underlying24 Try.sizeOf22) ?_
 simp only [Act.put, pu]
 refine mx_loadc 22 _ rfl _ (3) rfl r3 (by simp <;> omega) (.int .u64 (lm (A) 3 : Nat)) (natC_get A 3 (by omega)) Try.isAgg22 ?_
 simp only [Act.put, pu]
 refine mx_val (.pointer (some ⟨g4, 2, none⟩)) (exec_index 24 _ _ rfl (g4) rfl (2) 4 rfl (by omega) _ Try.underlying24 Try.sizeOf22) ?_
 simp only [Act.put, pu]
 refine mx_loadc 22 _ rfl _ (2) rfl r4 (by simp <;> omega) (.int .u64 (lm (B) 2 : Nat)) (natC_get B 2 (by omega)) Try.isAgg22 ?_
 simp only [Act.put, pu]
 refine mx_val (.pointer (some ⟨g3, 1, none⟩)) (exec_index 24 _ _ rfl (g3) rfl (1) 4 rfl (by omega) _ Try.underlying24 Try.sizeOf22) ?_
 simp only [Act.put, pu]
 refine mx_loadc 22 _ rfl _ (1) rfl r3 (by simp <;> omega) (.int .u64 (lm (A) 1 : Nat)) (natC_get A 1 (by omega)) Try.isAgg22 ?_
 simp only [Act.put, pu]
 refine mx_val (.pointer (some ⟨g4, 0, none⟩)) (exec_index 24 _ _ rfl (g4) rfl (0) 4 rfl (by omega) _ Try.underlying24 Try.sizeOf22) ?_
 simp only [Act.put, pu]
 refine mx_loadc 22 _ rfl _ (0) rfl r4 (by simp <;> omega) (.int .u64 (lm (B) 0 : Nat)) (natC_get B 0 (by omega)) Try.isAgg22 ?_
 simp only [Act.put, pu]
 refine mx_val (.agg (natC C)) (exec_lit4 rfl _ _ _ _ rfl rfl rfl rfl hC) ?_
 simp only [Act.put, pu]
 refine mx_new 24 rfl _ zero_nat ?_
 simp only [Act.put, pu]
 refine mx_put 19 24 _ _ rfl rfl rfl (natC C) rfl (by exact size_nat) (by simp only [natC_size]) (natC_one _) ?_
 simp only [Act.put]
 refine mx_end ?_
 intro vw3 hkw hrw hnew hdis
 have n7 := hnew 9 rfl
 have zr7 : Row vw3 (p 9) (natC C) 24 := hrw 19 (24, natC C) rfl
 replace r3 := hkw.row r3 (by simp <;> omega)
 replace r4 := hkw.row r4 (by simp <;> omega)
 replace r5 := hkw.row r5 (by simp <;> omega)
 replace sb := sb.trans (hkw.below w.heap.size sb.size (by simp <;> omega))
 clear hkw hrw hnew hdis n7
 generalize p 9 = g7 at *
 have r7 := zr7
 clear zr7
 (repeat ((fail_if_success with_reducible refine rg ?_); go_step))
 apply wp_region_mixq [] [_, _, _, _, _, _, _, _, _, _] trivial List.nodup_nil rfl
 intro p
 refine mx_load 24 _ rfl _ rfl r3 (by simp <;> omega) 4 _ Try.underlying24 size_nat ?_
 simp only [Act.put, pu]
 refine mx_load 24 _ rfl _ rfl r4 (by simp <;> omega) 4 _ Try.underlying24 size_nat ?_
 simp only [Act.put, pu]
 refine mx_load 24 _ rfl _ rfl r5 (by simp <;> omega) 4 _ Try.underlying24 size_nat ?_
 simp only [Act.put, pu]
 refine mx_call 9 _ _ rfl Try.func9 (by kernel_rfl) #[.agg (natC A), .agg (natC B), .agg (natC M)] rfl _ hs ?_
 simp only [Act.put, pu]
 refine mx_move rfl rfl ?_
 simp only [Act.put, pu]
 refine mx_ext rfl rfl rfl ?_
 simp only [Act.put, pu]
 refine mx_ext rfl rfl rfl ?_
 simp only [Act.put, pu]
 refine mx_new 24 rfl _ zero_nat ?_
 simp only [Act.put, pu]
 refine mx_put 15 24 _ _ rfl rfl rfl (natC S) rfl (by exact size_nat) (by simp only [natC_size]) (natC_one _) ?_
 simp only [Act.put]
 refine mx_asg rfl rfl ?_
 simp only [Act.put, pu]
 refine mx_end ?_
 intro vw4 hkw hrw hnew hdis
 have n8 := hnew 7 rfl
 have zr8 : Row vw4 (p 7) (natC S) 24 := hrw 15 (24, natC S) rfl
 replace r3 := hkw.row r3 (by simp <;> omega)
 replace r4 := hkw.row r4 (by simp <;> omega)
 replace r5 := hkw.row r5 (by simp <;> omega)
 replace r7 := hkw.row r7 (by simp <;> omega)
 replace sb := sb.trans (hkw.below w.heap.size sb.size (by simp <;> omega))
 clear hkw hrw hnew hdis n8
 generalize p 7 = g8 at *
 have r8 := zr8
 clear zr8
 (repeat ((fail_if_success with_reducible refine rg ?_); go_step))
 apply wp_region_mixq [] [_, _, _, _, _, _, _, _, _, _] trivial List.nodup_nil rfl
 intro p
 refine mx_load 24 _ rfl _ rfl r7 (by simp <;> omega) 4 _ Try.underlying24 size_nat ?_
 simp only [Act.put, pu]
 refine mx_load 24 _ rfl _ rfl r8 (by simp <;> omega) 4 _ Try.underlying24 size_nat ?_
 simp only [Act.put, pu]
 refine mx_load 24 _ rfl _ rfl r5 (by simp <;> omega) 4 _ Try.underlying24 size_nat ?_
 simp only [Act.put, pu]
 refine mx_call 13 _ _ rfl Try.func13 (by kernel_rfl) #[.agg (natC C), .agg (natC S), .agg (natC M)] rfl _ hl ?_
 simp only [Act.put, pu]
 refine mx_move rfl rfl ?_
 simp only [Act.put, pu]
 refine mx_ext rfl rfl rfl ?_
 simp only [Act.put, pu]
 refine mx_ext rfl rfl rfl ?_
 simp only [Act.put, pu]
 refine mx_new 24 rfl _ zero_nat ?_
 simp only [Act.put, pu]
 refine mx_put 15 24 _ _ rfl rfl rfl (natC L) rfl (by exact size_nat) (by simp only [natC_size]) (natC_one _) ?_
 simp only [Act.put]
 refine mx_asg rfl rfl ?_
 simp only [Act.put, pu]
 refine mx_end ?_
 intro vw5 hkw hrw hnew hdis
 have n10 := hnew 7 rfl
 have zr10 : Row vw5 (p 7) (natC L) 24 := hrw 15 (24, natC L) rfl
 replace r3 := hkw.row r3 (by simp <;> omega)
 replace r4 := hkw.row r4 (by simp <;> omega)
 replace r5 := hkw.row r5 (by simp <;> omega)
 replace r7 := hkw.row r7 (by simp <;> omega)
 replace r8 := hkw.row r8 (by simp <;> omega)
 replace sb := sb.trans (hkw.below w.heap.size sb.size (by simp <;> omega))
 clear hkw hrw hnew hdis n10
 generalize p 7 = g10 at *
 have r10 := zr10
 clear zr10
 (repeat ((fail_if_success with_reducible refine rg ?_); go_step))
 apply wp_region_mixq [] [_, _, _, _, _, _, _, _, _, _] trivial List.nodup_nil rfl
 intro p
 refine mx_load 24 _ rfl _ rfl r7 (by simp <;> omega) 4 _ Try.underlying24 size_nat ?_
 simp only [Act.put, pu]
 refine mx_load 24 _ rfl _ rfl r3 (by simp <;> omega) 4 _ Try.underlying24 size_nat ?_
 simp only [Act.put, pu]
 refine mx_load 24 _ rfl _ rfl r5 (by simp <;> omega) 4 _ Try.underlying24 size_nat ?_
 simp only [Act.put, pu]
 refine mx_call 13 _ _ rfl Try.func13 (by kernel_rfl) #[.agg (natC C), .agg (natC A), .agg (natC M)] rfl _ hx ?_
 simp only [Act.put, pu]
 refine mx_move rfl rfl ?_
 simp only [Act.put, pu]
 refine mx_ext rfl rfl rfl ?_
 simp only [Act.put, pu]
 refine mx_ext rfl rfl rfl ?_
 simp only [Act.put, pu]
 refine mx_new 24 rfl _ zero_nat ?_
 simp only [Act.put, pu]
 refine mx_put 15 24 _ _ rfl rfl rfl (natC X) rfl (by exact size_nat) (by simp only [natC_size]) (natC_one _) ?_
 simp only [Act.put]
 refine mx_asg rfl rfl ?_
 simp only [Act.put, pu]
 refine mx_end ?_
 intro vw6 hkw hrw hnew hdis
 have n12 := hnew 7 rfl
 have zr12 : Row vw6 (p 7) (natC X) 24 := hrw 15 (24, natC X) rfl
 replace r3 := hkw.row r3 (by simp <;> omega)
 replace r4 := hkw.row r4 (by simp <;> omega)
 replace r5 := hkw.row r5 (by simp <;> omega)
 replace r7 := hkw.row r7 (by simp <;> omega)
 replace r8 := hkw.row r8 (by simp <;> omega)
 replace r10 := hkw.row r10 (by simp <;> omega)
 replace sb := sb.trans (hkw.below w.heap.size sb.size (by simp <;> omega))
 clear hkw hrw hnew hdis n12
 generalize p 7 = g12 at *
 have r12 := zr12
 clear zr12
 (repeat ((fail_if_success with_reducible refine rg ?_); go_step))
 apply wp_region_mixq [] [_, _, _, _, _, _, _, _, _, _] trivial List.nodup_nil rfl
 intro p
 refine mx_load 24 _ rfl _ rfl r7 (by simp <;> omega) 4 _ Try.underlying24 size_nat ?_
 simp only [Act.put, pu]
 refine mx_load 24 _ rfl _ rfl r4 (by simp <;> omega) 4 _ Try.underlying24 size_nat ?_
 simp only [Act.put, pu]
 refine mx_load 24 _ rfl _ rfl r5 (by simp <;> omega) 4 _ Try.underlying24 size_nat ?_
 simp only [Act.put, pu]
 refine mx_call 13 _ _ rfl Try.func13 (by kernel_rfl) #[.agg (natC C), .agg (natC B), .agg (natC M)] rfl _ hy ?_
 simp only [Act.put, pu]
 refine mx_move rfl rfl ?_
 simp only [Act.put, pu]
 refine mx_ext rfl rfl rfl ?_
 simp only [Act.put, pu]
 refine mx_ext rfl rfl rfl ?_
 simp only [Act.put, pu]
 refine mx_new 24 rfl _ zero_nat ?_
 simp only [Act.put, pu]
 refine mx_put 15 24 _ _ rfl rfl rfl (natC Y) rfl (by exact size_nat) (by simp only [natC_size]) (natC_one _) ?_
 simp only [Act.put]
 refine mx_asg rfl rfl ?_
 simp only [Act.put, pu]
 refine mx_end ?_
 intro vw7 hkw hrw hnew hdis
 have n14 := hnew 7 rfl
 have zr14 : Row vw7 (p 7) (natC Y) 24 := hrw 15 (24, natC Y) rfl
 replace r3 := hkw.row r3 (by simp <;> omega)
 replace r4 := hkw.row r4 (by simp <;> omega)
 replace r5 := hkw.row r5 (by simp <;> omega)
 clear r7
 replace r8 := hkw.row r8 (by simp <;> omega)
 replace r10 := hkw.row r10 (by simp <;> omega)
 replace r12 := hkw.row r12 (by simp <;> omega)
 replace sb := sb.trans (hkw.below w.heap.size sb.size (by simp <;> omega))
 clear hkw hrw hnew hdis n14
 generalize p 7 = g14 at *
 have r14 := zr14
 clear zr14
 (repeat ((fail_if_success with_reducible refine rg ?_); go_step))
 apply wp_region_mixq [] [_, _, _, _, _, _, _, _, _, _] trivial List.nodup_nil rfl
 intro p
 refine mx_load 24 _ rfl _ rfl r12 (by simp <;> omega) 4 _ Try.underlying24 size_nat ?_
 simp only [Act.put, pu]
 refine mx_load 24 _ rfl _ rfl r14 (by simp <;> omega) 4 _ Try.underlying24 size_nat ?_
 simp only [Act.put, pu]
 refine mx_load 24 _ rfl _ rfl r5 (by simp <;> omega) 4 _ Try.underlying24 size_nat ?_
 simp only [Act.put, pu]
 refine mx_call 9 _ _ rfl Try.func9 (by kernel_rfl) #[.agg (natC X), .agg (natC Y), .agg (natC M)] rfl _ hr ?_
 simp only [Act.put, pu]
 refine mx_move rfl rfl ?_
 simp only [Act.put, pu]
 refine mx_ext rfl rfl rfl ?_
 simp only [Act.put, pu]
 refine mx_ext rfl rfl rfl ?_
 simp only [Act.put, pu]
 refine mx_new 24 rfl _ zero_nat ?_
 simp only [Act.put, pu]
 refine mx_put 15 24 _ _ rfl rfl rfl (natC L) rfl (by exact size_nat) (by simp only [natC_size]) (natC_one _) ?_
 simp only [Act.put]
 refine mx_asg rfl rfl ?_
 simp only [Act.put, pu]
 refine mx_end ?_
 intro vw8 hkw hrw hnew hdis
 have n16 := hnew 7 rfl
 have zr16 : Row vw8 (p 7) (natC L) 24 := hrw 15 (24, natC L) rfl
 replace r3 := hkw.row r3 (by simp <;> omega)
 replace r4 := hkw.row r4 (by simp <;> omega)
 replace r5 := hkw.row r5 (by simp <;> omega)
 replace r8 := hkw.row r8 (by simp <;> omega)
 replace r10 := hkw.row r10 (by simp <;> omega)
 clear r12
 clear r14
 replace sb := sb.trans (hkw.below w.heap.size sb.size (by simp <;> omega))
 clear hkw hrw hnew hdis n16
 generalize p 7 = g16 at *
 have r16 := zr16
 clear zr16
 (repeat ((fail_if_success with_reducible refine rg ?_); go_step))
 apply wp_region_mixq [] [_, _, _, _, _, _, _, _, _, _] trivial List.nodup_nil rfl
 intro p
 refine mx_load 24 _ rfl _ rfl r8 (by simp <;> omega) 4 _ Try.underlying24 size_nat ?_
 simp only [Act.put, pu]
 refine mx_load 24 _ rfl _ rfl r4 (by simp <;> omega) 4 _ Try.underlying24 size_nat ?_
 simp only [Act.put, pu]
 refine mx_load 24 _ rfl _ rfl r5 (by simp <;> omega) 4 _ Try.underlying24 size_nat ?_
 simp only [Act.put, pu]
 refine mx_call 11 _ _ rfl Try.func11 (by kernel_rfl) #[.agg (natC S), .agg (natC B), .agg (natC M)] rfl _ hd ?_
 simp only [Act.put, pu]
 refine mx_move rfl rfl ?_
 simp only [Act.put, pu]
 refine mx_ext rfl rfl rfl ?_
 simp only [Act.put, pu]
 refine mx_ext rfl rfl rfl ?_
 simp only [Act.put, pu]
 refine mx_new 24 rfl _ zero_nat ?_
 simp only [Act.put, pu]
 refine mx_put 15 24 _ _ rfl rfl rfl (natC R) rfl (by exact size_nat) (by simp only [natC_size]) (natC_one _) ?_
 simp only [Act.put]
 refine mx_asg rfl rfl ?_
 simp only [Act.put, pu]
 refine mx_end ?_
 intro vw9 hkw hrw hnew hdis
 have n18 := hnew 7 rfl
 have zr18 : Row vw9 (p 7) (natC R) 24 := hrw 15 (24, natC R) rfl
 replace r3 := hkw.row r3 (by simp <;> omega)
 replace r4 := hkw.row r4 (by simp <;> omega)
 replace r5 := hkw.row r5 (by simp <;> omega)
 clear r8
 replace r10 := hkw.row r10 (by simp <;> omega)
 replace r16 := hkw.row r16 (by simp <;> omega)
 replace sb := sb.trans (hkw.below w.heap.size sb.size (by simp <;> omega))
 clear hkw hrw hnew hdis n18
 generalize p 7 = g18 at *
 have r18 := zr18
 clear zr18
 (repeat ((fail_if_success with_reducible refine rg ?_); go_step))
 apply wp_region_mixq [] [_, _, _, _, _, _, _, _, _, _] trivial List.nodup_nil rfl
 intro p
 refine mx_load 24 _ rfl _ rfl r3 (by simp <;> omega) 4 _ Try.underlying24 size_nat ?_
 simp only [Act.put, pu]
 refine mx_val (.agg (natC 0)) (exec_build0 24 rfl _ built_nat) ?_
 simp only [Act.put, pu]
 refine mx_load 24 _ rfl _ rfl r5 (by simp <;> omega) 4 _ Try.underlying24 size_nat ?_
 simp only [Act.put, pu]
 refine mx_call 16 _ _ rfl Try.func16 (by kernel_rfl) #[.agg (natC A), .agg (natC 0), .agg (natC M)] rfl _ hm ?_
 simp only [Act.put, pu]
 refine mx_move rfl rfl ?_
 simp only [Act.put, pu]
 refine mx_ext rfl rfl rfl ?_
 simp only [Act.put, pu]
 refine mx_ext rfl rfl rfl ?_
 simp only [Act.put, pu]
 refine mx_new 24 rfl _ zero_nat ?_
 simp only [Act.put, pu]
 refine mx_put 15 24 _ _ rfl rfl rfl (natC R) rfl (by exact size_nat) (by simp only [natC_size]) (natC_one _) ?_
 simp only [Act.put]
 refine mx_asg rfl rfl ?_
 simp only [Act.put, pu]
 refine mx_end ?_
 intro vw10 hkw hrw hnew hdis
 have n20 := hnew 7 rfl
 have zr20 : Row vw10 (p 7) (natC R) 24 := hrw 15 (24, natC R) rfl
 replace r3 := hkw.row r3 (by simp <;> omega)
 replace r4 := hkw.row r4 (by simp <;> omega)
 replace r5 := hkw.row r5 (by simp <;> omega)
 replace r10 := hkw.row r10 (by simp <;> omega)
 replace r16 := hkw.row r16 (by simp <;> omega)
 replace r18 := hkw.row r18 (by simp <;> omega)
 replace sb := sb.trans (hkw.below w.heap.size sb.size (by simp <;> omega))
 clear hkw hrw hnew hdis n20
 generalize p 7 = g20 at *
 have r20 := zr20
 clear zr20
 (repeat ((fail_if_success with_reducible refine rg ?_); go_step))
 apply wp_region_mixq [] [_, _, _, _, _, _, _, _, _, _] trivial List.nodup_nil rfl
 intro p
 refine mx_load 24 _ rfl _ rfl r3 (by simp <;> omega) 4 _ Try.underlying24 size_nat ?_
 simp only [Act.put, pu]
 refine mx_load 24 _ rfl _ rfl r4 (by simp <;> omega) 4 _ Try.underlying24 size_nat ?_
 simp only [Act.put, pu]
 refine mx_load 24 _ rfl _ rfl r5 (by simp <;> omega) 4 _ Try.underlying24 size_nat ?_
 simp only [Act.put, pu]
 refine mx_call 13 _ _ rfl Try.func13 (by kernel_rfl) #[.agg (natC A), .agg (natC B), .agg (natC M)] rfl _ hxy ?_
 simp only [Act.put, pu]
 refine mx_move rfl rfl ?_
 simp only [Act.put, pu]
 refine mx_ext rfl rfl rfl ?_
 simp only [Act.put, pu]
 refine mx_ext rfl rfl rfl ?_
 simp only [Act.put, pu]
 refine mx_new 24 rfl _ zero_nat ?_
 simp only [Act.put, pu]
 refine mx_put 15 24 _ _ rfl rfl rfl (natC Z) rfl (by exact size_nat) (by simp only [natC_size]) (natC_one _) ?_
 simp only [Act.put]
 refine mx_asg rfl rfl ?_
 simp only [Act.put, pu]
 refine mx_end ?_
 intro vw11 hkw hrw hnew hdis
 have n22 := hnew 7 rfl
 have zr22 : Row vw11 (p 7) (natC Z) 24 := hrw 15 (24, natC Z) rfl
 replace r3 := hkw.row r3 (by simp <;> omega)
 replace r4 := hkw.row r4 (by simp <;> omega)
 replace r5 := hkw.row r5 (by simp <;> omega)
 replace r10 := hkw.row r10 (by simp <;> omega)
 replace r16 := hkw.row r16 (by simp <;> omega)
 replace r18 := hkw.row r18 (by simp <;> omega)
 replace r20 := hkw.row r20 (by simp <;> omega)
 replace sb := sb.trans (hkw.below w.heap.size sb.size (by simp <;> omega))
 clear hkw hrw hnew hdis n22
 generalize p 7 = g22 at *
 have r22 := zr22
 clear zr22
 (repeat ((fail_if_success with_reducible refine rg ?_); go_step))
 apply wp_region_mixq [] [_, _, _, _, _, _, _, _, _, _] trivial List.nodup_nil rfl
 intro p
 refine mx_load 24 _ rfl _ rfl r4 (by simp <;> omega) 4 _ Try.underlying24 size_nat ?_
 simp only [Act.put, pu]
 refine mx_load 24 _ rfl _ rfl r3 (by simp <;> omega) 4 _ Try.underlying24 size_nat ?_
 simp only [Act.put, pu]
 refine mx_load 24 _ rfl _ rfl r5 (by simp <;> omega) 4 _ Try.underlying24 size_nat ?_
 simp only [Act.put, pu]
 refine mx_call 13 _ _ rfl Try.func13 (by kernel_rfl) #[.agg (natC B), .agg (natC A), .agg (natC M)] rfl _ hyx ?_
 simp only [Act.put, pu]
 refine mx_move rfl rfl ?_
 simp only [Act.put, pu]
 refine mx_ext rfl rfl rfl ?_
 simp only [Act.put, pu]
 refine mx_ext rfl rfl rfl ?_
 simp only [Act.put, pu]
 refine mx_new 24 rfl _ zero_nat ?_
 simp only [Act.put, pu]
 refine mx_put 15 24 _ _ rfl rfl rfl (natC Z) rfl (by exact size_nat) (by simp only [natC_size]) (natC_one _) ?_
 simp only [Act.put]
 refine mx_asg rfl rfl ?_
 simp only [Act.put, pu]
 refine mx_end ?_
 intro vw12 hkw hrw hnew hdis
 have n24 := hnew 7 rfl
 have zr24 : Row vw12 (p 7) (natC Z) 24 := hrw 15 (24, natC Z) rfl
 clear r3
 clear r4
 replace r5 := hkw.row r5 (by simp <;> omega)
 replace r10 := hkw.row r10 (by simp <;> omega)
 replace r16 := hkw.row r16 (by simp <;> omega)
 replace r18 := hkw.row r18 (by simp <;> omega)
 replace r20 := hkw.row r20 (by simp <;> omega)
 replace r22 := hkw.row r22 (by simp <;> omega)
 replace sb := sb.trans (hkw.below w.heap.size sb.size (by simp <;> omega))
 clear hkw hrw hnew hdis n24
 generalize p 7 = g24 at *
 have r24 := zr24
 clear zr24
 (repeat ((fail_if_success with_reducible refine rg ?_); go_step))
 refine wp_region_qp ?_
 refine qw_load (by rfl) 24 _ rfl _ rfl r10 4 _ Try.underlying24 size_nat ?_
 simp only [Act.put, pu]
 refine qw_load (by rfl) 24 _ rfl _ rfl r16 4 _ Try.underlying24 size_nat ?_
 simp only [Act.put, pu]
 refine qw_value (by rfl) (.bool true) (fun w' => (exec_eql_nat _ _ _ rfl L L rfl rfl w').trans (by rw [decide_eq_true rfl])) ?_
 simp only [Act.put, pu]
 refine qw_move (by rfl) rfl rfl ?_
 simp only [Act.put, pu]
 refine qw_load (by rfl) 24 _ rfl _ rfl r18 4 _ Try.underlying24 size_nat ?_
 simp only [Act.put, pu]
 refine qw_load (by rfl) 24 _ rfl _ rfl r20 4 _ Try.underlying24 size_nat ?_
 simp only [Act.put, pu]
 refine qw_value (by rfl) (.bool true) (fun w' => (exec_eql_nat _ _ _ rfl R R rfl rfl w').trans (by rw [decide_eq_true rfl])) ?_
 simp only [Act.put, pu]
 refine qw_pick true (v := .bool true) (by rfl) rfl rfl rfl ?_
 simp only [Act.put, pu]
 refine qw_move (by rfl) rfl rfl ?_
 simp only [Act.put, pu]
 refine qw_load (by rfl) 24 _ rfl _ rfl r22 4 _ Try.underlying24 size_nat ?_
 simp only [Act.put, pu]
 refine qw_load (by rfl) 24 _ rfl _ rfl r24 4 _ Try.underlying24 size_nat ?_
 simp only [Act.put, pu]
 refine qw_value (by rfl) (.bool true) (fun w' => (exec_eql_nat _ _ _ rfl Z Z rfl rfl w').trans (by rw [decide_eq_true rfl])) ?_
 simp only [Act.put, pu]
 refine qw_pick true (v := .bool true) (by rfl) rfl rfl rfl ?_
 simp only [Act.put, pu]
 refine qw_move (by rfl) rfl rfl ?_
 simp only [Act.put, pu]
 refine qw_load (by rfl) 24 _ rfl _ rfl r10 4 _ Try.underlying24 size_nat ?_
 simp only [Act.put, pu]
 refine qw_load (by rfl) 24 _ rfl _ rfl r5 4 _ Try.underlying24 size_nat ?_
 simp only [Act.put, pu]
 refine qw_call (by rfl) 17 _ _ rfl Try.func17 (by kernel_rfl) #[.agg (natC L), .agg (natC M)] rfl _ hc ?_
 simp only [Act.put, pu]
 refine qw_value (by rfl) (.bool true) (exec_lss_i _ _ _ _ rfl (-1) 0 rfl rfl) ?_
 simp only [Act.put, pu]
 refine qw_pick true (v := .bool true) (by rfl) rfl rfl rfl ?_
 simp only [Act.put, pu]
 refine qw_move (by rfl) rfl rfl ?_
 simp only [Act.put, pu]
 refine qw_call (by rfl) 15 _ _ rfl Try.func15 (by kernel_rfl) #[] rfl _ haw ?_
 simp only [Act.put, pu]
 refine qw_pick true (v := .bool true) (by rfl) rfl rfl rfl ?_
 simp only [Act.put, pu]
 refine qw_asg (by rfl) rfl rfl ?_
 simp only [Act.put, pu]
 refine qw_nil ?_
 intro vw13 hqb
 clear r5
 clear r10
 clear r16
 clear r18
 clear r20
 clear r22
 clear r24
 replace sb := below_on sb (Nat.le_refl _) hqb
 clear hqb
 -- the rows that stand: 
 go_wp2
 go_ret
 exact ⟨rfl, sb⟩
theorem walk (A B M : Nat) (w : World) (hA : A < 2 ^ 256) (hB : B < 2 ^ 256) (hM : M < 2 ^ 256) :
  Calls Try.prog 4 #[.agg (natC A), .agg (natC B), .agg (natC M)] w fun e w' => e = .returned (.bool true) ∧ Below w.heap.size w w' := by
 rcases Nat.eq_zero_or_pos M with h0 | h0
 ·exact core0 A B M w (eqz_true h0)
 ·obtain ⟨hC, hC2⟩ := natC_of4 (lm A 3) (lm B 2) (lm A 1) (lm B 0) (lm_lt _ _) (lm_lt _ _) (lm_lt _ _) (lm_lt _ _)
  generalize lm A 3 + 18446744073709551616 * (lm B 2 + 18446744073709551616 * (lm A 1 + 18446744073709551616 * lm B 0)) = C at *
  have he : errI M = 0 := by unfold errI; rw [if_neg (by omega)]
  have hz : ∀ N, modZ N M = N % M := fun N => by unfold modZ; rw [if_neg (by omega)]
  have hlt : ∀ N, N % M < 2 ^ 256 := fun N => Nat.lt_trans (Nat.mod_lt N h0) hM
  have hs := fun w' => wadd_any A B M w' hA hB hM
  have hl := fun w' => wmulmod_any C ((A + B) % M) M w' hC2 (hlt _) hM
  have hx := fun w' => wmulmod_any C A M w' hC2 hA hM
  have hy := fun w' => wmulmod_any C B M w' hC2 hB hM
  have hr := fun w' => wadd_any (C * A % M) (C * B % M) M w' (hlt _) (hlt _) hM
  have hd := fun w' => wsub_any ((A + B) % M) B M w' (hlt _) hB hM
  have hm := fun w' => wrem_any A 0 M w' hA (by decide) hM
  have hxy := fun w' => wmulmod_any A B M w' hA hB hM
  have hyx := fun w' => wmulmod_any B A M w' hB hA hM
  have hc := fun w' => rcmp_any (C * ((A + B) % M) % M) M w' (hlt _) hM
  rw [show cmpI (C * ((A + B) % M) % M) M = -1 by unfold cmpI; rw [if_pos (Nat.mod_lt _ h0)]] at hc
  rw [he, hz] at hs hl hx hy hr hm hxy hyx
  rw [he, show subZ ((A + B) % M) B M = A % M from sub_back A B M h0] at hd
  rw [Nat.zero_mul, Nat.zero_add] at hm
  rw [Nat.mul_comm B A] at hyx
  rw [show (C * A % M + C * B % M) % M = C * ((A + B) % M) % M from over_sum A B C M] at hr
  exact core1 A B M C _ _ _ _ _ _ w (eqz_false (by omega) hM) hC hs hl hx hy hr hd hm hxy hyx hc
set_option maxRecDepth 100000 in
theorem lifted (os : Os) (started : os.Started) (H : Type) (enc : TypeId × Value → H) :
  ReturnsInHanded {} Try.checked os 4 .any (Rows.wideGoesSpec.pre6 enc Try.prog Try.f4 Rows.wideGoesRow.domain false) (Rows.wideGoesSpec.post enc Try.prog Try.f4 false true false false) := by
 refine returnsInHanded_of_change (C := Try.checked) own started (by kernel_rfl) Try.func4
  (ChangeSpec.witness6 (enc := enc) (C := Try.checked) false ⟨#[], #[.agg #[.int .u64 0, .int .u64 0, .int .u64 0, .int .u64 0], .agg #[.int .u64 0, .int .u64 0, .int .u64 0, .int .u64 0], .agg #[.int .u64 0, .int .u64 0, .int .u64 0, .int .u64 0]], []⟩ 8 (by kernel_rfl) (by kernel_rfl) (by kernel_rfl) (by kernel_rfl)) ?_
 intro W base args ds gs before hval0 hW hcnd _
 have hval : ∀ (j : Nat) t v, Try.f4.params[j]? = some t → args[j]? = some v → Value.okWide Try.prog W .any base t v := hval0
 have hW' := hW
 obtain ⟨p, q, hA0, hV, rfl, hfz, hnd⟩ := hW
 have hA : DataW.TrodAll enc Try.prog W 0 (fun _ => true) true Try.f4.params.toList args.toList ds p := hA0
 rw [Try.params4] at hA hval
 obtain ⟨v0, vs0, d0, ds0, p0, q0, hargs, rfl, rfl, h0, r0⟩ := trodAll_cons hA
 obtain ⟨v1, vs1, d1, ds1, p1, q1, rfl, rfl, rfl, h1, r1⟩ := trodAll_cons r0
 obtain ⟨v2, vs2, d2, ds2, p2, q2, rfl, rfl, rfl, h2, r2⟩ := trodAll_cons r1
 obtain ⟨rfl, rfl, rfl⟩ := trodAll_nil r2
 obtain rfl : args = #[v0, v1, v2] := by cases args; simp_all
 obtain ⟨rfl, rfl⟩ := trodVars_none hV
 have k0 := h0
 have lt0 := lt_of_trod h0
 obtain ⟨N0, hN0, rfl⟩ := open_nat (hval 0 24 v0 rfl rfl) h0
 have k1 := h1
 have lt1 := lt_of_trod h1
 obtain ⟨N1, hN1, rfl⟩ := open_nat (hval 1 24 v1 rfl rfl) h1
 have k2 := h2
 have lt2 := lt_of_trod h2
 obtain ⟨N2, hN2, rfl⟩ := open_nat (hval 2 24 v2 rfl rfl) h2
 clear hA0 hval0
 refine (walk N0 N1 N2 W hN0 hN1 hN2).mono fun e W' ⟨he, bel⟩ => ?_
 subst he
 exact ⟨_, rfl, _, _, _, [], _, [], hW', trodAll_mk1 (shut_bool Try.underlying4 _), (trodAll_cons_mk (Below.trod laidOut (by kernel_rfl) (of_decide_eq_true (by kernel_rfl)) k0 bel lt0) (trodAll_cons_mk (Below.trod laidOut (by kernel_rfl) (of_decide_eq_true (by kernel_rfl)) k1 bel lt1) (trodAll_cons_mk (Below.trod laidOut (by kernel_rfl) (of_decide_eq_true (by kernel_rfl)) k2 bel lt2) trodAll_mk0))), rfl, bel.frame _, fun h => by cases h⟩
theorem over : Rows.wideGoesRow.holds Try.pinned (OpenSpec.ofChange Rows.wideGoesSpec) :=
 OpenClaim.holds_of_wide 4 Try.f4 rfl rfl rfl rfl rfl rfl rfl ⟨rfl, rfl, rfl, rfl, rfl⟩ rfl rfl rfl rfl rfl (by kernel_rfl) Try.func4 (by kernel_rfl)
  (of_decide_eq_true (by kernel_rfl)) (by unfold Func.isWrapper; first | (rw [if_pos (by decide +kernel)]; kernel_rfl) | (rw [if_neg (by decide +kernel)]; exact ⟨rfl, rfl⟩))
  (fun os started H enc _ => lifted os started H enc)
end wideGoesP
/-- for every three naturals products go over sums by the third, what is taken away and added is there again, and it does not matter which of two naturals is multiplied with which; no condition. -/
theorem wideGoes_holds : Rows.WideGoesSaid := wideGoesP.over
end Go.Proofs.Yteddgjoailpgaaa
