/- WideMods: for every three naturals the program's sum, difference and product, by the third, are the document's; no condition. -/
import Derived.Test.YteddgjoailpgaaaWAdd
import Derived.Test.YteddgjoailpgaaaWAwake
import Derived.Test.YteddgjoailpgaaaGU
namespace Go.Proofs.Yteddgjoailpgaaa
open Go.ChangeShapes Go.WideShapes Go.ChangeAt Go.RowKit
namespace wideModsP
set_option maxRecDepth 100000 in
set_option maxHeartbeats 4000000 in
theorem core (A B M S D P : Nat) (e0 : Int) (w : World)
  (h0 : ∀ w', Calls Try.prog 9 #[.agg (natC A), .agg (natC B), .agg (natC M)] w' fun e w2 => e = .returned (.tuple #[.agg (natC S), .int .i64 e0]) ∧ Below w'.heap.size w' w2)
  (h1 : ∀ w', Calls Try.prog 10 #[.agg (natC A), .agg (natC B), .agg (natC M)] w' fun e w2 => e = .returned (.tuple #[.agg (natC S), .int .i64 e0]) ∧ Below w'.heap.size w' w2)
  (h2 : ∀ w', Calls Try.prog 11 #[.agg (natC A), .agg (natC B), .agg (natC M)] w' fun e w2 => e = .returned (.tuple #[.agg (natC D), .int .i64 e0]) ∧ Below w'.heap.size w' w2)
  (h3 : ∀ w', Calls Try.prog 12 #[.agg (natC A), .agg (natC B), .agg (natC M)] w' fun e w2 => e = .returned (.tuple #[.agg (natC D), .int .i64 e0]) ∧ Below w'.heap.size w' w2)
  (h4 : ∀ w', Calls Try.prog 13 #[.agg (natC A), .agg (natC B), .agg (natC M)] w' fun e w2 => e = .returned (.tuple #[.agg (natC P), .int .i64 e0]) ∧ Below w'.heap.size w' w2)
  (h5 : ∀ w', Calls Try.prog 14 #[.agg (natC A), .agg (natC B), .agg (natC M)] w' fun e w2 => e = .returned (.tuple #[.agg (natC P), .int .i64 e0]) ∧ Below w'.heap.size w' w2) :
  Calls Try.prog 3 #[.agg (natC A), .agg (natC B), .agg (natC M)] w fun e w' => e = .returned (.bool true) ∧ Below w.heap.size w w' := by
 have haw := awake2_any
 go_enter Try.func3, Try.ntmps3
 (repeat ((fail_if_success with_reducible refine rg ?_); go_step))
 apply wp_region_mixq [] [_, _, _, _] trivial List.nodup_nil rfl
 intro p
 refine mx_box 24 _ rfl _ rfl ?_
 simp only [Act.put, pu]
 refine mx_box 24 _ rfl _ rfl ?_
 simp only [Act.put, pu]
 refine mx_box 24 _ rfl _ rfl ?_
 simp only [Act.put, pu]
 refine mx_val (.bool false) (fun _ => rfl) ?_
 simp only [Act.put, pu]
 refine mx_end ?_
 intro vw1 hkw hrw hnew hdis
 have n3 := hnew 0 rfl
 have n4 := hnew 1 rfl
 have n5 := hnew 2 rfl
 have zr3 : Row vw1 (p 0) (natC A) 24 := hrw 1 (24, natC A) rfl
 have zr4 : Row vw1 (p 1) (natC B) 24 := hrw 3 (24, natC B) rfl
 have zr5 : Row vw1 (p 2) (natC M) 24 := hrw 5 (24, natC M) rfl
 have sb := hkw.below w.heap.size (Nat.le_refl _) (by simp)
 clear hkw hrw hnew hdis n3 n4 n5
 generalize p 0 = g3 at *
 generalize p 1 = g4 at *
 generalize p 2 = g5 at *
 have r3 := zr3
 clear zr3
 have r4 := zr4
 clear zr4
 have r5 := zr5
 clear zr5
 (repeat ((fail_if_success with_reducible refine rg ?_); go_step))
 apply wp_region_mixq [] [_, _, _, _, _, _, _, _, _, _] trivial List.nodup_nil rfl
 intro p
 refine mx_load 24 _ rfl _ rfl r3 (by simp <;> omega) 4 _ Try.underlying24 size_nat ?_
 simp only [Act.put, pu]
 refine mx_load 24 _ rfl _ rfl r4 (by simp <;> omega) 4 _ Try.underlying24 size_nat ?_
 simp only [Act.put, pu]
 refine mx_load 24 _ rfl _ rfl r5 (by simp <;> omega) 4 _ Try.underlying24 size_nat ?_
 simp only [Act.put, pu]
 refine mx_call 9 _ _ rfl Try.func9 (by kernel_rfl) #[.agg (natC A), .agg (natC B), .agg (natC M)] rfl _ h0 ?_
 simp only [Act.put, pu]
 refine mx_move rfl rfl ?_
 simp only [Act.put, pu]
 refine mx_ext rfl rfl rfl ?_
 simp only [Act.put, pu]
 refine mx_ext rfl rfl rfl ?_
 simp only [Act.put, pu]
 refine mx_new 24 rfl _ zero_nat ?_
 simp only [Act.put, pu]
 refine mx_put 15 24 _ _ rfl rfl rfl (natC S) rfl (by exact size_nat) (by simp only [natC_size]) (natC_one _) ?_
 simp only [Act.put]
 refine mx_asg rfl rfl ?_
 simp only [Act.put, pu]
 refine mx_end ?_
 intro vw2 hkw hrw hnew hdis
 have n7 := hnew 7 rfl
 have zr7 : Row vw2 (p 7) (natC S) 24 := hrw 15 (24, natC S) rfl
 replace r3 := hkw.row r3 (by simp <;> omega)
 replace r4 := hkw.row r4 (by simp <;> omega)
 replace r5 := hkw.row r5 (by simp <;> omega)
 replace sb := sb.trans (hkw.below w.heap.size sb.size (by simp <;> omega))
 clear hkw hrw hnew hdis n7
 generalize p 7 = g7 at *
 have r7 := zr7
 clear zr7
 (repeat ((fail_if_success with_reducible refine rg ?_); go_step))
 apply wp_region_mixq [] [_, _, _, _, _, _, _, _, _, _] trivial List.nodup_nil rfl
 intro p
 refine mx_load 24 _ rfl _ rfl r3 (by simp <;> omega) 4 _ Try.underlying24 size_nat ?_
 simp only [Act.put, pu]
 refine mx_load 24 _ rfl _ rfl r4 (by simp <;> omega) 4 _ Try.underlying24 size_nat ?_
 simp only [Act.put, pu]
 refine mx_load 24 _ rfl _ rfl r5 (by simp <;> omega) 4 _ Try.underlying24 size_nat ?_
 simp only [Act.put, pu]
 refine mx_call 10 _ _ rfl Try.func10 (by kernel_rfl) #[.agg (natC A), .agg (natC B), .agg (natC M)] rfl _ h1 ?_
 simp only [Act.put, pu]
 refine mx_move rfl rfl ?_
 simp only [Act.put, pu]
 refine mx_ext rfl rfl rfl ?_
 simp only [Act.put, pu]
 refine mx_ext rfl rfl rfl ?_
 simp only [Act.put, pu]
 refine mx_new 24 rfl _ zero_nat ?_
 simp only [Act.put, pu]
 refine mx_put 15 24 _ _ rfl rfl rfl (natC S) rfl (by exact size_nat) (by simp only [natC_size]) (natC_one _) ?_
 simp only [Act.put]
 refine mx_asg rfl rfl ?_
 simp only [Act.put, pu]
 refine mx_end ?_
 intro vw3 hkw hrw hnew hdis
 have n9 := hnew 7 rfl
 have zr9 : Row vw3 (p 7) (natC S) 24 := hrw 15 (24, natC S) rfl
 replace r3 := hkw.row r3 (by simp <;> omega)
 replace r4 := hkw.row r4 (by simp <;> omega)
 replace r5 := hkw.row r5 (by simp <;> omega)
 replace r7 := hkw.row r7 (by simp <;> omega)
 replace sb := sb.trans (hkw.below w.heap.size sb.size (by simp <;> omega))
 clear hkw hrw hnew hdis n9
 generalize p 7 = g9 at *
 have r9 := zr9
 clear zr9
 (repeat ((fail_if_success with_reducible refine rg ?_); go_step))
 apply wp_region_mixq [] [_, _, _, _, _, _, _, _, _, _] trivial List.nodup_nil rfl
 intro p
 refine mx_load 24 _ rfl _ rfl r3 (by simp <;> omega) 4 _ Try.underlying24 size_nat ?_
 simp only [Act.put, pu]
 refine mx_load 24 _ rfl _ rfl r4 (by simp <;> omega) 4 _ Try.underlying24 size_nat ?_
 simp only [Act.put, pu]
 refine mx_load 24 _ rfl _ rfl r5 (by simp <;> omega) 4 _ Try.underlying24 size_nat ?_
 simp only [Act.put, pu]
 refine mx_call 11 _ _ rfl Try.func11 (by kernel_rfl) #[.agg (natC A), .agg (natC B), .agg (natC M)] rfl _ h2 ?_
 simp only [Act.put, pu]
 refine mx_move rfl rfl ?_
 simp only [Act.put, pu]
 refine mx_ext rfl rfl rfl ?_
 simp only [Act.put, pu]
 refine mx_ext rfl rfl rfl ?_
 simp only [Act.put, pu]
 refine mx_new 24 rfl _ zero_nat ?_
 simp only [Act.put, pu]
 refine mx_put 15 24 _ _ rfl rfl rfl (natC D) rfl (by exact size_nat) (by simp only [natC_size]) (natC_one _) ?_
 simp only [Act.put]
 refine mx_asg rfl rfl ?_
 simp only [Act.put, pu]
 refine mx_end ?_
 intro vw4 hkw hrw hnew hdis
 have n11 := hnew 7 rfl
 have zr11 : Row vw4 (p 7) (natC D) 24 := hrw 15 (24, natC D) rfl
 replace r3 := hkw.row r3 (by simp <;> omega)
 replace r4 := hkw.row r4 (by simp <;> omega)
 replace r5 := hkw.row r5 (by simp <;> omega)
 replace r7 := hkw.row r7 (by simp <;> omega)
 replace r9 := hkw.row r9 (by simp <;> omega)
 replace sb := sb.trans (hkw.below w.heap.size sb.size (by simp <;> omega))
 clear hkw hrw hnew hdis n11
 generalize p 7 = g11 at *
 have r11 := zr11
 clear zr11
 (repeat ((fail_if_success with_reducible refine rg ?_); go_step))
 apply wp_region_mixq [] [_, _, _, _, _, _, _, _, _, _] trivial List.nodup_nil rfl
 intro p
 refine mx_load 24 _ rfl _ rfl r3 (by simp <;> omega) 4 _ Try.underlying24 size_nat ?_
 simp only [Act.put, pu]
 refine mx_load 24 _ rfl _ rfl r4 (by simp <;> omega) 4 _ Try.underlying24 size_nat ?_
 simp only [Act.put, pu]
 refine mx_load 24 _ rfl _ rfl r5 (by simp <;> omega) 4 _ Try.underlying24 size_nat ?_
 simp only [Act.put, pu]
 refine mx_call 12 _ _ rfl Try.func12 (by kernel_rfl) #[.agg (natC A), .agg (natC B), .agg (natC M)] rfl _ h3 ?_
 simp only [Act.put, pu]
 refine mx_move rfl rfl ?_
 simp only [Act.put, pu]
 refine mx_ext rfl rfl rfl ?_
 simp only [Act.put, pu]
 refine mx_ext rfl rfl rfl ?_
 simp only [Act.put, pu]
 refine mx_new 24 rfl _ zero_nat ?_
 simp only [Act.put, pu]
 refine mx_put 15 24 _ _ rfl rfl rfl (natC D) rfl (by exact size_nat) (by simp only [natC_size]) (natC_one _) ?_
 simp only [Act.put]
 refine mx_asg rfl rfl ?_
 simp only [Act.put, pu]
 refine mx_end ?_
 intro vw5 hkw hrw hnew hdis
 have n13 := hnew 7 rfl
 have zr13 : Row vw5 (p 7) (natC D) 24 := hrw 15 (24, natC D) rfl
 replace r3 := hkw.row r3 (by simp <;> omega)
 replace r4 := hkw.row r4 (by simp <;> omega)
 replace r5 := hkw.row r5 (by simp <;> omega)
 replace r7 := hkw.row r7 (by simp <;> omega)
 replace r9 := hkw.row r9 (by simp <;> omega)
 replace r11 := hkw.row r11 (by simp <;> omega)
 replace sb := sb.trans (hkw.below w.heap.size sb.size (by simp <;> omega))
 clear hkw hrw hnew hdis n13
 generalize p 7 = g13 at *
 have r13 := zr13
 clear zr13
 (repeat ((fail_if_success with_reducible refine rg ?_); go_step))
 apply wp_region_mixq [] [_, _, _, _, _, _, _, _, _, _] trivial List.nodup_nil rfl
 intro p
 refine mx_load 24 _ rfl _ rfl r3 (by simp <;> omega) 4 _ Try.underlying24 size_nat ?_
 simp only [Act.put, pu]
 refine mx_load 24 _ rfl _ rfl r4 (by simp <;> omega) 4 _ Try.underlying24 size_nat ?_
 simp only [Act.put, pu]
 refine mx_load 24 _ rfl _ rfl r5 (by simp <;> omega) 4 _ Try.underlying24 size_nat ?_
 simp only [Act.put, pu]
 refine mx_call 13 _ _ rfl Try.func13 (by kernel_rfl) #[.agg (natC A), .agg (natC B), .agg (natC M)] rfl _ h4 ?_
 simp only [Act.put, pu]
 refine mx_move rfl rfl ?_
 simp only [Act.put, pu]
 refine mx_ext rfl rfl rfl ?_
 simp only [Act.put, pu]
 refine mx_ext rfl rfl rfl ?_
 simp only [Act.put, pu]
 refine mx_new 24 rfl _ zero_nat ?_
 simp only [Act.put, pu]
 refine mx_put 15 24 _ _ rfl rfl rfl (natC P) rfl (by exact size_nat) (by simp only [natC_size]) (natC_one _) ?_
 simp only [Act.put]
 refine mx_asg rfl rfl ?_
 simp only [Act.put, pu]
 refine mx_end ?_
 intro vw6 hkw hrw hnew hdis
 have n15 := hnew 7 rfl
 have zr15 : Row vw6 (p 7) (natC P) 24 := hrw 15 (24, natC P) rfl
 replace r3 := hkw.row r3 (by simp <;> omega)
 replace r4 := hkw.row r4 (by simp <;> omega)
 replace r5 := hkw.row r5 (by simp <;> omega)
 replace r7 := hkw.row r7 (by simp <;> omega)
 replace r9 := hkw.row r9 (by simp <;> omega)
 replace r11 := hkw.row r11 (by simp <;> omega)
 replace r13 := hkw.row r13 (by simp <;> omega)
 replace sb := sb.trans (hkw.below w.heap.size sb.size (by simp <;> omega))
 clear hkw hrw hnew hdis n15
 generalize p 7 = g15 at *
 have r15 := zr15
 clear zr15
 (repeat ((fail_if_success with_reducible refine rg ?_); go_step))
 apply wp_region_mixq [] [_, _, _, _, _, _, _, _, _, _] trivial List.nodup_nil rfl
 intro p
 refine mx_load 24 _ rfl _ rfl r3 (by simp <;> omega) 4 _ Try.underlying24 size_nat ?_
 simp only [Act.put, pu]
 refine mx_load 24 _ rfl _ rfl r4 (by simp <;> omega) 4 _ Try.underlying24 size_nat ?_
 simp only [Act.put, pu]
 refine mx_load 24 _ rfl _ rfl r5 (by simp <;> omega) 4 _ Try.underlying24 size_nat ?_
 simp only [Act.put, pu]
 refine mx_call 14 _ _ rfl Try.func14 (by kernel_rfl) #[.agg (natC A), .agg (natC B), .agg (natC M)] rfl _ h5 ?_
 simp only [Act.put, pu]
 refine mx_move rfl rfl ?_
 simp only [Act.put, pu]
 refine mx_ext rfl rfl rfl ?_
 simp only [Act.put, pu]
 refine mx_ext rfl rfl rfl ?_
 simp only [Act.put, pu]
 refine mx_new 24 rfl _ zero_nat ?_
 simp only [Act.put, pu]
 refine mx_put 15 24 _ _ rfl rfl rfl (natC P) rfl (by exact size_nat) (by simp only [natC_size]) (natC_one _) ?_
 simp only [Act.put]
 refine mx_asg rfl rfl ?_
 simp only [Act.put, pu]
 refine mx_end ?_
 intro vw7 hkw hrw hnew hdis
 have n17 := hnew 7 rfl
 have zr17 : Row vw7 (p 7) (natC P) 24 := hrw 15 (24, natC P) rfl
 clear r3
 clear r4
 clear r5
 replace r7 := hkw.row r7 (by simp <;> omega)
 replace r9 := hkw.row r9 (by simp <;> omega)
 replace r11 := hkw.row r11 (by simp <;> omega)
 replace r13 := hkw.row r13 (by simp <;> omega)
 replace r15 := hkw.row r15 (by simp <;> omega)
 replace sb := sb.trans (hkw.below w.heap.size sb.size (by simp <;> omega))
 clear hkw hrw hnew hdis n17
 generalize p 7 = g17 at *
 have r17 := zr17
 clear zr17
 (repeat ((fail_if_success with_reducible refine rg ?_); go_step))
 refine wp_region_qp ?_
 refine qw_load (by rfl) 24 _ rfl _ rfl r7 4 _ Try.underlying24 size_nat ?_
 simp only [Act.put, pu]
 refine qw_load (by rfl) 24 _ rfl _ rfl r9 4 _ Try.underlying24 size_nat ?_
 simp only [Act.put, pu]
 refine qw_value (by rfl) (.bool true) (fun w' => (exec_eql_nat _ _ _ rfl S S rfl rfl w').trans (by rw [decide_eq_true rfl])) ?_
 simp only [Act.put, pu]
 refine qw_move (by rfl) rfl rfl ?_
 simp only [Act.put, pu]
 refine qw_move (by rfl) rfl rfl ?_
 simp only [Act.put, pu]
 refine qw_move (by rfl) rfl rfl ?_
 simp only [Act.put, pu]
 refine qw_value (by rfl) (.bool true) (exec_eql_int _ _ _ _ rfl _ _ rfl rfl) ?_
 simp only [Act.put, pu]
 refine qw_pick true (v := .bool true) (by rfl) rfl rfl rfl ?_
 simp only [Act.put, pu]
 refine qw_move (by rfl) rfl rfl ?_
 simp only [Act.put, pu]
 refine qw_load (by rfl) 24 _ rfl _ rfl r11 4 _ Try.underlying24 size_nat ?_
 simp only [Act.put, pu]
 refine qw_load (by rfl) 24 _ rfl _ rfl r13 4 _ Try.underlying24 size_nat ?_
 simp only [Act.put, pu]
 refine qw_value (by rfl) (.bool true) (fun w' => (exec_eql_nat _ _ _ rfl D D rfl rfl w').trans (by rw [decide_eq_true rfl])) ?_
 simp only [Act.put, pu]
 refine qw_pick true (v := .bool true) (by rfl) rfl rfl rfl ?_
 simp only [Act.put, pu]
 refine qw_move (by rfl) rfl rfl ?_
 simp only [Act.put, pu]
 refine qw_move (by rfl) rfl rfl ?_
 simp only [Act.put, pu]
 refine qw_move (by rfl) rfl rfl ?_
 simp only [Act.put, pu]
 refine qw_value (by rfl) (.bool true) (exec_eql_int _ _ _ _ rfl _ _ rfl rfl) ?_
 simp only [Act.put, pu]
 refine qw_pick true (v := .bool true) (by rfl) rfl rfl rfl ?_
 simp only [Act.put, pu]
 refine qw_move (by rfl) rfl rfl ?_
 simp only [Act.put, pu]
 refine qw_load (by rfl) 24 _ rfl _ rfl r15 4 _ Try.underlying24 size_nat ?_
 simp only [Act.put, pu]
 refine qw_load (by rfl) 24 _ rfl _ rfl r17 4 _ Try.underlying24 size_nat ?_
 simp only [Act.put, pu]
 refine qw_value (by rfl) (.bool true) (fun w' => (exec_eql_nat _ _ _ rfl P P rfl rfl w').trans (by rw [decide_eq_true rfl])) ?_
 simp only [Act.put, pu]
 refine qw_pick true (v := .bool true) (by rfl) rfl rfl rfl ?_
 simp only [Act.put, pu]
 refine qw_move (by rfl) rfl rfl ?_
 simp only [Act.put, pu]
 refine qw_move (by rfl) rfl rfl ?_
 simp only [Act.put, pu]
 refine qw_move (by rfl) rfl rfl ?_
 simp only [Act.put, pu]
 refine qw_value (by rfl) (.bool true) (exec_eql_int _ _ _ _ rfl _ _ rfl rfl) ?_
 simp only [Act.put, pu]
 refine qw_pick true (v := .bool true) (by rfl) rfl rfl rfl ?_
 simp only [Act.put, pu]
 refine qw_move (by rfl) rfl rfl ?_
 simp only [Act.put, pu]
 refine qw_call (by rfl) 15 _ _ rfl Try.func15 (by kernel_rfl) #[] rfl _ haw ?_
 simp only [Act.put, pu]
 refine qw_pick true (v := .bool true) (by rfl) rfl rfl rfl ?_
 simp only [Act.put, pu]
 refine qw_asg (by rfl) rfl rfl ?_
 simp only [Act.put, pu]
 refine qw_nil ?_
 intro vw8 hqb
 clear r7
 clear r9
 clear r11
 clear r13
 clear r15
 clear r17
 replace sb := below_on sb (Nat.le_refl _) hqb
 clear hqb
 -- the rows that stand: 
 go_wp2
 go_ret
 exact ⟨rfl, sb⟩
theorem walk (A B M : Nat) (w : World) (hA : A < 2 ^ 256) (hB : B < 2 ^ 256) (hM : M < 2 ^ 256) :
  Calls Try.prog 3 #[.agg (natC A), .agg (natC B), .agg (natC M)] w fun e w' => e = .returned (.bool true) ∧ Below w.heap.size w w' :=
 core A B M _ _ _ _ w (fun w' => wadd_any A B M w' hA hB hM) (fun w' => raddmod_any A B M w' hA hB hM) (fun w' => wsub_any A B M w' hA hB hM) (fun w' => rsubmod_any A B M w' hA hB hM) (fun w' => wmulmod_any A B M w' hA hB hM) (fun w' => rmulmod_any A B M w' hA hB hM)
set_option maxRecDepth 100000 in
theorem lifted (os : Os) (started : os.Started) (H : Type) (enc : TypeId × Value → H) :
  ReturnsInHanded {} Try.checked os 3 .any (Rows.wideModsSpec.pre6 enc Try.prog Try.f3 Rows.wideModsRow.domain false) (Rows.wideModsSpec.post enc Try.prog Try.f3 false true false false) := by
 refine returnsInHanded_of_change (C := Try.checked) own started (by kernel_rfl) Try.func3
  (ChangeSpec.witness6 (enc := enc) (C := Try.checked) false ⟨#[], #[.agg #[.int .u64 0, .int .u64 0, .int .u64 0, .int .u64 0], .agg #[.int .u64 0, .int .u64 0, .int .u64 0, .int .u64 0], .agg #[.int .u64 0, .int .u64 0, .int .u64 0, .int .u64 0]], []⟩ 8 (by kernel_rfl) (by kernel_rfl) (by kernel_rfl) (by kernel_rfl)) ?_
 intro W base args ds gs before hval0 hW hcnd _
 have hval : ∀ (j : Nat) t v, Try.f3.params[j]? = some t → args[j]? = some v → Value.okWide Try.prog W .any base t v := hval0
 have hW' := hW
 obtain ⟨p, q, hA0, hV, rfl, hfz, hnd⟩ := hW
 have hA : DataW.TrodAll enc Try.prog W 0 (fun _ => true) true Try.f3.params.toList args.toList ds p := hA0
 rw [Try.params3] at hA hval
 obtain ⟨v0, vs0, d0, ds0, p0, q0, hargs, rfl, rfl, h0, r0⟩ := trodAll_cons hA
 obtain ⟨v1, vs1, d1, ds1, p1, q1, rfl, rfl, rfl, h1, r1⟩ := trodAll_cons r0
 obtain ⟨v2, vs2, d2, ds2, p2, q2, rfl, rfl, rfl, h2, r2⟩ := trodAll_cons r1
 obtain ⟨rfl, rfl, rfl⟩ := trodAll_nil r2
 obtain rfl : args = #[v0, v1, v2] := by cases args; simp_all
 obtain ⟨rfl, rfl⟩ := trodVars_none hV
 have k0 := h0
 have lt0 := lt_of_trod h0
 obtain ⟨N0, hN0, rfl⟩ := open_nat (hval 0 24 v0 rfl rfl) h0
 have k1 := h1
 have lt1 := lt_of_trod h1
 obtain ⟨N1, hN1, rfl⟩ := open_nat (hval 1 24 v1 rfl rfl) h1
 have k2 := h2
 have lt2 := lt_of_trod h2
 obtain ⟨N2, hN2, rfl⟩ := open_nat (hval 2 24 v2 rfl rfl) h2
 clear hA0 hval0
 refine (walk N0 N1 N2 W hN0 hN1 hN2).mono fun e W' ⟨he, bel⟩ => ?_
 subst he
 exact ⟨_, rfl, _, _, _, [], _, [], hW', trodAll_mk1 (shut_bool Try.underlying4 _), (trodAll_cons_mk (Below.trod laidOut (by kernel_rfl) (of_decide_eq_true (by kernel_rfl)) k0 bel lt0) (trodAll_cons_mk (Below.trod laidOut (by kernel_rfl) (of_decide_eq_true (by kernel_rfl)) k1 bel lt1) (trodAll_cons_mk (Below.trod laidOut (by kernel_rfl) (of_decide_eq_true (by kernel_rfl)) k2 bel lt2) trodAll_mk0))), rfl, bel.frame _, fun h => by cases h⟩
theorem over : Rows.wideModsRow.holds Try.pinned (OpenSpec.ofChange Rows.wideModsSpec) :=
 OpenClaim.holds_of_wide 3 Try.f3 rfl rfl rfl rfl rfl rfl rfl ⟨rfl, rfl, rfl, rfl, rfl⟩ rfl rfl rfl rfl rfl (by kernel_rfl) Try.func3 (by kernel_rfl)
  (of_decide_eq_true (by kernel_rfl)) (by unfold Func.isWrapper; first | (rw [if_pos (by decide +kernel)]; kernel_rfl) | (rw [if_neg (by decide +kernel)]; exact ⟨rfl, rfl⟩))
  (fun os started H enc _ => lifted os started H enc)
end wideModsP
/-- for every three naturals the program's sum, difference and product, by the third, are the document's; no condition. -/
theorem wideMods_holds : Rows.WideModsSaid := wideModsP.over
end Go.Proofs.Yteddgjoailpgaaa
