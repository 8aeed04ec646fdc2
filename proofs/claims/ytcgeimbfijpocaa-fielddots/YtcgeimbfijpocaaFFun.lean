/- field's In, Add, Sub, Mul, Inv, Dot: of a group that New has made, and of one that nobody made. -/
import Derived.Test.YtcgeimbfijpocaaGKnow
import Derived.Test.YtcgeimbfijpocaaMNobody
import Derived.Test.YtcgeimbfijpocaaGT
import Derived.Test.YtcgeimbfijpocaaFMath
import Derived.Test.YtcgeimbfijpocaaWInvA
namespace Go.Proofs.Ytcgeimbfijpocaa
open Go.RowKit
set_option maxRecDepth 100000 in
set_option maxHeartbeats 2000000 in
theorem fIn_core (v f : Option Addr) (A : Nat) (B : Bool) (w : World) (hq : ∀ w', Below w.heap.size w w' → Calls Try.prog 38 #[.pointer v] w' fun e w2 => e = .returned (.pointer f) ∧ Below w'.heap.size w' w2)
  (hin : ∀ w', Below w.heap.size w w' → Calls Try.prog 39 #[.pointer f, .agg (natC A)] w' fun e w2 => e = .returned (.bool B) ∧ Below w'.heap.size w' w2) :
  Calls Try.prog 12 #[.pointer v, .agg (natC A)] w fun e w' => e = .returned (.bool B) ∧ Below w.heap.size w w' := by
 go_enter Try.func12, Try.ntmps12
 (repeat ((fail_if_success with_reducible refine rg ?_); go_step))
 refine wp_region_pw ?_
 refine pw_boxr (by rfl) 24 _ rfl (_) rfl ?_
 intro g3 z0 n0 r3 k
 simp only [Act.put, pu]
 have b3 : w.heap.size ≤ g3 := n0
 clear n0
 have sb := k.below w.heap.size (Nat.le_refl _) (by simp)
 clear k
 refine pw_value (by rfl) (.bool false) (fun _ => rfl) ?_
 simp only [Act.put, pu]
 refine pw_nil ?_
 (repeat ((fail_if_success with_reducible refine rg ?_); go_step))
 refine wp_region_qw (by kernel_rfl) (by kernel_rfl) ?_
 refine qw_move (by rfl) rfl rfl ?_
 simp only [Act.put, pu]
 refine qw_callK (by rfl) 38 _ _ rfl Try.func38 (by kernel_rfl) #[.pointer v] rfl _ (fun w' hb => hq w' (below_on sb (Nat.le_refl _) hb)) ?_
 simp only [Act.put, pu]
 refine qw_load (by rfl) 24 _ rfl _ rfl r3 4 _ Try.underlying24 size_nat ?_
 simp only [Act.put, pu]
 refine qw_callK (by rfl) 39 _ _ rfl Try.func39 (by kernel_rfl) #[.pointer f, .agg (natC A)] rfl _ (fun w' hb => hin w' (below_on sb (Nat.le_refl _) hb)) ?_
 simp only [Act.put, pu]
 refine qw_asg (by rfl) rfl rfl ?_
 simp only [Act.put, pu]
 refine qw_nil ?_
 intro w3 hqb
 replace sb := below_on sb (Nat.le_refl _) hqb
 clear hqb
 go_wp2
 go_ret
 exact ⟨rfl, sb⟩
set_option maxRecDepth 100000 in
set_option maxHeartbeats 2000000 in
theorem fAdd_core (v : Option Addr) (A B QQ S : Nat) (z : Int) (w : World) (hq : ∀ w', Below w.heap.size w w' → Calls Try.prog 41 #[.pointer v] w' fun e w2 => e = .returned (.agg (natC QQ)) ∧ Below w'.heap.size w' w2)
  (had : ∀ w', Calls Try.prog 40 #[.agg (natC A), .agg (natC B), .agg (natC QQ)] w' fun e w2 => e = .returned (.tuple #[.agg (natC S), .int .i64 z]) ∧ Below w'.heap.size w' w2) :
  Calls Try.prog 14 #[.pointer v, .agg (natC A), .agg (natC B)] w fun e w' => e = .returned (.agg (natC S)) ∧ Below w.heap.size w w' := by
 go_enter Try.func14, Try.ntmps14
 (repeat ((fail_if_success with_reducible refine rg ?_); go_step))
 refine wp_region_pw ?_
 refine pw_boxr (by rfl) 24 _ rfl (_) rfl ?_
 intro g4 z0 n0 r4 k
 simp only [Act.put, pu]
 have b4 : w.heap.size ≤ g4 := n0
 clear n0
 have sb := k.below w.heap.size (Nat.le_refl _) (by simp)
 clear k
 refine pw_boxr (by rfl) 24 _ rfl (_) rfl ?_
 intro g5 z1 n0 r5 k
 simp only [Act.put, pu]
 have d4x5 := Nat.lt_of_lt_of_le r4.lt n0
 have b5 := Nat.le_trans sb.size n0
 clear n0
 replace r4 := k.row r4 (by simp <;> omega)
 replace sb := sb.trans (k.below w.heap.size sb.size (by simp <;> omega))
 clear k
 refine pw_new (by rfl) 24 rfl _ zero_nat ?_
 intro g6 z2 n0 r6 k
 simp only [Act.put, pu]
 have d4x6 := Nat.lt_of_lt_of_le r4.lt n0
 have d5x6 := Nat.lt_of_lt_of_le r5.lt n0
 have b6 := Nat.le_trans sb.size n0
 clear n0
 replace r4 := k.row r4 (by simp <;> omega)
 replace r5 := k.row r5 (by simp <;> omega)
 replace sb := sb.trans (k.below w.heap.size sb.size (by simp <;> omega))
 clear k
 refine pw_nil ?_
 (repeat ((fail_if_success with_reducible refine rg ?_); go_step))
 apply wp_region_mix (by kernel_rfl) [] [_, _, _, _, _, _, _, _, _, _, _] trivial List.nodup_nil
 ·intro p
  refine mx_load 24 _ rfl _ rfl r4 (by simp <;> omega) 4 _ Try.underlying24 size_nat ?_
  simp only [Act.put, pu]
  refine mx_load 24 _ rfl _ rfl r5 (by simp <;> omega) 4 _ Try.underlying24 size_nat ?_
  simp only [Act.put, pu]
  refine mx_move rfl rfl ?_
  simp only [Act.put, pu]
  refine mx_callK 41 _ _ rfl Try.func41 (by kernel_rfl) #[.pointer v] rfl _ (fun w' hk => hq w' (sb.trans (hk.below w.heap.size sb.size (by simp <;> omega)))) ?_
  simp only [Act.put, pu]
  refine mx_call 40 _ _ rfl Try.func40 (by kernel_rfl) #[.agg (natC A), .agg (natC B), .agg (natC QQ)] rfl _ had ?_
  simp only [Act.put, pu]
  refine mx_move rfl rfl ?_
  simp only [Act.put, pu]
  refine mx_ext rfl rfl rfl ?_
  simp only [Act.put, pu]
  refine mx_ext rfl rfl rfl ?_
  simp only [Act.put, pu]
  refine mx_new 24 rfl _ zero_nat ?_
  simp only [Act.put, pu]
  refine mx_put 17 24 _ _ rfl rfl rfl (natC S) rfl (by exact size_nat) (by simp only [natC_size]) (natC_one _) ?_
  simp only [Act.put]
  refine mx_asg rfl rfl ?_
  simp only [Act.put, pu]
  refine mx_end ?_
  intro w2 hkw hrw hnew hdis
  have n7 := hnew 8 rfl
  have zr7 : Row w2 (p 8) (natC S) 24 := hrw 17 (24, natC S) rfl
  have d6x7 := Nat.lt_of_lt_of_le r6.lt n7
  replace r6 := hkw.row r6 (by simp <;> omega)
  have b7 := Nat.le_trans sb.size n7
  replace sb := sb.trans (hkw.below w.heap.size sb.size (by simp <;> omega))
  clear hkw hrw hnew hdis n7
  generalize p 8 = g7 at *
  have r7 := zr7
  clear zr7
  (repeat ((fail_if_success with_reducible refine rg ?_); go_step))
  refine wp_region_pw ?_
  refine pw_loadm (by rfl) 24 _ rfl _ 0 rfl r7.r _ (part_all _) _ Try.underlying24 rfl size_nat ?_
  simp only [Act.put, pu]
  refine pw_put (by rfl) 24 _ _ rfl _ rfl r6 (natC S) rfl (by exact size_nat) (by simp only [natC_size]) (natC_one _) ?_
  clear r6
  intro z2001 r6 k
  simp only [Act.put]
  replace r7 := k.row r7 (by simp <;> omega)
  replace sb := sb.trans (k.below w.heap.size sb.size (by simp <;> omega))
  clear k
  refine pw_nil ?_
  go_wp2
  exact ret_row rfl _ rfl r6 4 _ Try.underlying24 (by exact size_nat) rfl ⟨rfl, sb⟩
 ·kernel_rfl
set_option maxRecDepth 100000 in
set_option maxHeartbeats 2000000 in
theorem fSub_core (v : Option Addr) (A B QQ S : Nat) (z : Int) (w : World) (hq : ∀ w', Below w.heap.size w w' → Calls Try.prog 41 #[.pointer v] w' fun e w2 => e = .returned (.agg (natC QQ)) ∧ Below w'.heap.size w' w2)
  (had : ∀ w', Calls Try.prog 42 #[.agg (natC A), .agg (natC B), .agg (natC QQ)] w' fun e w2 => e = .returned (.tuple #[.agg (natC S), .int .i64 z]) ∧ Below w'.heap.size w' w2) :
  Calls Try.prog 17 #[.pointer v, .agg (natC A), .agg (natC B)] w fun e w' => e = .returned (.agg (natC S)) ∧ Below w.heap.size w w' := by
 go_enter Try.func17, Try.ntmps17
 (repeat ((fail_if_success with_reducible refine rg ?_); go_step))
 refine wp_region_pw ?_
 refine pw_boxr (by rfl) 24 _ rfl (_) rfl ?_
 intro g4 z0 n0 r4 k
 simp only [Act.put, pu]
 have b4 : w.heap.size ≤ g4 := n0
 clear n0
 have sb := k.below w.heap.size (Nat.le_refl _) (by simp)
 clear k
 refine pw_boxr (by rfl) 24 _ rfl (_) rfl ?_
 intro g5 z1 n0 r5 k
 simp only [Act.put, pu]
 have d4x5 := Nat.lt_of_lt_of_le r4.lt n0
 have b5 := Nat.le_trans sb.size n0
 clear n0
 replace r4 := k.row r4 (by simp <;> omega)
 replace sb := sb.trans (k.below w.heap.size sb.size (by simp <;> omega))
 clear k
 refine pw_new (by rfl) 24 rfl _ zero_nat ?_
 intro g6 z2 n0 r6 k
 simp only [Act.put, pu]
 have d4x6 := Nat.lt_of_lt_of_le r4.lt n0
 have d5x6 := Nat.lt_of_lt_of_le r5.lt n0
 have b6 := Nat.le_trans sb.size n0
 clear n0
 replace r4 := k.row r4 (by simp <;> omega)
 replace r5 := k.row r5 (by simp <;> omega)
 replace sb := sb.trans (k.below w.heap.size sb.size (by simp <;> omega))
 clear k
 refine pw_nil ?_
 (repeat ((fail_if_success with_reducible refine rg ?_); go_step))
 apply wp_region_mix (by kernel_rfl) [] [_, _, _, _, _, _, _, _, _, _, _] trivial List.nodup_nil
 ·intro p
  refine mx_load 24 _ rfl _ rfl r4 (by simp <;> omega) 4 _ Try.underlying24 size_nat ?_
  simp only [Act.put, pu]
  refine mx_load 24 _ rfl _ rfl r5 (by simp <;> omega) 4 _ Try.underlying24 size_nat ?_
  simp only [Act.put, pu]
  refine mx_move rfl rfl ?_
  simp only [Act.put, pu]
  refine mx_callK 41 _ _ rfl Try.func41 (by kernel_rfl) #[.pointer v] rfl _ (fun w' hk => hq w' (sb.trans (hk.below w.heap.size sb.size (by simp <;> omega)))) ?_
  simp only [Act.put, pu]
  refine mx_call 42 _ _ rfl Try.func42 (by kernel_rfl) #[.agg (natC A), .agg (natC B), .agg (natC QQ)] rfl _ had ?_
  simp only [Act.put, pu]
  refine mx_move rfl rfl ?_
  simp only [Act.put, pu]
  refine mx_ext rfl rfl rfl ?_
  simp only [Act.put, pu]
  refine mx_ext rfl rfl rfl ?_
  simp only [Act.put, pu]
  refine mx_new 24 rfl _ zero_nat ?_
  simp only [Act.put, pu]
  refine mx_put 17 24 _ _ rfl rfl rfl (natC S) rfl (by exact size_nat) (by simp only [natC_size]) (natC_one _) ?_
  simp only [Act.put]
  refine mx_asg rfl rfl ?_
  simp only [Act.put, pu]
  refine mx_end ?_
  intro w2 hkw hrw hnew hdis
  have n7 := hnew 8 rfl
  have zr7 : Row w2 (p 8) (natC S) 24 := hrw 17 (24, natC S) rfl
  have d6x7 := Nat.lt_of_lt_of_le r6.lt n7
  replace r6 := hkw.row r6 (by simp <;> omega)
  have b7 := Nat.le_trans sb.size n7
  replace sb := sb.trans (hkw.below w.heap.size sb.size (by simp <;> omega))
  clear hkw hrw hnew hdis n7
  generalize p 8 = g7 at *
  have r7 := zr7
  clear zr7
  (repeat ((fail_if_success with_reducible refine rg ?_); go_step))
  refine wp_region_pw ?_
  refine pw_loadm (by rfl) 24 _ rfl _ 0 rfl r7.r _ (part_all _) _ Try.underlying24 rfl size_nat ?_
  simp only [Act.put, pu]
  refine pw_put (by rfl) 24 _ _ rfl _ rfl r6 (natC S) rfl (by exact size_nat) (by simp only [natC_size]) (natC_one _) ?_
  clear r6
  intro z2001 r6 k
  simp only [Act.put]
  replace r7 := k.row r7 (by simp <;> omega)
  replace sb := sb.trans (k.below w.heap.size sb.size (by simp <;> omega))
  clear k
  refine pw_nil ?_
  go_wp2
  exact ret_row rfl _ rfl r6 4 _ Try.underlying24 (by exact size_nat) rfl ⟨rfl, sb⟩
 ·kernel_rfl
set_option maxRecDepth 100000 in
set_option maxHeartbeats 2000000 in
theorem fInv_core (v : Option Addr) (A QQ S : Nat) (z : Int) (w : World) (hq : ∀ w', Below w.heap.size w w' → Calls Try.prog 41 #[.pointer v] w' fun e w2 => e = .returned (.agg (natC QQ)) ∧ Below w'.heap.size w' w2)
  (hiv : ∀ w', Calls Try.prog 45 #[.agg (natC A), .agg (natC QQ)] w' fun e w2 => e = .returned (.tuple #[.agg (natC S), .int .i64 z]) ∧ Below w'.heap.size w' w2) :
  Calls Try.prog 21 #[.pointer v, .agg (natC A)] w fun e w' => e = .returned (.agg (natC S)) ∧ Below w.heap.size w w' := by
 go_enter Try.func21, Try.ntmps21
 (repeat ((fail_if_success with_reducible refine rg ?_); go_step))
 refine wp_region_pw ?_
 refine pw_boxr (by rfl) 24 _ rfl (_) rfl ?_
 intro g3 z0 n0 r3 k
 simp only [Act.put, pu]
 have b3 : w.heap.size ≤ g3 := n0
 clear n0
 have sb := k.below w.heap.size (Nat.le_refl _) (by simp)
 clear k
 refine pw_new (by rfl) 24 rfl _ zero_nat ?_
 intro g4 z1 n0 r4 k
 simp only [Act.put, pu]
 have d3x4 := Nat.lt_of_lt_of_le r3.lt n0
 have b4 := Nat.le_trans sb.size n0
 clear n0
 replace r3 := k.row r3 (by simp <;> omega)
 replace sb := sb.trans (k.below w.heap.size sb.size (by simp <;> omega))
 clear k
 refine pw_nil ?_
 (repeat ((fail_if_success with_reducible refine rg ?_); go_step))
 apply wp_region_mix (by kernel_rfl) [] [_, _, _, _, _, _, _, _, _, _] trivial List.nodup_nil
 ·intro p
  refine mx_load 24 _ rfl _ rfl r3 (by simp <;> omega) 4 _ Try.underlying24 size_nat ?_
  simp only [Act.put, pu]
  refine mx_move rfl rfl ?_
  simp only [Act.put, pu]
  refine mx_callK 41 _ _ rfl Try.func41 (by kernel_rfl) #[.pointer v] rfl _ (fun w' hk => hq w' (sb.trans (hk.below w.heap.size sb.size (by simp <;> omega)))) ?_
  simp only [Act.put, pu]
  refine mx_call 45 _ _ rfl Try.func45 (by kernel_rfl) #[.agg (natC A), .agg (natC QQ)] rfl _ hiv ?_
  simp only [Act.put, pu]
  refine mx_move rfl rfl ?_
  simp only [Act.put, pu]
  refine mx_ext rfl rfl rfl ?_
  simp only [Act.put, pu]
  refine mx_ext rfl rfl rfl ?_
  simp only [Act.put, pu]
  refine mx_new 24 rfl _ zero_nat ?_
  simp only [Act.put, pu]
  refine mx_put 15 24 _ _ rfl rfl rfl (natC S) rfl (by exact size_nat) (by simp only [natC_size]) (natC_one _) ?_
  simp only [Act.put]
  refine mx_asg rfl rfl ?_
  simp only [Act.put, pu]
  refine mx_end ?_
  intro w2 hkw hrw hnew hdis
  have n5 := hnew 7 rfl
  have zr5 : Row w2 (p 7) (natC S) 24 := hrw 15 (24, natC S) rfl
  have d4x5 := Nat.lt_of_lt_of_le r4.lt n5
  replace r4 := hkw.row r4 (by simp <;> omega)
  have b5 := Nat.le_trans sb.size n5
  replace sb := sb.trans (hkw.below w.heap.size sb.size (by simp <;> omega))
  clear hkw hrw hnew hdis n5
  generalize p 7 = g5 at *
  have r5 := zr5
  clear zr5
  (repeat ((fail_if_success with_reducible refine rg ?_); go_step))
  refine wp_region_pw ?_
  refine pw_loadm (by rfl) 24 _ rfl _ 0 rfl r5.r _ (part_all _) _ Try.underlying24 rfl size_nat ?_
  simp only [Act.put, pu]
  refine pw_put (by rfl) 24 _ _ rfl _ rfl r4 (natC S) rfl (by exact size_nat) (by simp only [natC_size]) (natC_one _) ?_
  clear r4
  intro z2001 r4 k
  simp only [Act.put]
  replace r5 := k.row r5 (by simp <;> omega)
  replace sb := sb.trans (k.below w.heap.size sb.size (by simp <;> omega))
  clear k
  refine pw_nil ?_
  go_wp2
  exact ret_row rfl _ rfl r4 4 _ Try.underlying24 (by exact size_nat) rfl ⟨rfl, sb⟩
 ·kernel_rfl
set_option maxRecDepth 100000 in
set_option maxHeartbeats 2000000 in
theorem fMul_core (v f : Option Addr) (A B S : Nat) (w : World) (hq : ∀ w', Below w.heap.size w w' → Calls Try.prog 38 #[.pointer v] w' fun e w2 => e = .returned (.pointer f) ∧ Below w'.heap.size w' w2)
  (hmu : ∀ w', Below w.heap.size w w' → Calls Try.prog 43 #[.pointer f, .agg (natC A), .agg (natC B)] w' fun e w2 => e = .returned (.agg (natC S)) ∧ Below w'.heap.size w' w2) :
  Calls Try.prog 19 #[.pointer v, .agg (natC A), .agg (natC B)] w fun e w' => e = .returned (.agg (natC S)) ∧ Below w.heap.size w w' := by
 go_enter Try.func19, Try.ntmps19
 (repeat ((fail_if_success with_reducible refine rg ?_); go_step))
 refine wp_region_pw ?_
 refine pw_boxr (by rfl) 24 _ rfl (_) rfl ?_
 intro g4 z0 n0 r4 k
 simp only [Act.put, pu]
 have b4 : w.heap.size ≤ g4 := n0
 clear n0
 have sb := k.below w.heap.size (Nat.le_refl _) (by simp)
 clear k
 refine pw_boxr (by rfl) 24 _ rfl (_) rfl ?_
 intro g5 z1 n0 r5 k
 simp only [Act.put, pu]
 have d4x5 := Nat.lt_of_lt_of_le r4.lt n0
 have b5 := Nat.le_trans sb.size n0
 clear n0
 replace r4 := k.row r4 (by simp <;> omega)
 replace sb := sb.trans (k.below w.heap.size sb.size (by simp <;> omega))
 clear k
 refine pw_new (by rfl) 24 rfl _ zero_nat ?_
 intro g6 z2 n0 r6 k
 simp only [Act.put, pu]
 have d4x6 := Nat.lt_of_lt_of_le r4.lt n0
 have d5x6 := Nat.lt_of_lt_of_le r5.lt n0
 have b6 := Nat.le_trans sb.size n0
 clear n0
 replace r4 := k.row r4 (by simp <;> omega)
 replace r5 := k.row r5 (by simp <;> omega)
 replace sb := sb.trans (k.below w.heap.size sb.size (by simp <;> omega))
 clear k
 refine pw_nil ?_
 (repeat ((fail_if_success with_reducible refine rg ?_); go_step))
 apply wp_region_mix (by kernel_rfl) [(g6, 24, natC 0)] [_, _, _, _, _, _] ⟨r6, trivial⟩ (by simp <;> omega)
 ·intro p
  refine mx_move rfl rfl ?_
  simp only [Act.put, pu]
  refine mx_callK 38 _ _ rfl Try.func38 (by kernel_rfl) #[.pointer v] rfl _ (fun w' hk => hq w' (sb.trans (hk.below w.heap.size sb.size (by simp <;> omega)))) ?_
  simp only [Act.put, pu]
  refine mx_load 24 _ rfl _ rfl r4 (by simp <;> omega) 4 _ Try.underlying24 size_nat ?_
  simp only [Act.put, pu]
  refine mx_load 24 _ rfl _ rfl r5 (by simp <;> omega) 4 _ Try.underlying24 size_nat ?_
  simp only [Act.put, pu]
  refine mx_callK 43 _ _ rfl Try.func43 (by kernel_rfl) #[.pointer f, .agg (natC A), .agg (natC B)] rfl _ (fun w' hk => hmu w' (sb.trans (hk.below w.heap.size sb.size (by simp <;> omega)))) ?_
  simp only [Act.put, pu]
  refine mx_put 0 24 _ _ rfl rfl rfl (natC S) rfl (by exact size_nat) (by simp only [natC_size]) (natC_one _) ?_
  simp only [Act.put]
  refine mx_end ?_
  intro w2 hkw hrw hnew hdis
  have zr6 : Row w2 (g6) (natC S) 24 := hrw 0 (24, natC S) rfl
  replace sb := sb.trans (hkw.below w.heap.size sb.size (by simp <;> omega))
  clear hkw hrw hnew hdis r6
  have r6 := zr6
  clear zr6
  go_wp2
  exact ret_row rfl _ rfl r6 4 _ Try.underlying24 (by exact size_nat) rfl ⟨rfl, sb⟩
 ·kernel_rfl
theorem ptr_ring8 : Try.prog.underlying 54 = some (.pointer (Try.prog.pointee 54)) := by kernel_rfl
set_option maxRecDepth 100000 in
set_option maxHeartbeats 2000000 in
theorem fDot_no (v ab ae : Option Addr) (n m ca ce : Nat) (f : Option Addr) (hf : f = none) (w : World) (hq : ∀ w', Below w.heap.size w w' → Calls Try.prog 38 #[.pointer v] w' fun e w2 => e = .returned (.pointer f) ∧ Below w'.heap.size w' w2) :
  Calls Try.prog 24 #[.pointer v, .slice ab n ca, .slice ae m ce] w fun e w' => e = .returned (.tuple #[.agg (natC 0), .int .i64 1]) ∧ Below w.heap.size w w' := by
 subst hf
 go_enter Try.func24, Try.ntmps24
 (repeat ((fail_if_success with_reducible refine rg ?_); go_step))
 refine wp_region_pw ?_
 refine pw_new (by rfl) 24 rfl _ zero_nat ?_
 intro g6 z0 n0 r6 k
 simp only [Act.put, pu]
 have b6 : w.heap.size ≤ g6 := n0
 clear n0
 have sb := k.below w.heap.size (Nat.le_refl _) (by simp)
 clear k
 refine pw_value (by rfl) (.int .i64 0) (fun _ => rfl) ?_
 simp only [Act.put, pu]
 refine pw_nil ?_
 (repeat ((fail_if_success with_reducible refine rg ?_); go_step))
 refine wp_region_pw ?_
 refine pw_mv (by rfl) rfl rfl ?_
 simp only [Act.put, pu]
 refine pw_callB (by rfl) 38 _ _ rfl Try.func38 (by kernel_rfl) #[.pointer v] rfl _ (hq _ sb) ?_
 intro z1001 k
 simp only [Act.put, pu]
 replace r6 := k.row r6 (by simp <;> omega)
 replace sb := sb.trans (k.below w.heap.size sb.size (by simp <;> omega))
 clear k
 refine pw_value (by rfl) (.bool true) (exec_eql_nilp _ _ _ _ rfl none rfl rfl ptr_ring8) ?_
 simp only [Act.put, pu]
 refine pw_mv (by rfl) rfl rfl ?_
 simp only [Act.put, pu]
 refine pw_skip (by rfl) ?_
 simp only [Act.put, pu]
 refine pw_skip (by rfl) ?_
 simp only [Act.put, pu]
 refine pw_skip (by rfl) ?_
 simp only [Act.put, pu]
 refine pw_skip (by rfl) ?_
 simp only [Act.put, pu]
 refine pw_skip (by rfl) ?_
 simp only [Act.put, pu]
 refine pw_pick (by rfl) true (v := .bool true) rfl rfl rfl ?_
 simp only [Act.put, pu]
 refine pw_nil ?_
 (repeat ((fail_if_success with_reducible refine rg ?_); go_step))
 refine wp_region_pw ?_
 refine pw_value (by rfl) (.agg (natC 0)) (exec_build0 _ rfl _ built_nat) ?_
 simp only [Act.put, pu]
 refine pw_put (by rfl) 24 _ _ rfl _ rfl r6 (natC 0) rfl (by exact size_nat) (by simp only [natC_size]) (natC_one _) ?_
 clear r6
 intro z2001 r6 k
 simp only [Act.put]
 replace sb := sb.trans (k.below w.heap.size sb.size (by simp <;> omega))
 clear k
 refine pw_value (by rfl) (.int .i64 1) (fun _ => rfl) ?_
 simp only [Act.put, pu]
 refine pw_nil ?_
 go_wp2
 exact ret_row2 rfl _ rfl r6 4 _ Try.underlying24 (by exact size_nat) rfl _ rfl ⟨rfl, sb⟩
set_option maxRecDepth 100000 in
set_option maxHeartbeats 2000000 in
theorem fDot_len (v ab ae : Option Addr) (n m ca ce : Nat) (x : Addr) (f : Option Addr) (hf : f = some x) (hnm : n ≠ m) (w : World) (hq : ∀ w', Below w.heap.size w w' → Calls Try.prog 38 #[.pointer v] w' fun e w2 => e = .returned (.pointer f) ∧ Below w'.heap.size w' w2) :
  Calls Try.prog 24 #[.pointer v, .slice ab n ca, .slice ae m ce] w fun e w' => e = .returned (.tuple #[.agg (natC 0), .int .i64 1]) ∧ Below w.heap.size w w' := by
 subst hf
 go_enter Try.func24, Try.ntmps24
 (repeat ((fail_if_success with_reducible refine rg ?_); go_step))
 refine wp_region_pw ?_
 refine pw_new (by rfl) 24 rfl _ zero_nat ?_
 intro g6 z0 n0 r6 k
 simp only [Act.put, pu]
 have b6 : w.heap.size ≤ g6 := n0
 clear n0
 have sb := k.below w.heap.size (Nat.le_refl _) (by simp)
 clear k
 refine pw_value (by rfl) (.int .i64 0) (fun _ => rfl) ?_
 simp only [Act.put, pu]
 refine pw_nil ?_
 (repeat ((fail_if_success with_reducible refine rg ?_); go_step))
 refine wp_region_pw ?_
 refine pw_mv (by rfl) rfl rfl ?_
 simp only [Act.put, pu]
 refine pw_callB (by rfl) 38 _ _ rfl Try.func38 (by kernel_rfl) #[.pointer v] rfl _ (hq _ sb) ?_
 intro z1001 k
 simp only [Act.put, pu]
 replace r6 := k.row r6 (by simp <;> omega)
 replace sb := sb.trans (k.below w.heap.size sb.size (by simp <;> omega))
 clear k
 refine pw_value (by rfl) (.bool false) (exec_eql_nilp _ _ _ _ rfl (some x) rfl rfl ptr_ring8) ?_
 simp only [Act.put, pu]
 refine pw_mv (by rfl) rfl rfl ?_
 simp only [Act.put, pu]
 refine pw_mv (by rfl) rfl rfl ?_
 simp only [Act.put, pu]
 refine pw_value (by rfl) (.int .i64 n) (exec_len_s 46 _ rfl ab n ca rfl sl_nats) ?_
 simp only [Act.put, pu]
 refine pw_mv (by rfl) rfl rfl ?_
 simp only [Act.put, pu]
 refine pw_value (by rfl) (.int .i64 m) (exec_len_s 46 _ rfl ae m ce rfl sl_nats) ?_
 simp only [Act.put, pu]
 refine pw_value (by rfl) (.bool true) (exec_neq_k .i64 _ _ _ _ rfl n m rfl rfl true (by rw [decide_eq_false (by omega)]; rfl)) ?_
 simp only [Act.put, pu]
 refine pw_pick (by rfl) false (v := .bool true) rfl rfl rfl ?_
 simp only [Act.put, pu]
 refine pw_nil ?_
 (repeat ((fail_if_success with_reducible refine rg ?_); go_step))
 refine wp_region_pw ?_
 refine pw_value (by rfl) (.agg (natC 0)) (exec_build0 _ rfl _ built_nat) ?_
 simp only [Act.put, pu]
 refine pw_put (by rfl) 24 _ _ rfl _ rfl r6 (natC 0) rfl (by exact size_nat) (by simp only [natC_size]) (natC_one _) ?_
 clear r6
 intro z2001 r6 k
 simp only [Act.put]
 replace sb := sb.trans (k.below w.heap.size sb.size (by simp <;> omega))
 clear k
 refine pw_value (by rfl) (.int .i64 1) (fun _ => rfl) ?_
 simp only [Act.put, pu]
 refine pw_nil ?_
 go_wp2
 exact ret_row2 rfl _ rfl r6 4 _ Try.underlying24 (by exact size_nat) rfl _ rfl ⟨rfl, sb⟩
set_option maxRecDepth 100000 in
set_option maxHeartbeats 2000000 in
theorem fDot_core (v ab ae : Option Addr) (n ca ce : Nat) (x : Addr) (a' b' T D : Nat → Nat) (gb ob ge oe : Nat) (bcs ecs : Array Value) (tb te : TypeId) (w : World) (hD0 : D 0 = 0)
  (hna : NatsAt w ab n a' gb ob bcs tb) (hnb : NatsAt w ae n b' ge oe ecs te) (hn63 : n < 9223372036854775808) (hq : ∀ w', Below w.heap.size w w' → Calls Try.prog 38 #[.pointer v] w' fun e w2 => e = .returned (.pointer (some x)) ∧ Below w'.heap.size w' w2)
  (hmu : ∀ i, i < n → ∀ w', Below w.heap.size w w' → Calls Try.prog 19 #[.pointer v, .agg (natC (a' i)), .agg (natC (b' i))] w' fun e w2 => e = .returned (.agg (natC (T i))) ∧ Below w'.heap.size w' w2)
  (had : ∀ i, i < n → ∀ w', Below w.heap.size w w' → Calls Try.prog 14 #[.pointer v, .agg (natC (D i)), .agg (natC (T i))] w' fun e w2 => e = .returned (.agg (natC (D (i + 1)))) ∧ Below w'.heap.size w' w2) :
  Calls Try.prog 24 #[.pointer v, .slice ab n ca, .slice ae n ce] w fun e w' => e = .returned (.tuple #[.agg (natC (D n)), .int .i64 0]) ∧ Below w.heap.size w w' := by
 have HB : Hid (NatsAt w ab n a' gb ob bcs tb) := hna
 have HE : Hid (NatsAt w ae n b' ge oe ecs te) := hnb
 clear hna hnb
 go_enter Try.func24, Try.ntmps24
 (repeat ((fail_if_success with_reducible refine rg ?_); go_step))
 refine wp_region_pw ?_
 refine pw_new (by rfl) 24 rfl _ zero_nat ?_
 intro g6 z0 n0 r6 k
 simp only [Act.put, pu]
 have b6 : w.heap.size ≤ g6 := n0
 clear n0
 have sb := k.below w.heap.size (Nat.le_refl _) (by simp)
 clear k
 refine pw_value (by rfl) (.int .i64 0) (fun _ => rfl) ?_
 simp only [Act.put, pu]
 refine pw_nil ?_
 (repeat ((fail_if_success with_reducible refine rg ?_); go_step))
 refine wp_region_pw ?_
 refine pw_mv (by rfl) rfl rfl ?_
 simp only [Act.put, pu]
 refine pw_callB (by rfl) 38 _ _ rfl Try.func38 (by kernel_rfl) #[.pointer v] rfl _ (hq _ sb) ?_
 intro z1001 k
 simp only [Act.put, pu]
 replace r6 := k.row r6 (by simp <;> omega)
 replace sb := sb.trans (k.below w.heap.size sb.size (by simp <;> omega))
 clear k
 refine pw_value (by rfl) (.bool false) (exec_eql_nilp _ _ _ _ rfl (some x) rfl rfl ptr_ring8) ?_
 simp only [Act.put, pu]
 refine pw_mv (by rfl) rfl rfl ?_
 simp only [Act.put, pu]
 refine pw_mv (by rfl) rfl rfl ?_
 simp only [Act.put, pu]
 refine pw_value (by rfl) (.int .i64 n) (exec_len_s 46 _ rfl ab n ca rfl sl_nats) ?_
 simp only [Act.put, pu]
 refine pw_mv (by rfl) rfl rfl ?_
 simp only [Act.put, pu]
 refine pw_value (by rfl) (.int .i64 n) (exec_len_s 46 _ rfl ae n ce rfl sl_nats) ?_
 simp only [Act.put, pu]
 refine pw_value (by rfl) (.bool false) (exec_neq_k .i64 _ _ _ _ rfl n n rfl rfl false (by rw [decide_eq_true rfl]; rfl)) ?_
 simp only [Act.put, pu]
 refine pw_pick (by rfl) false (v := .bool false) rfl rfl rfl ?_
 simp only [Act.put, pu]
 refine pw_nil ?_
 clear hq
 (repeat ((fail_if_success with_reducible refine rg ?_); go_step))
 refine wp_region_pw ?_
 refine pw_new (by rfl) 24 rfl _ zero_nat ?_
 intro g8 z3000 n0 r8 k
 simp only [Act.put, pu]
 have d6x8 := Nat.lt_of_lt_of_le r6.lt n0
 have b8 := Nat.le_trans sb.size n0
 clear n0
 replace r6 := k.row r6 (by simp <;> omega)
 replace sb := sb.trans (k.below w.heap.size sb.size (by simp <;> omega))
 clear k
 refine pw_nil ?_
 (repeat ((fail_if_success with_reducible refine rg ?_); go_step))
 refine wp_region_pw ?_
 refine pw_mv (by rfl) rfl rfl ?_
 simp only [Act.put, pu]
 refine pw_value (by rfl) (.int .i64 n) (exec_len_s 46 _ rfl ab n ca rfl sl_nats) ?_
 simp only [Act.put, pu]
 refine pw_value (by rfl) (.int .i64 0) (fun _ => rfl) ?_
 simp only [Act.put, pu]
 refine pw_nil ?_
 have r8' : Row _ g8 (natC (D 0)) 24 := hD0 ▸ r8
 clear r8 hD0
 go_wp2_with fail
 go_loopg [9, 23] n (fun g s9 s23 wr => ∃ i : Nat, i + g = n ∧ s23 = .int .i64 i ∧ Row wr g6 (natC 0) 24 ∧ Row wr g8 (natC (D i)) 24 ∧ Below w.heap.size w wr)
 case atStart => exact ⟨0, by omega, rfl, r6, r8', sb⟩
 case round =>
  clear r6 r8' sb
  obtain ⟨i, hi, rfl, r6, r8, sb⟩ := hrel
  cases gk with
  | zero =>
   obtain rfl : i = n := by omega
   clear hi hmu had
   (repeat ((fail_if_success with_reducible refine rg ?_); go_step))
   refine wp_region_pw ?_
   refine pw_value (by rfl) (.bool false) (exec_lt_b _ _ _ _ rfl i i rfl rfl false (decide_eq_false (Int.lt_irrefl _))) ?_
   simp only [Act.put, pu]
   refine pw_nil ?_
   (repeat ((fail_if_success with_reducible refine rg ?_); go_step))
   refine wp_region_pw ?_
   refine pw_loadm (by rfl) 24 _ rfl _ 0 rfl r8.r _ (part_all _) _ Try.underlying24 rfl size_nat ?_
   simp only [Act.put, pu]
   refine pw_put (by rfl) 24 _ _ rfl _ rfl r6 (natC (D i)) rfl (by exact size_nat) (by simp only [natC_size]) (natC_one _) ?_
   clear r6
   intro z9001 r6 k
   simp only [Act.put]
   replace r8 := k.row r8 (by simp <;> omega)
   replace sb := sb.trans (k.below w.heap.size sb.size (by simp <;> omega))
   clear k
   refine pw_value (by rfl) (.int .i64 0) (fun _ => rfl) ?_
   simp only [Act.put, pu]
   refine pw_nil ?_
   go_wp2
   exact ret_row2 rfl _ rfl r6 4 _ Try.underlying24 (by exact size_nat) rfl _ rfl ⟨rfl, sb⟩
  | succ g =>
   have hlt : i < n := by omega
   replace hmu := hmu i hlt
   replace had := had i hlt
   (repeat ((fail_if_success with_reducible refine rg ?_); go_step))
   refine wp_region_pw ?_
   refine pw_value (by rfl) (.bool true) (exec_lt_b _ _ _ _ rfl i n rfl rfl true (decide_eq_true (by omega))) ?_
   simp only [Act.put, pu]
   refine pw_nil ?_
   (repeat ((fail_if_success with_reducible refine rg ?_); go_step))
   refine wp_region_pw ?_
   refine pw_mv (by rfl) rfl rfl ?_
   simp only [Act.put, pu]
   refine pw_as (by rfl) rfl rfl ?_
   simp only [Act.put, pu]
   refine pw_nil ?_
   obtain h0 | ⟨rfl, rB, hbt⟩ := (HB.out.below sb).at'
   ·omega
   obtain h0 | ⟨rfl, rE, het⟩ := (HE.out.below sb).at'
   ·omega
   have lB := ((HB.out.at'.resolve_left (by omega)).2.1).lt
   have lE := ((HE.out.at'.resolve_left (by omega)).2.1).lt
   (repeat ((fail_if_success with_reducible refine rg ?_); go_step))
   apply wp_region_mix (by kernel_rfl) [(g8, 24, natC (D i))] [_, _, _, _, _, _, _, _, _, _, _, _, _, _] ⟨r8, trivial⟩ (by simp <;> omega)
   ·intro p
    refine mx_move rfl rfl ?_
    simp only [Act.put, pu]
    refine mx_loadT 0 24 _ rfl rfl rfl 4 _ Try.underlying24 size_nat ?_
    simp only [Act.put, pu]
    refine mx_move rfl rfl ?_
    simp only [Act.put, pu]
    refine mx_move rfl rfl ?_
    simp only [Act.put, pu]
    refine mx_move rfl rfl ?_
    simp only [Act.put, pu]
    refine mx_val (.pointer (some ⟨gb, ob + i * 4, none⟩)) (exec_index_s 46 _ _ rfl gb ob n ca rfl i rfl hlt _ Try.underlying46 4 size_nat4) ?_
    simp only [Act.put, pu]
    refine mx_loadmR 24 _ rfl _ ((ob + i * 4)) rfl rB (by simp <;> omega) (natC (a' i)) (hbt i hlt) _ Try.underlying24 rfl size_nat ?_
    simp only [Act.put, pu]
    refine mx_move rfl rfl ?_
    simp only [Act.put, pu]
    refine mx_move rfl rfl ?_
    simp only [Act.put, pu]
    refine mx_val (.pointer (some ⟨ge, oe + i * 4, none⟩)) (exec_index_s 46 _ _ rfl ge oe n ce rfl i rfl hlt _ Try.underlying46 4 size_nat4) ?_
    simp only [Act.put, pu]
    refine mx_loadmR 24 _ rfl _ ((oe + i * 4)) rfl rE (by simp <;> omega) (natC (b' i)) (het i hlt) _ Try.underlying24 rfl size_nat ?_
    simp only [Act.put, pu]
    refine mx_callK 19 _ _ rfl Try.func19 (by kernel_rfl) #[.pointer v, .agg (natC (a' i)), .agg (natC (b' i))] rfl _ (fun w' hk => hmu w' (sb.trans (hk.below w.heap.size sb.size (by simp <;> omega)))) ?_
    simp only [Act.put, pu]
    refine mx_callK 14 _ _ rfl Try.func14 (by kernel_rfl) #[.pointer v, .agg (natC (D i)), .agg (natC (T i))] rfl _ (fun w' hk => had w' (sb.trans (hk.below w.heap.size sb.size (by simp <;> omega)))) ?_
    simp only [Act.put, pu]
    refine mx_put 0 24 _ _ rfl rfl rfl (natC (D (i + 1))) rfl (by exact size_nat) (by simp only [natC_size]) (natC_one _) ?_
    simp only [Act.put]
    refine mx_end ?_
    intro w10 hkw hrw hnew hdis
    have zr8 : Row w10 (g8) (natC (D (i + 1))) 24 := hrw 0 (24, natC (D (i + 1))) rfl
    replace r6 := hkw.row r6 (by simp <;> omega)
    replace sb := sb.trans (hkw.below w.heap.size sb.size (by simp <;> omega))
    clear hkw hrw hnew hdis r8
    have r8 := zr8
    clear zr8
    (repeat ((fail_if_success with_reducible refine rg ?_); go_step))
    refine wp_region_pw ?_
    refine pw_value (by rfl) (.int .i64 ((i + 1 : Nat) : Int)) (exec_add_in _ _ _ _ rfl i 1 rfl rfl (by omega)) ?_
    simp only [Act.put, pu]
    refine pw_mv (by rfl) rfl rfl ?_
    simp only [Act.put, pu]
    refine pw_nil ?_
    go_wp2
    go_roundg g
    case measure => omega
    case rel => exact ⟨i + 1, by omega, rfl, r6, r8, sb⟩
   ·kernel_rfl
/-- A group whose field's ring can be used. -/
structure FdQ (Q : Nat) : Prop extends RgQ Q where
 pr : IsP Q
theorem FdQ.pos {Q : Nat} (h : FdQ Q) : 0 < Q := Nat.lt_of_lt_of_le (by decide) h.two
theorem fIn_ok (A g gr gf P Q G : Nat) (w : World) (hA : A < 2 ^ 256) (q : FdQ Q) (h : GrpAt w g gr gf P Q G) :
  Calls Try.prog 12 #[.pointer (some ⟨g, 0, none⟩), .agg (natC A)] w fun e w' => e = .returned (.bool (decide (A < Q))) ∧ Below w.heap.size w w' := by
 refine fIn_core _ _ A _ w (fun w' hb => grpField_any _ _ _ _ _ _ w' (h.below hb).kn) fun w' hb => ?_
 have := ringIn_any A Q _ _ _ gf w' hA q.pos q.m (h.below hb).fld
 rw [cmp_neg] at this
 exact this
theorem fAdd_ok (A B g gr gf P Q G : Nat) (w : World) (hA : A < 2 ^ 256) (hB : B < 2 ^ 256) (q : FdQ Q) (h : GrpAt w g gr gf P Q G) :
  Calls Try.prog 14 #[.pointer (some ⟨g, 0, none⟩), .agg (natC A), .agg (natC B)] w fun e w' => e = .returned (.agg (natC ((A + B) % Q))) ∧ Below w.heap.size w w' := by
 refine fAdd_core _ A B Q _ (errI Q) w (fun w' hb => grpQ_any _ _ _ _ _ _ w' (h.below hb).kn) fun w' => ?_
 have := wadd_any A B Q w' hA hB q.m
 rw [modZ_full _ _ (Nat.pos_iff_ne_zero.1 q.pos)] at this
 exact this
theorem fSub_ok (A B g gr gf P Q G : Nat) (w : World) (hA : A < 2 ^ 256) (hB : B < 2 ^ 256) (q : FdQ Q) (h : GrpAt w g gr gf P Q G) :
  Calls Try.prog 17 #[.pointer (some ⟨g, 0, none⟩), .agg (natC A), .agg (natC B)] w fun e w' => e = .returned (.agg (natC (sbN A B Q))) ∧ Below w.heap.size w w' := by
 refine fSub_core _ A B Q _ (errI Q) w (fun w' hb => grpQ_any _ _ _ _ _ _ w' (h.below hb).kn) fun w' => ?_
 have := wsub_any A B Q w' hA hB q.m
 rw [subZ_sb _ _ _ q.pos] at this
 exact this
theorem fMul_ok (A B g gr gf P Q G : Nat) (w : World) (hA : A < 2 ^ 256) (hB : B < 2 ^ 256) (q : FdQ Q) (h : GrpAt w g gr gf P Q G) :
  Calls Try.prog 19 #[.pointer (some ⟨g, 0, none⟩), .agg (natC A), .agg (natC B)] w fun e w' => e = .returned (.agg (natC (A * B % Q))) ∧ Below w.heap.size w w' :=
 fMul_core _ _ A B _ w (fun w' hb => grpField_any _ _ _ _ _ _ w' (h.below hb).kn) fun w' hb => mul_ok A B Q gf q.toRgQ w' hA hB (h.below hb).fld
theorem fInv_ok (A g gr gf P Q G : Nat) (w : World) (hA : A < 2 ^ 256) (q : FdQ Q) (h : GrpAt w g gr gf P Q G) :
  Calls Try.prog 21 #[.pointer (some ⟨g, 0, none⟩), .agg (natC A)] w fun e w' => e = .returned (.agg (natC (invZ A Q))) ∧ Below w.heap.size w w' :=
 fInv_core _ A Q _ _ w (fun w' hb => grpQ_any _ _ _ _ _ _ w' (h.below hb).kn) fun w' => winv_any A Q w' hA q.m
theorem fDot_differ (g gr gf P Q G n m ca ce : Nat) (ab ae : Option Addr) (w : World) (hnm : n ≠ m) (h : GrpAt w g gr gf P Q G) :
  Calls Try.prog 24 #[.pointer (some ⟨g, 0, none⟩), .slice ab n ca, .slice ae m ce] w fun e w' => e = .returned (.tuple #[.agg (natC 0), .int .i64 1]) ∧ Below w.heap.size w w' :=
 fDot_len _ ab ae n m ca ce ⟨gf, 0, none⟩ _ rfl hnm w fun w' hb => grpField_any _ _ _ _ _ _ w' (h.below hb).kn
theorem fDot_ok (g gr gf P Q G n ca ce : Nat) (ab ae : Option Addr) (a' b' : Nat → Nat) (gb ob ge oe : Nat) (bcs ecs : Array Value) (tb te : TypeId) (w : World) (q : FdQ Q) (hn : n < 9223372036854775808)
  (hna : NatsAt w ab n a' gb ob bcs tb) (hnb : NatsAt w ae n b' ge oe ecs te) (h : GrpAt w g gr gf P Q G) :
  Calls Try.prog 24 #[.pointer (some ⟨g, 0, none⟩), .slice ab n ca, .slice ae n ce] w fun e w' => e = .returned (.tuple #[.agg (natC (dotN a' b' Q n)), .int .i64 0]) ∧ Below w.heap.size w w' :=
 fDot_core _ ab ae n ca ce ⟨gf, 0, none⟩ a' b' (fun i => a' i * b' i % Q) (dotN a' b' Q) gb ob ge oe bcs ecs tb te w rfl hna hnb hn (fun w' hb => grpField_any _ _ _ _ _ _ w' (h.below hb).kn)
  (fun i hi w' hb => fMul_ok _ _ g gr gf P Q G w' (hna.lt i hi) (hnb.lt i hi) q (h.below hb))
  (fun i _ w' hb => fAdd_ok _ _ g gr gf P Q G w' (Nat.lt_trans (dotN_lt a' b' Q q.pos i) q.m) (Nat.lt_trans (Nat.mod_lt _ q.pos) q.m) q (h.below hb))
/-- Of a group that nobody made. -/
def NoG (w : World) (v : Option Addr) : Prop := KnAt w v 0 0 0 none none
theorem NoG.below {w w' : World} {v : Option Addr} (h : NoG w v) (hb : Below w.heap.size w w') : NoG w' v := KnAt.below h hb
theorem fIn_no (v : Option Addr) (A : Nat) (w : World) (h : NoG w v) :
  Calls Try.prog 12 #[.pointer v, .agg (natC A)] w fun e w' => e = .returned (.bool false) ∧ Below w.heap.size w w' :=
 fIn_core _ _ A _ w (fun w' hb => grpField_any _ _ _ _ _ _ w' (h.below hb)) fun w' _ => in_no none A w' (.inl rfl)
theorem fAdd_no (v : Option Addr) (A B : Nat) (w : World) (hA : A < 2 ^ 256) (hB : B < 2 ^ 256) (h : NoG w v) :
  Calls Try.prog 14 #[.pointer v, .agg (natC A), .agg (natC B)] w fun e w' => e = .returned (.agg (natC 0)) ∧ Below w.heap.size w w' :=
 fAdd_core _ A B 0 0 _ w (fun w' hb => grpQ_any _ _ _ _ _ _ w' (h.below hb)) fun w' => wadd_any A B 0 w' hA hB (by decide)
theorem fSub_no (v : Option Addr) (A B : Nat) (w : World) (hA : A < 2 ^ 256) (hB : B < 2 ^ 256) (h : NoG w v) :
  Calls Try.prog 17 #[.pointer v, .agg (natC A), .agg (natC B)] w fun e w' => e = .returned (.agg (natC 0)) ∧ Below w.heap.size w w' :=
 fSub_core _ A B 0 0 _ w (fun w' hb => grpQ_any _ _ _ _ _ _ w' (h.below hb)) fun w' => wsub_any A B 0 w' hA hB (by decide)
theorem fMul_no (v : Option Addr) (A B : Nat) (w : World) (h : NoG w v) :
  Calls Try.prog 19 #[.pointer v, .agg (natC A), .agg (natC B)] w fun e w' => e = .returned (.agg (natC 0)) ∧ Below w.heap.size w w' :=
 fMul_core _ _ A B _ w (fun w' hb => grpField_any _ _ _ _ _ _ w' (h.below hb)) fun w' _ => mul_no none A B w' (.inl rfl)
theorem fInv_no (v : Option Addr) (A : Nat) (w : World) (hA : A < 2 ^ 256) (h : NoG w v) :
  Calls Try.prog 21 #[.pointer v, .agg (natC A)] w fun e w' => e = .returned (.agg (natC 0)) ∧ Below w.heap.size w w' :=
 fInv_core _ A 0 0 _ w (fun w' hb => grpQ_any _ _ _ _ _ _ w' (h.below hb)) fun w' => winv_any A 0 w' hA (by decide)
theorem fDot_nobody (v ab ae : Option Addr) (n m ca ce : Nat) (w : World) (h : NoG w v) :
  Calls Try.prog 24 #[.pointer v, .slice ab n ca, .slice ae m ce] w fun e w' => e = .returned (.tuple #[.agg (natC 0), .int .i64 1]) ∧ Below w.heap.size w w' :=
 fDot_no v ab ae n m ca ce _ rfl w fun w' hb => grpField_any _ _ _ _ _ _ w' (h.below hb)
end Go.Proofs.Ytcgeimbfijpocaa
