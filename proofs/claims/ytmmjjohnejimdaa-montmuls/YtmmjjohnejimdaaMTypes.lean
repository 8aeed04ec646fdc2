/- A ring as a row of 13 cells; timesMore. -/
import Derived.Test.YtmmjjohnejimdaaMixMore
import Derived.Test.YtmmjjohnejimdaaRLen
import Derived.Test.YtmmjjohnejimdaaMMath
import Derived.Test.YtmmjjohnejimdaaWInvMath
namespace Go.Proofs.Ytmmjjohnejimdaa
open Go.RowKit

theorem info_a4 : (Try.prog.info? 23).map (fun i => (i.zero, i.size)) = some (some (.agg (natC 0)), 4) := by kernel_rfl
theorem zero_a4 (w : World) : (zeroValue 23).run Try.prog w = .ok (.agg (natC 0)) w := (zero_of_info info_a4).1 w
theorem size_a4 : (Try.prog.info? 23).map (·.size) = some 4 := (zero_of_info info_a4).2
/-- The cells of a ring: the natural, what makes the lowest limb one less than 2^64, the form of 1, the form of 2^256. -/
def rgC (M mi one sq : Nat) : Array Value := #[.int .u64 (lm M 0), .int .u64 (lm M 1), .int .u64 (lm M 2), .int .u64 (lm M 3), .int .u64 mi, .int .u64 (lm one 0), .int .u64 (lm one 1), .int .u64 (lm one 2), .int .u64 (lm one 3), .int .u64 (lm sq 0), .int .u64 (lm sq 1), .int .u64 (lm sq 2), .int .u64 (lm sq 3)]
theorem natC_list (N : Nat) : (natC N).toList = [.int .u64 (lm N 0), .int .u64 (lm N 1), .int .u64 (lm N 2), .int .u64 (lm N 3)] := rfl
theorem part4 {cs : Array Value} {off N : Nat} (h0 : cs[off + 0]? = some (.int .u64 (lm N 0))) (h1 : cs[off + 1]? = some (.int .u64 (lm N 1))) (h2 : cs[off + 2]? = some (.int .u64 (lm N 2))) (h3 : cs[off + 3]? = some (.int .u64 (lm N 3))) :
    ∀ j v, (natC N).toList[j]? = some v → cs[off + j]? = some v := by
  intro j v hv
  rw [natC_list] at hv
  match j, hv with
  | 0, hv => rw [h0]; exact hv
  | 1, hv => rw [h1]; exact hv
  | 2, hv => rw [h2]; exact hv
  | 3, hv => rw [h3]; exact hv
  | j + 4, hv => simp at hv
theorem rg_m (M mi one sq : Nat) : ∀ j v, (natC M).toList[j]? = some v → (rgC M mi one sq)[0 + j]? = some v := part4 rfl rfl rfl rfl
theorem rg_one (M mi one sq : Nat) : ∀ j v, (natC one).toList[j]? = some v → (rgC M mi one sq)[5 + j]? = some v := part4 rfl rfl rfl rfl
theorem rg_sq (M mi one sq : Nat) : ∀ j v, (natC sq).toList[j]? = some v → (rgC M mi one sq)[9 + j]? = some v := part4 rfl rfl rfl rfl
theorem rg_cell (M mi one sq j : Nat) (hj : j < 4) : (rgC M mi one sq)[j]? = some (.int .u64 (lm M j)) := by
  match j, hj with
  | 0, _ => rfl
  | 1, _ => rfl
  | 2, _ => rfl
  | 3, _ => rfl
theorem exec_add_un {P : Program} {o : Oper} {ρ : Operand → Value} (t : TypeId) (x y : Operand) (u : TypeId) (ho : o.op = .binOp .add t x y u) (n m : Nat) (hx : ρ x = .int .u64 n) (hy : ρ y = .int .u64 m) (h : n + m < 18446744073709551616) (w : World) :
    (execOp ρ o).run P w = .ok (.value (.int .u64 ((n + m : Nat) : Int))) w := by
  unfold execOp
  simp only [ho, hx, hy]
  simp [go_sem]
  rw [IntKind.wrap_u64]
  omega
theorem exec_mul_un {P : Program} {o : Oper} {ρ : Operand → Value} (t : TypeId) (x y : Operand) (u : TypeId) (ho : o.op = .binOp .mul t x y u) (n m : Nat) (hx : ρ x = .int .u64 n) (hy : ρ y = .int .u64 m) (w : World) :
    (execOp ρ o).run P w = .ok (.value (.int .u64 ((n * m % 18446744073709551616 : Nat) : Int))) w := by
  unfold execOp
  simp only [ho, hx, hy]
  simp [go_sem]
  rw [IntKind.wrap_u64]

set_option maxRecDepth 100000 in
set_option maxHeartbeats 1000000 in
theorem tmore_core (a b m c hi lo x1 y1 x2 y2 : Nat) (w : World) (hb1 : hi + y1 < 18446744073709551616) (hb2 : hi + y1 + y2 < 18446744073709551616) (e1 : x1 = addV lo m 0) (e2 : y1 = addC lo m 0) (e3 : x2 = addV x1 c 0) (e4 : y2 = addC x1 c 0)
    (hmu : ∀ w', Calls Try.prog 59 #[.int .u64 a, .int .u64 b] w' fun e w2 => e = .returned (.tuple #[.int .u64 hi, .int .u64 lo]) ∧ Below w'.heap.size w' w2) :
    Calls Try.prog 73 #[.int .u64 a, .int .u64 b, .int .u64 m, .int .u64 c] w fun e w' => e = .returned (.tuple #[.int .u64 x2, .int .u64 ((hi + y1 + y2 : Nat) : Int)]) ∧ Below w.heap.size w w' := by
  go_enter Try.func73, Try.ntmps73
  (repeat ((fail_if_success (with_reducible show Code.wp _ (Code.region _ _ _) _ _ _)); go_step))
  apply wp_region_mixq [] [_, _] trivial List.nodup_nil rfl
  intro p
  refine mx_val (.int .u64 0) (fun _ => rfl) ?_
  simp only [Act.put, List.setIfInBounds_toArray, List.set_cons_zero, List.set_cons_succ]
  refine mx_val (.int .u64 0) (fun _ => rfl) ?_
  simp only [Act.put, List.setIfInBounds_toArray, List.set_cons_zero, List.set_cons_succ]
  refine mx_end ?_
  intro vw1 hkw hrw hnew hdis
  have sb := hkw.below w.heap.size (Nat.le_refl _) (by simp)
  clear hkw hrw hnew hdis
  (repeat ((fail_if_success (with_reducible show Code.wp _ (Code.region _ _ _) _ _ _)); go_step))
  apply wp_region_mixq [] [_, _, _, _, _, _, _, _] trivial List.nodup_nil rfl
  intro p
  refine mx_move rfl rfl ?_
  simp only [Act.put, List.setIfInBounds_toArray, List.set_cons_zero, List.set_cons_succ]
  refine mx_move rfl rfl ?_
  simp only [Act.put, List.setIfInBounds_toArray, List.set_cons_zero, List.set_cons_succ]
  refine mx_call 59 _ _ rfl Try.func59 (by kernel_rfl) #[.int .u64 a, .int .u64 b] rfl _ hmu ?_
  simp only [Act.put, List.setIfInBounds_toArray, List.set_cons_zero, List.set_cons_succ]
  refine mx_move rfl rfl ?_
  simp only [Act.put, List.setIfInBounds_toArray, List.set_cons_zero, List.set_cons_succ]
  refine mx_ext rfl rfl rfl ?_
  simp only [Act.put, List.setIfInBounds_toArray, List.set_cons_zero, List.set_cons_succ]
  refine mx_ext rfl rfl rfl ?_
  simp only [Act.put, List.setIfInBounds_toArray, List.set_cons_zero, List.set_cons_succ]
  refine mx_asg rfl rfl ?_
  simp only [Act.put, List.setIfInBounds_toArray, List.set_cons_zero, List.set_cons_succ]
  refine mx_asg rfl rfl ?_
  simp only [Act.put, List.setIfInBounds_toArray, List.set_cons_zero, List.set_cons_succ]
  refine mx_end ?_
  intro vw2 hkw hrw hnew hdis
  replace sb := sb.trans (hkw.below w.heap.size sb.size (by simp <;> omega))
  clear hkw hrw hnew hdis
  (repeat ((fail_if_success (with_reducible show Code.wp _ (Code.region _ _ _) _ _ _)); go_step))
  apply wp_region_mixq [] [_, _, _, _, _, _, _, _] trivial List.nodup_nil rfl
  intro p
  refine mx_move rfl rfl ?_
  simp only [Act.put, List.setIfInBounds_toArray, List.set_cons_zero, List.set_cons_succ]
  refine mx_move rfl rfl ?_
  simp only [Act.put, List.setIfInBounds_toArray, List.set_cons_zero, List.set_cons_succ]
  refine mx_val (.tuple #[.int .u64 x1, .int .u64 y1]) (fun w' => (exec_extern 60 _ _ rfl Try.func60 (by kernel_rfl) (by kernel_rfl) next_add64 find_add64 #[.int .u64 lo, .int .u64 m, .int .u64 (0 : Nat)] rfl _ (run_add64_nat _ _ _ (by omega) _)).trans (by rw [e1, e2])) ?_
  simp only [Act.put, List.setIfInBounds_toArray, List.set_cons_zero, List.set_cons_succ]
  refine mx_move rfl rfl ?_
  simp only [Act.put, List.setIfInBounds_toArray, List.set_cons_zero, List.set_cons_succ]
  refine mx_ext rfl rfl rfl ?_
  simp only [Act.put, List.setIfInBounds_toArray, List.set_cons_zero, List.set_cons_succ]
  refine mx_ext rfl rfl rfl ?_
  simp only [Act.put, List.setIfInBounds_toArray, List.set_cons_zero, List.set_cons_succ]
  refine mx_asg rfl rfl ?_
  simp only [Act.put, List.setIfInBounds_toArray, List.set_cons_zero, List.set_cons_succ]
  refine mx_asg rfl rfl ?_
  simp only [Act.put, List.setIfInBounds_toArray, List.set_cons_zero, List.set_cons_succ]
  refine mx_end ?_
  intro vw3 hkw hrw hnew hdis
  replace sb := sb.trans (hkw.below w.heap.size sb.size (by simp <;> omega))
  clear hkw hrw hnew hdis
  (repeat ((fail_if_success (with_reducible show Code.wp _ (Code.region _ _ _) _ _ _)); go_step))
  apply wp_region_mixq [] [_, _, _, _] trivial List.nodup_nil rfl
  intro p
  refine mx_move rfl rfl ?_
  simp only [Act.put, List.setIfInBounds_toArray, List.set_cons_zero, List.set_cons_succ]
  refine mx_move rfl rfl ?_
  simp only [Act.put, List.setIfInBounds_toArray, List.set_cons_zero, List.set_cons_succ]
  refine mx_val (.int .u64 ((hi + y1 : Nat) : Int)) (exec_add_un _ _ _ _ rfl hi y1 rfl rfl hb1) ?_
  simp only [Act.put, List.setIfInBounds_toArray, List.set_cons_zero, List.set_cons_succ]
  refine mx_asg rfl rfl ?_
  simp only [Act.put, List.setIfInBounds_toArray, List.set_cons_zero, List.set_cons_succ]
  refine mx_end ?_
  intro vw4 hkw hrw hnew hdis
  replace sb := sb.trans (hkw.below w.heap.size sb.size (by simp <;> omega))
  clear hkw hrw hnew hdis
  (repeat ((fail_if_success (with_reducible show Code.wp _ (Code.region _ _ _) _ _ _)); go_step))
  apply wp_region_mixq [] [_, _, _, _, _, _, _, _] trivial List.nodup_nil rfl
  intro p
  refine mx_move rfl rfl ?_
  simp only [Act.put, List.setIfInBounds_toArray, List.set_cons_zero, List.set_cons_succ]
  refine mx_move rfl rfl ?_
  simp only [Act.put, List.setIfInBounds_toArray, List.set_cons_zero, List.set_cons_succ]
  refine mx_val (.tuple #[.int .u64 x2, .int .u64 y2]) (fun w' => (exec_extern 60 _ _ rfl Try.func60 (by kernel_rfl) (by kernel_rfl) next_add64 find_add64 #[.int .u64 x1, .int .u64 c, .int .u64 (0 : Nat)] rfl _ (run_add64_nat _ _ _ (by omega) _)).trans (by rw [e3, e4])) ?_
  simp only [Act.put, List.setIfInBounds_toArray, List.set_cons_zero, List.set_cons_succ]
  refine mx_move rfl rfl ?_
  simp only [Act.put, List.setIfInBounds_toArray, List.set_cons_zero, List.set_cons_succ]
  refine mx_ext rfl rfl rfl ?_
  simp only [Act.put, List.setIfInBounds_toArray, List.set_cons_zero, List.set_cons_succ]
  refine mx_ext rfl rfl rfl ?_
  simp only [Act.put, List.setIfInBounds_toArray, List.set_cons_zero, List.set_cons_succ]
  refine mx_asg rfl rfl ?_
  simp only [Act.put, List.setIfInBounds_toArray, List.set_cons_zero, List.set_cons_succ]
  refine mx_asg rfl rfl ?_
  simp only [Act.put, List.setIfInBounds_toArray, List.set_cons_zero, List.set_cons_succ]
  refine mx_end ?_
  intro vw5 hkw hrw hnew hdis
  replace sb := sb.trans (hkw.below w.heap.size sb.size (by simp <;> omega))
  clear hkw hrw hnew hdis
  (repeat ((fail_if_success (with_reducible show Code.wp _ (Code.region _ _ _) _ _ _)); go_step))
  apply wp_region_mixq [] [_, _, _, _, _, _] trivial List.nodup_nil rfl
  intro p
  refine mx_move rfl rfl ?_
  simp only [Act.put, List.setIfInBounds_toArray, List.set_cons_zero, List.set_cons_succ]
  refine mx_move rfl rfl ?_
  simp only [Act.put, List.setIfInBounds_toArray, List.set_cons_zero, List.set_cons_succ]
  refine mx_move rfl rfl ?_
  simp only [Act.put, List.setIfInBounds_toArray, List.set_cons_zero, List.set_cons_succ]
  refine mx_val (.int .u64 ((hi + y1 + y2 : Nat) : Int)) (exec_add_un _ _ _ _ rfl (hi + y1) y2 rfl rfl hb2) ?_
  simp only [Act.put, List.setIfInBounds_toArray, List.set_cons_zero, List.set_cons_succ]
  refine mx_asg rfl rfl ?_
  simp only [Act.put, List.setIfInBounds_toArray, List.set_cons_zero, List.set_cons_succ]
  refine mx_asg rfl rfl ?_
  simp only [Act.put, List.setIfInBounds_toArray, List.set_cons_zero, List.set_cons_succ]
  refine mx_end ?_
  intro vw6 hkw hrw hnew hdis
  replace sb := sb.trans (hkw.below w.heap.size sb.size (by simp <;> omega))
  clear hkw hrw hnew hdis
  -- the rows that stand: 
  go_wp2
  go_ret2
  exact ⟨rfl, sb⟩
theorem tmore_any (a b m c : Nat) (w : World) (ha : a < 18446744073709551616) (hb : b < 18446744073709551616) (hm : m < 18446744073709551616) (hc : c < 18446744073709551616) :
    Calls Try.prog 73 #[.int .u64 a, .int .u64 b, .int .u64 m, .int .u64 c] w fun e w' => e = .returned (.tuple #[.int .u64 ((a * b + m + c) % 18446744073709551616 : Nat), .int .u64 ((a * b + m + c) / 18446744073709551616 : Nat)]) ∧ Below w.heap.size w w' := by
  obtain ⟨t1, t2, t3, t4⟩ := tl_code (a * b) m c (mul_limbs_le a b ha hb) hm hc
  have := tmore_core a b m c (a * b / 18446744073709551616) (a * b % 18446744073709551616) _ _ _ _ w t2 (by rw [t3]; exact t4) rfl rfl rfl rfl (mul64_any a b ha hb)
  rw [t1, t3] at this
  exact this
end Go.Proofs.Ytmmjjohnejimdaa
