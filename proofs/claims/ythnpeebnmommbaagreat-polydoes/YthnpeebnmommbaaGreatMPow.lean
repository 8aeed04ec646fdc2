/- The document's Times, Power and Exp: powers by any natural. -/
import Derived.Test.YthnpeebnmommbaaGreatWDivS
import Derived.Test.YthnpeebnmommbaaGreatMRef
namespace Go.Proofs.YthnpeebnmommbaaGreat
open Go.RowKit
theorem exec_geq_i {P : Program} {o : Oper} {ρ : Operand → Value} (t : TypeId) (x y : Operand) (u : TypeId) (ho : o.op = .binOp .geq t x y u) (n m : Int) (hx : ρ x = .int .i64 n) (hy : ρ y = .int .i64 m) (b : Bool) (hb : decide (m ≤ n) = b) (w : World) :
  (execOp ρ o).run P w = .ok (.value (.bool b)) w := by
 subst hb
 unfold execOp
 simp only [ho, hx, hy]
 simp [go_sem]
set_option maxRecDepth 100000 in
set_option maxHeartbeats 1000000 in
theorem rtimes_any (a b m : Nat) (w : World) (hm0 : 0 < m) (hm : m < 4611686018427387904) :
  Calls Tryz.prog 64 #[.int .i64 a, .int .i64 b, .int .i64 m] w fun e w' => e = .returned (.int .i64 (a * b % m : Nat)) ∧ Below w.heap.size w w' := by
 have h1 := Nat.mod_lt a hm0
 have h2 := Nat.mod_lt b hm0
 have e3 : a % m * (b % m) % m = a * b % m := (Nat.mul_mod a b m).symm
 have hr := Nat.mod_lt (a * b) hm0
 have h4 : a % m * (b % m) < m * m := Nat.mul_lt_mul'' h1 h2
 have h5 : m * m ≤ m * 4611686018427387904 := Nat.mul_le_mul_left m (Nat.le_of_lt hm)
 have hmul := fun w' => mul64_any (a % m) (b % m) (by omega) (by omega) w'
 have hq : a % m * (b % m) / 18446744073709551616 < m := by
  rw [Nat.div_lt_iff_lt_mul (by decide)]
  omega
 have hdiv := fun w' => div64s_any (a % m * (b % m) / 18446744073709551616) (a % m * (b % m) % 18446744073709551616) m w' hq (by omega) (Nat.mod_lt _ (by decide))
 rw [show a % m * (b % m) / 18446744073709551616 * 18446744073709551616 + a % m * (b % m) % 18446744073709551616 = a % m * (b % m) from Nat.div_add_mod' _ _, e3] at hdiv
 clear h4 h5 hq e3
 generalize a % m * (b % m) / 18446744073709551616 = hi at *
 generalize a % m * (b % m) % 18446744073709551616 = lo at *
 generalize a * b % m = z at *
 go_enter Tryz.func64, Tryz.ntmps64
 (repeat ((fail_if_success with_reducible refine rg ?_); go_step))
 apply wp_region_mixp [] [_] trivial List.nodup_nil
 ·intro p
  refine mx_val (.int .i64 0) (fun _ => rfl) ?_
  simp only [Act.put, pu]
  refine mx_end ?_
  intro w2 hkw hrw hnew hdis
  have sb := hkw.below w.heap.size (Nat.le_refl _) (by simp)
  clear hkw hrw hnew hdis
  (repeat ((fail_if_success with_reducible refine rg ?_); go_step))
  apply wp_region_mix (by kernel_rfl) [] [_, _, _, _, _, _, _, _, _, _, _, _, _, _] trivial List.nodup_nil
  ·intro p
   refine mx_move rfl rfl ?_
   simp only [Act.put, pu]
   refine mx_move rfl rfl ?_
   simp only [Act.put, pu]
   refine mx_val (.int .i64 (a % m : Nat)) (exec_rem_i _ _ _ _ rfl a m rfl rfl hm0) ?_
   simp only [Act.put, pu]
   refine mx_val (.int .u64 (a % m : Nat)) (exec_conv_iw _ rfl (a % m) rfl (by omega)) ?_
   simp only [Act.put, pu]
   refine mx_move rfl rfl ?_
   simp only [Act.put, pu]
   refine mx_move rfl rfl ?_
   simp only [Act.put, pu]
   refine mx_val (.int .i64 (b % m : Nat)) (exec_rem_i _ _ _ _ rfl b m rfl rfl hm0) ?_
   simp only [Act.put, pu]
   refine mx_val (.int .u64 (b % m : Nat)) (exec_conv_iw _ rfl (b % m) rfl (by omega)) ?_
   simp only [Act.put, pu]
   refine mx_call 86 _ _ rfl Tryz.func86 (by kernel_rfl) #[.int .u64 (a % m : Nat), .int .u64 (b % m : Nat)] rfl _ hmul ?_
   simp only [Act.put, pu]
   refine mx_move rfl rfl ?_
   simp only [Act.put, pu]
   refine mx_ext rfl rfl rfl ?_
   simp only [Act.put, pu]
   refine mx_ext rfl rfl rfl ?_
   simp only [Act.put, pu]
   refine mx_asg rfl rfl ?_
   simp only [Act.put, pu]
   refine mx_asg rfl rfl ?_
   simp only [Act.put, pu]
   refine mx_end ?_
   intro w3 hkw hrw hnew hdis
   replace sb := sb.trans (hkw.below w.heap.size sb.size (by simp <;> omega))
   clear hkw hrw hnew hdis
   go_wp2_with (first
    | refine wpList_value rfl (.int .u64 (m : Nat)) (exec_conv_iw _ rfl m rfl (by omega) _) ?_)
   refine (hdiv _).mono ?_
   rintro _ wb ⟨⟨q, rfl⟩, bb⟩
   replace sb := below_on sb (Nat.le_refl _) bb
   clear bb hdiv hmul
   dsimp only
   (repeat ((fail_if_success with_reducible refine rg ?_); go_step))
   apply wp_region_mixp [] [_, _, _] trivial List.nodup_nil
   ·intro p
    refine mx_move rfl rfl ?_
    simp only [Act.put, pu]
    refine mx_val (.int .i64 z) (exec_conv_ui _ rfl z rfl (by omega)) ?_
    simp only [Act.put, pu]
    refine mx_asg rfl rfl ?_
    simp only [Act.put, pu]
    refine mx_end ?_
    intro w4 hkw hrw hnew hdis
    replace sb := sb.trans (hkw.below w.heap.size sb.size (by simp <;> omega))
    clear hkw hrw hnew hdis
    go_wp2
    go_ret
    exact ⟨rfl, sb⟩
   ·rfl
  ·kernel_rfl
 ·rfl
end Go.Proofs.YthnpeebnmommbaaGreat
