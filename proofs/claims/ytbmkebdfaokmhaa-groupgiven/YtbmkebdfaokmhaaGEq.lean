/- Links that are the same. -/
import Derived.Test.YtbmkebdfaokmhaaGTypes
namespace Go.Proofs.Ytbmkebdfaokmhaa
open Go.RowKit
set_option maxHeartbeats 1000000 in
theorem equal_natR (d X : Nat) (w : World) : (Op.equalIn (d + 1 + 1) 25 (.agg (natC X)) (.agg (natC X))).run Try.prog w = .ok true w := by
 have u3 := Try.underlying23
 have a3 := Try.isAgg23
 have z3 := Try.sizeOf23
 unfold natC
 rw [Op.equalIn]
 simp only [Sem.run_bind, run_underlying Try.underlying25, Result.andThen_ok]
 simp only [Std.Legacy.Range.forIn_eq_forIn_range', Std.Legacy.Range.size, Nat.sub_zero, Nat.add_sub_cancel, Nat.div_one, List.range'_succ, List.range'_zero, List.forIn_cons, List.forIn_nil]
 go_simp
theorem part_lkn (N : Nat) (z : Int) (w : World) : (part 25 (lkC N z) 0).run Try.prog w = .ok (.agg (natC N)) w := by
 unfold lkC natC
 kernel_rfl
theorem part_lkz (N : Nat) (z : Int) (w : World) : (part 3 (lkC N z) 4).run Try.prog w = .ok (.int .i64 z) w := by
 unfold lkC
 kernel_rfl
theorem equal_link (N : Nat) (z : Int) (w : World) : (Op.equalIn 10000 58 (.agg (lkC N z)) (.agg (lkC N z))).run Try.prog w = .ok true w := by
 rw [run_equalIn_struct w 9999 _ _ _ (by kernel_rfl) (by kernel_rfl)]
 simp only [Program.fieldsOf, Try.underlying58, Op.eqFields]
 simp [Sem.run_bind, part_lkn, part_lkz, equal_natR, run_equalIn_int _ _ _ _ _ _ _ Try.underlying3]
theorem exec_neq_link {o : Oper} {ρ : Operand → Value} (x y : Operand) (u : TypeId) (ho : o.op = .binOp .neq 58 x y u) (N : Nat) (z : Int) (hx : ρ x = .agg (lkC N z)) (hy : ρ y = .agg (lkC N z)) (w : World) :
  (execOp ρ o).run Try.prog w = .ok (.value (.bool false)) w := by
 unfold execOp
 simp only [ho, hx, hy]
 simp [run_eqGuard_agg _ _ _ _ _ _ _ (show Try.prog.eqGuardType Try.prog.depth 58 = false by kernel_rfl), run_neq_struct, equal_link]
end Go.Proofs.Ytbmkebdfaokmhaa
