/- The array types of package sha: their zero values, sizes, literals. -/
import Derived.Test.YtdanmnhknmepiaaDoorSSmall
namespace Go.Proofs.YtdanmnhknmepiaaDoor
open Go.RowKit
set_option linter.unusedVariables false
theorem lt8 {n : Nat} (h : n < 256) : n < 4294967296 := by omega
theorem info_8w : (Tryd.prog.info? 53).map (fun i => (i.zero, i.size)) = some (some (.agg (rC .u32 8 fun _ => 0)), 8) := by kernel_rfl
theorem zero_8w (w : World) : (zeroValue 53).run Tryd.prog w = .ok (.agg (rC .u32 8 fun _ => 0)) w := (zero_of_info info_8w).1 w
theorem size_8w : (Tryd.prog.info? 53).map (·.size) = some 8 := (zero_of_info info_8w).2
theorem info_64w : (Tryd.prog.info? 64).map (fun i => (i.zero, i.size)) = some (some (.agg (rC .u32 64 fun _ => 0)), 64) := by kernel_rfl
theorem zero_64w (w : World) : (zeroValue 64).run Tryd.prog w = .ok (.agg (rC .u32 64 fun _ => 0)) w := (zero_of_info info_64w).1 w
theorem size_64w : (Tryd.prog.info? 64).map (·.size) = some 64 := (zero_of_info info_64w).2
theorem info_8i : (Tryd.prog.info? 61).map (fun i => (i.zero, i.size)) = some (some (.agg (rC .i64 8 fun _ => 0)), 8) := by kernel_rfl
theorem zero_8i (w : World) : (zeroValue 61).run Tryd.prog w = .ok (.agg (rC .i64 8 fun _ => 0)) w := (zero_of_info info_8i).1 w
theorem size_8i : (Tryd.prog.info? 61).map (·.size) = some 8 := (zero_of_info info_8i).2
theorem built_8i : Tryd.prog.built 61 [] = some (rC .i64 8 fun _ => 0) := by kernel_rfl
theorem info_64i : (Tryd.prog.info? 68).map (fun i => (i.zero, i.size)) = some (some (.agg (rC .i64 64 fun _ => 0)), 64) := by kernel_rfl
theorem zero_64i (w : World) : (zeroValue 68).run Tryd.prog w = .ok (.agg (rC .i64 64 fun _ => 0)) w := (zero_of_info info_64i).1 w
theorem size_64i : (Tryd.prog.info? 68).map (·.size) = some 64 := (zero_of_info info_64i).2
theorem built_64i : Tryd.prog.built 68 [] = some (rC .i64 64 fun _ => 0) := by kernel_rfl
theorem info_64b : (Tryd.prog.info? 43).map (fun i => (i.zero, i.size)) = some (some (.agg (rC .u8 64 fun _ => 0)), 64) := by kernel_rfl
theorem zero_64b (w : World) : (zeroValue 43).run Tryd.prog w = .ok (.agg (rC .u8 64 fun _ => 0)) w := (zero_of_info info_64b).1 w
theorem size_64b : (Tryd.prog.info? 43).map (·.size) = some 64 := (zero_of_info info_64b).2
theorem info_32b : (Tryd.prog.info? 59).map (fun i => (i.zero, i.size)) = some (some (.agg (rC .u8 32 fun _ => 0)), 32) := by kernel_rfl
theorem zero_32b (w : World) : (zeroValue 59).run Tryd.prog w = .ok (.agg (rC .u8 32 fun _ => 0)) w := (zero_of_info info_32b).1 w
theorem size_32b : (Tryd.prog.info? 59).map (·.size) = some 32 := (zero_of_info info_32b).2
theorem built_8w (v : Nat → Nat) : Tryd.prog.built 53 [(0, .int .u32 (v 0 : Nat)), (1, .int .u32 (v 1 : Nat)), (2, .int .u32 (v 2 : Nat)), (3, .int .u32 (v 3 : Nat)), (4, .int .u32 (v 4 : Nat)), (5, .int .u32 (v 5 : Nat)), (6, .int .u32 (v 6 : Nat)), (7, .int .u32 (v 7 : Nat))] = some (rC .u32 8 v) := by kernel_rfl
theorem built_8v (v : Nat → Nat) : Tryd.prog.built 61 [(0, .int .i64 (v 0 : Nat)), (1, .int .i64 (v 1 : Nat)), (2, .int .i64 (v 2 : Nat)), (3, .int .i64 (v 3 : Nat)), (4, .int .i64 (v 4 : Nat)), (5, .int .i64 (v 5 : Nat)), (6, .int .i64 (v 6 : Nat)), (7, .int .i64 (v 7 : Nat))] = some (rC .i64 8 v) := by kernel_rfl
/-- A literal. -/
theorem exec_build {P : Program} {o : Oper} {ρ : Operand → Value} (t : TypeId) (l : List (Nat × Operand)) (ho : o.op = .build t l.toArray) (vs : List (Nat × Value)) (hv : l.map (fun q => (q.1, ρ q.2)) = vs) (c : Array Value) (hb : P.built t vs = some c) (w : World) :
  (execOp ρ o).run P w = .ok (.value (.agg c)) w := by
 unfold execOp
 simp only [ho, List.map_toArray, Sem.run_bind]
 rw [show (l.map fun x => match x with | (i, y) => (i, ρ y)) = vs from hv, run_build w t vs.toArray c (by simpa using hb)]
 rfl
/-- Up to a place, and nothing behind it. -/
def upto (F : Nat → Nat) (i j : Nat) : Nat := if j < i then F j else 0
theorem upto_put (F : Nat → Nat) (i N : Nat) (hN : F i = N) (n : Nat) : ∀ j, j < n → upto F (i + 1) j = if j = i then N else upto F i j := by
 intro j _
 unfold upto
 by_cases e : j = i
 ·subst e; rw [if_pos rfl, if_pos (by omega), hN]
 ·rw [if_neg e]
  by_cases h : j < i
  ·rw [if_pos h, if_pos (by omega)]
  ·rw [if_neg h, if_neg (by omega)]
theorem upto_lt (F : Nat → Nat) (i j : Nat) (h : j < i) : upto F i j = F j := if_pos h
theorem upto_zero (F : Nat → Nat) : upto F 0 = fun _ => 0 := by funext j; unfold upto; rw [if_neg (by omega)]
end Go.Proofs.YtdanmnhknmepiaaDoor
