/- What must come, whatever the arguments are: the check of the laws of layer 4. -/
import Derived.Test.YtcgeimbfijpocaaPCheck
import Derived.Test.YtcgeimbfijpocaaGJ
namespace Go.Proofs.Ytcgeimbfijpocaa
open Go.RowKit
theorem info_lkz : (Try.prog.info? 69).map (fun i => (i.zero, i.size)) = some (some (.agg #[.int .u64 0, .int .u64 0, .int .u64 0, .int .u64 0, .int .i64 0]), 5) := by kernel_rfl
theorem info_lk' : ∃ i, Try.prog.info? 69 = some i ∧ i.zero = some (.agg #[.int .u64 0, .int .u64 0, .int .u64 0, .int .u64 0, .int .i64 0]) ∧ i.size = 5 := by
 cases hi : Try.prog.info? 69 with
 | none => have := info_lkz; rw [hi] at this; cases this
 | some i =>
  have h := info_lkz
  rw [hi] at h
  simp only [Option.map_some, Option.some.injEq, Prod.mk.injEq] at h
  exact ⟨i, rfl, h.1, h.2⟩
theorem built_lk (N : Nat) : Try.prog.built 69 [(0, .agg (natC N))] = some (lkC N 0) := by
 unfold natC lkC
 generalize lm N 0 = a0
 generalize lm N 1 = a1
 generalize lm N 2 = a2
 generalize lm N 3 = a3
 kernel_rfl
theorem built_lk2 (N : Nat) (z : Int) : Try.prog.built 69 [(0, .agg (natC N)), (1, .int .i64 z)] = some (lkC N z) := by
 unfold natC lkC
 generalize lm N 0 = a0
 generalize lm N 1 = a1
 generalize lm N 2 = a2
 generalize lm N 3 = a3
 kernel_rfl
theorem exec_link {o : Oper} {ρ : Operand → Value} {x0 : Operand} (N : Nat) (ho : o.op = .build 69 #[(0, x0)]) (h0 : ρ x0 = .agg (natC N)) (w : World) :
  (execOp ρ o).run Try.prog w = .ok (.value (.agg (lkC N 0))) w := by
 unfold execOp
 simp only [ho, List.map_toArray, List.map_cons, List.map_nil, h0, Sem.run_bind]
 rw [run_build w 69 _ (lkC N 0) (built_lk N)]
 rfl
theorem exec_link2 {o : Oper} {ρ : Operand → Value} {x0 x1 : Operand} (N : Nat) (z : Int) (ho : o.op = .build 69 #[(0, x0), (1, x1)]) (h0 : ρ x0 = .agg (natC N)) (h1 : ρ x1 = .int .i64 z) (w : World) :
  (execOp ρ o).run Try.prog w = .ok (.value (.agg (lkC N z))) w := by
 unfold execOp
 simp only [ho, List.map_toArray, List.map_cons, List.map_nil, h0, h1, Sem.run_bind]
 rw [run_build w 69 _ (lkC N z) (built_lk2 N z)]
 rfl
theorem lit_lk (N : Nat) (z : Int) (k : Nat) (hk : k = 5) : Instr.fill (fun i => some (i * k, k)) ((Array.range (1 * k)).map ((Value.agg #[.int .u64 0, .int .u64 0, .int .u64 0, .int .u64 0, .int .i64 0]).cells[· % (Value.agg #[.int .u64 0, .int .u64 0, .int .u64 0, .int .u64 0, .int .i64 0]).cells.size]!)) [(0, .agg (lkC N z))] = some (lkC N z) := by
 subst hk
 unfold lkC
 generalize lm N 0 = a0
 generalize lm N 1 = a1
 generalize lm N 2 = a2
 generalize lm N 3 = a3
 kernel_rfl
theorem lit_lk2 (N M : Nat) (z y : Int) (k : Nat) (hk : k = 5) : Instr.fill (fun i => some (i * k, k)) ((Array.range (2 * k)).map ((Value.agg #[.int .u64 0, .int .u64 0, .int .u64 0, .int .u64 0, .int .i64 0]).cells[· % (Value.agg #[.int .u64 0, .int .u64 0, .int .u64 0, .int .u64 0, .int .i64 0]).cells.size]!)) [(0, .agg (lkC N z)), (1, .agg (lkC M y))] = some (lkC N z ++ lkC M y) := by
 subst hk
 unfold lkC
 generalize lm N 0 = a0
 generalize lm N 1 = a1
 generalize lm N 2 = a2
 generalize lm N 3 = a3
 generalize lm M 0 = b0
 generalize lm M 1 = b1
 generalize lm M 2 = b2
 generalize lm M 3 = b3
 kernel_rfl
theorem lkC_size (N : Nat) (z : Int) : (lkC N z).size = 5 := rfl
theorem links_one {w : World} {g N : Nat} {z : Int} (h : Row w g (lkC N z) 69) (hN : N < 2 ^ 256) : LinksAt w (some ⟨g, 0, none⟩) 1 (fun _ => N) (fun _ => z) g 0 (lkC N z) 69 :=
 ⟨.inr ⟨rfl, h.r, fun i hi j v hv => by
  obtain rfl : i = 0 := by omega
  rw [Array.getElem?_toList] at hv
  rw [show 0 + 0 * 5 + j = j by omega]
  exact hv⟩, fun _ _ => hN⟩
def two2i (A B : Int) (i : Nat) : Int := if i = 0 then A else B
theorem links_two {w : World} {g N M : Nat} {z y : Int} (h : Row w g (lkC N z ++ lkC M y) 69) (hN : N < 2 ^ 256) (hM : M < 2 ^ 256) : LinksAt w (some ⟨g, 0, none⟩) 2 (two2 N M) (two2i z y) g 0 (lkC N z ++ lkC M y) 69 :=
 ⟨.inr ⟨rfl, h.r, fun i hi j v hv => by
  rw [Array.getElem?_toList] at hv
  have hj : j < 5 := by
   have := (Array.getElem?_eq_some_iff.1 hv).1
   rw [lkC_size] at this
   exact this
  by_cases e : i = 0
  ·subst e
   rw [show 0 + 0 * 5 + j = j by omega, Array.getElem?_append_left (by rw [lkC_size]; exact hj)]
   exact hv
  ·obtain rfl : i = 1 := by omega
   rw [show 0 + 1 * 5 + j = 5 + j by omega, Array.getElem?_append_right (by rw [lkC_size]; omega), lkC_size, Nat.add_sub_cancel_left]
   exact hv⟩, fun i _ => by unfold two2; split <;> assumption⟩
theorem aw_s1 : smI 65521 = true := by decide +kernel
theorem aw_s2 : smI 65535 = false := by decide +kernel
theorem aw_may : mayN 11 5 = true := by decide
theorem aw_sh : shN 11 5 2 = true := by decide
theorem aw_st : stN 11 5 2 = true := by decide
theorem aw_wit : witN 11 5 = 2 := by
 unfold witN
 rw [if_pos aw_may]
 unfold wtF
 rw [if_pos aw_sh]
theorem aw_c1 : chN 2 (two2 5 11) (two2i 0 2) = true := by decide
theorem aw_c2 : chN 1 (fun _ => 4) (fun _ => 0) = false := by decide
end Go.Proofs.Ytcgeimbfijpocaa
