/- One operation on integers, by its value: for the walk of a drawn region. -/
import Derived.Test.YtmmjjohnejimdaaMixLaws
import Derived.Test.YtmmjjohnejimdaaTypes
namespace Go.Proofs.Ytmmjjohnejimdaa
open Go.RowKit
section
variable {P : Program} {o : Oper} {ρ : Operand → Value}

theorem exec_quo_i (t : TypeId) (x y : Operand) (u : TypeId) (ho : o.op = .binOp .quo t x y u) (n m : Nat) (hx : ρ x = .int .i64 n) (hy : ρ y = .int .i64 m) (hm : 0 < m) (hn : n < 9223372036854775808) (w : World) :
    (execOp ρ o).run P w = .ok (.value (.int .i64 ((n / m : Nat) : Int))) w := by
  have h0 : ¬ (m = 0) := by omega
  have h2 : n / m ≤ n := Nat.div_le_self _ _
  have h3 := wrap_i64 (n / m) (by omega)
  rw [Int.natCast_ediv] at h3 ⊢
  unfold execOp
  simp only [ho, hx, hy]
  simp [go_sem]
  rw [if_neg h0, h3]
theorem exec_rem_i (t : TypeId) (x y : Operand) (u : TypeId) (ho : o.op = .binOp .rem t x y u) (n m : Nat) (hx : ρ x = .int .i64 n) (hy : ρ y = .int .i64 m) (hm : 0 < m) (w : World) :
    (execOp ρ o).run P w = .ok (.value (.int .i64 ((n % m : Nat) : Int))) w := by
  have h0 : ¬ (m = 0) := by omega
  unfold execOp
  simp only [ho, hx, hy]
  simp [go_sem]
  rw [if_neg h0, Int.tmod_eq_emod_of_nonneg (by omega)]
theorem exec_shr_i (t : TypeId) (x y : Operand) (u : TypeId) (ho : o.op = .binOp .shr t x y u) (n s : Nat) (hx : ρ x = .int .i64 n) (hy : ρ y = .int .i64 s) (hs : s < 64) (w : World) :
    (execOp ρ o).run P w = .ok (.value (.int .i64 ((n / 2 ^ s : Nat) : Int))) w := by
  unfold execOp
  simp only [ho, hx, hy]
  simp [go_sem]
theorem exec_bits_i (b : BinOp) (t : TypeId) (x y : Operand) (u : TypeId) (hb : b = .and ∨ b = .or) (ho : o.op = .binOp b t x y u) (n m : Int) (hx : ρ x = .int .i64 n) (hy : ρ y = .int .i64 m) (w : World) :
    (execOp ρ o).run P w = .ok (.value (.int .i64 (bits b .i64 n m))) w := by
  unfold execOp
  simp only [ho, hx, hy]
  rcases hb with rfl | rfl
  · simp [go_sem]
  · simp [go_sem]
theorem exec_shl_i (t : TypeId) (x y : Operand) (u : TypeId) (ho : o.op = .binOp .shl t x y u) (n s : Nat) (hx : ρ x = .int .i64 n) (hy : ρ y = .int .i64 s) (hs : s < 64) (w : World) :
    (execOp ρ o).run P w = .ok (.value (.int .i64 (IntKind.i64.wrap ((n : Int) * 2 ^ s)))) w := by
  unfold execOp
  simp only [ho, hx, hy]
  simp [go_sem]
theorem exec_add_i (t : TypeId) (x y : Operand) (u : TypeId) (ho : o.op = .binOp .add t x y u) (n m : Int) (hx : ρ x = .int .i64 n) (hy : ρ y = .int .i64 m) (w : World) :
    (execOp ρ o).run P w = .ok (.value (.int .i64 (IntKind.i64.wrap (n + m)))) w := by
  unfold execOp
  simp only [ho, hx, hy]
  simp [go_sem]
theorem exec_mul_i (t : TypeId) (x y : Operand) (u : TypeId) (ho : o.op = .binOp .mul t x y u) (n m : Int) (hx : ρ x = .int .i64 n) (hy : ρ y = .int .i64 m) (w : World) :
    (execOp ρ o).run P w = .ok (.value (.int .i64 (IntKind.i64.wrap (n * m)))) w := by
  unfold execOp
  simp only [ho, hx, hy]
  simp [go_sem]
theorem exec_not (t : TypeId) (x : Operand) (ho : o.op = .unOp .not t x) (b : Bool) (hx : ρ x = .bool b) (w : World) : (execOp ρ o).run P w = .ok (.value (.bool (!b))) w := by
  unfold execOp
  simp only [ho, hx]
  simp [go_sem]
end
end Go.Proofs.Ytmmjjohnejimdaa
/- The document's Nat: the natural of bits. -/
namespace Go.Proofs.Ytmmjjohnejimdaa
open Go.RowKit

set_option maxRecDepth 100000 in
set_option maxHeartbeats 400000 in
theorem rnat_any (N : Nat) (w : World) :
    Calls Try.prog 45 #[.agg (bitC N)] w fun e w' => e = .returned (.agg (natC N)) ∧ Below w.heap.size w w' := by
  go_enter Try.func45, Try.ntmps45
  go_wp2_with (first
    | refine wpList_box_row rfl 58 _ rfl _ rfl ?_
    | refine wpList_alloc_row rfl 24 rfl _ zero_nat ?_
    | refine wpList_build_zero rfl 24 rfl _ built_nat ?_
    | refine wpList_store_new rfl 24 _ _ rfl _ rfl rfl _ _ (by exact size_nat) (by simp only [natC_size]) (natC_one _) ?_)
  go_loopg [4] 256 (fun g s4 wr => ∃ k : Nat, k + g = 256 ∧ s4 = .int .i64 k ∧ Row wr w.heap.size (bitC N) 58 ∧ Row wr (w.heap.size + 1) (natC 0) 24 ∧ Row wr (w.heap.size + 1 + 1) (natC (N % 2 ^ k)) 24 ∧ Below w.heap.size w wr)
  case atStart => exact ⟨0, by omega, rfl, ((Row.here rfl).alloc _).alloc _, (Row.here (by simp)).alloc _, by rw [Nat.pow_zero, Nat.mod_one]; exact Row.here (by simp), (((Below.refl _ _).alloc (Nat.le_refl _) _).alloc (by simp) _).alloc (by simp; omega) _⟩
  case round =>
    obtain ⟨k, hk, rfl, r0, r1, r2, hb⟩ := hrel
    cases gk with
    | zero =>
      obtain rfl : k = 256 := by omega
      rw [natC_full] at r2
      clear hk
      have hx : ¬ ((256 : Int) < 256) := by omega
      go_wp2_with (first
        | refine wpList_load_row rfl 24 _ rfl _ rfl 24 _ (0, 0) _ r2 Try.underlying24 rfl (by exact size_nat) ?_
        | refine wpList_store_row rfl 24 _ _ rfl _ (natC N) rfl rfl 24 (natC 0) r1 (by exact size_nat) (by rfl) (natC_one _) ?_)
      exact ret_row rfl _ rfl (r1.setRow _) 4 _ Try.underlying24 (by exact size_nat) rfl ⟨rfl, below_setRow hb (by omega) _⟩
    | succ g =>
      have hlt : (k : Int) < 256 := by omega
      have hc0 := cell_bits r0 k (by omega)
      have hc2 := cell_nat r2 (k / 64) (by omega)
      have hf2 := r2.frozen (k / 64)
      have hlm := lm_lt (N % 2 ^ k) (k / 64)
      have R : Aside (Row wr w.heap.size (bitC N) 58 ∧ Row wr (w.heap.size + 1) (natC 0) 24 ∧ Row wr (w.heap.size + 1 + 1) (natC (N % 2 ^ k)) 24 ∧ Below w.heap.size w wr) := ⟨r0, r1, r2, hb⟩
      clear r0 r1 r2 hb
      cases hbit : N.testBit k
      · rw [hbit] at hc0
        go_wp2
        obtain ⟨r0, r1, r2, hb⟩ := R.out
        go_roundg g
        case measure => omega
        case rel => exact ⟨k + 1, by omega, by go_num, r0, r1, by rw [mod_snoc_no N k hbit]; exact r2, hb⟩
      · rw [hbit] at hc0
        go_wp2
        go_region
        go_wp2
        obtain ⟨r0, r1, r2, hb⟩ := R.out
        go_roundg g
        case measure => omega
        case rel =>
          refine ⟨k + 1, by omega, by go_num, (r0.setCell_far _ _ _ (by omega)).drew, (r1.setCell_far _ _ _ (by omega)).drew, ?_, (below_setCell hb (by omega) _ _).drew⟩
          have := r2.setCell (k / 64) (.int .u64 ((lm (N % 2 ^ k) (k / 64) ||| 2 ^ (k % 64) : Nat) : Int))
          rw [natC_snoc N k hbit (by omega)] at this
          rw [or_bit _ _ hlm (by omega)]
          exact this.drew
end Go.Proofs.Ytmmjjohnejimdaa
/- The document's Of: the bits of a natural. -/


namespace Go.Proofs.Ytmmjjohnejimdaa
open Go.RowKit






set_option maxRecDepth 100000 in
set_option maxHeartbeats 400000 in
theorem rof_any (N : Nat) (w : World) :
    Calls Try.prog 44 #[.agg (natC N)] w fun e w' => e = .returned (.agg (bitC N)) ∧ Below w.heap.size w w' := by
  go_enter Try.func44, Try.ntmps44
  go_wp2_with (first
    | refine wpList_box_row rfl 24 _ rfl _ rfl ?_
    | refine wpList_alloc_row rfl 58 rfl _ zero_bits ?_
    | refine wpList_build_zero rfl 58 rfl _ built_bits ?_
    | (refine wpList_store_row rfl 58 _ _ rfl _ (bitC 0) rfl rfl 58 (bitC 0) (heap_alloc_new _ _) (by rw [bitC_size]; exact size_bits) rfl (bitC_one _) ?_))
  have s0 : Row ((((w.alloc (.cells (natC N) 24)).alloc (.cells (bitC 0) 58)).alloc (.cells (bitC 0) 58)).setRow (w.heap.size + 1 + 1) (bitC 0)) w.heap.size (natC N) 24 :=
    (((Row.new w _ _).alloc _).alloc _).setRow_far _ _ (by omega)
  have s1 : Row ((((w.alloc (.cells (natC N) 24)).alloc (.cells (bitC 0) 58)).alloc (.cells (bitC 0) 58)).setRow (w.heap.size + 1 + 1) (bitC 0)) (w.heap.size + 1) (bitC 0) 58 :=
    by have := (Row.new (w.alloc (.cells (natC N) 24)) (bitC 0) 58).alloc (.cells (bitC 0) 58); rw [alloc_size] at this; exact this.setRow_far _ _ (by omega)
  have s2 : Row ((((w.alloc (.cells (natC N) 24)).alloc (.cells (bitC 0) 58)).alloc (.cells (bitC 0) 58)).setRow (w.heap.size + 1 + 1) (bitC 0)) (w.heap.size + 1 + 1) (bitC 0) 58 :=
    by have := Row.new ((w.alloc (.cells (natC N) 24)).alloc (.cells (bitC 0) 58)) (bitC 0) 58; rw [alloc_size, alloc_size] at this; exact this.setRow _
  have s3 : Below w.heap.size w ((((w.alloc (.cells (natC N) 24)).alloc (.cells (bitC 0) 58)).alloc (.cells (bitC 0) 58)).setRow (w.heap.size + 1 + 1) (bitC 0)) :=
    below_setRow ((((Below.refl _ _).alloc (Nat.le_refl _) _).alloc (by simp) _).alloc (by simp; omega) _) (by omega) _
  go_loopg [4] 256 (fun g s4 wr => ∃ k : Nat, k + g = 256 ∧ s4 = .int .i64 k ∧ Row wr w.heap.size (natC N) 24 ∧ Row wr (w.heap.size + 1) (bitC 0) 58 ∧ Row wr (w.heap.size + 1 + 1) (bitC (N % 2 ^ k)) 58 ∧ Below w.heap.size w wr)
  case atStart => exact ⟨0, by omega, rfl, s0, s1, by simpa [Nat.mod_one] using s2, s3⟩
  case round =>
    obtain ⟨k, hk, rfl, r0, r1, r2, hb⟩ := hrel
    cases gk with
    | zero =>
      obtain rfl : k = 256 := by omega
      rw [bitC_full] at r2
      clear s0 s1 s2 s3 hk
      have hx : ¬ ((256 : Int) < 256) := by omega
      go_wp2_with (first
        | refine wpList_load_row rfl 58 _ rfl _ rfl 58 _ (0, 0) _ r2 Try.underlying58 rfl (by rw [bitC_size]; exact size_bits) ?_
        | refine wpList_store_row rfl 58 _ _ rfl _ (bitC N) rfl rfl 58 (bitC 0) r1 (by rw [bitC_size]; exact size_bits) (by rw [bitC_size, bitC_size]) (bitC_one _) ?_)
      refine ret_row rfl _ rfl (r1.setRow _) 256 _ Try.underlying58 (by rw [bitC_size]; exact size_bits) rfl ⟨rfl, below_setRow hb (by omega) _⟩
    | succ g =>
      have hlt : (k : Int) < 256 := by omega
      have hc0 : wr.cell? ⟨w.heap.size, k / 64, none⟩ = some (.int .u64 (lm N (k / 64))) := by rw [r0.cell]; exact natC_get _ _ (by omega)
      have hc2 : wr.cell? ⟨w.heap.size + 1 + 1, k, none⟩ = some (.bool ((N % 2 ^ k).testBit k)) := by rw [r2.cell]; exact bitC_get _ _ (by omega)
      have hf2 := r2.frozen k
      have hlm := lm_lt N (k / 64)
      have R : Aside (Row wr w.heap.size (natC N) 24 ∧ Row wr (w.heap.size + 1) (bitC 0) 58 ∧ Row wr (w.heap.size + 1 + 1) (bitC (N % 2 ^ k)) 58 ∧ Below w.heap.size w wr) := ⟨r0, r1, r2, hb⟩
      clear s0 s1 s2 s3 r0 r1 r2 hb
      go_wp2
      obtain ⟨r0, r1, r2, hb⟩ := R.out
      go_roundg g
      case measure => omega
      case rel =>
        refine ⟨k + 1, by omega, by go_num, r0.setCell_far _ _ _ (by omega), r1.setCell_far _ _ _ (by omega), ?_, below_setCell hb (by omega) _ _⟩
        have := r2.setCell k (.bool (bits BinOp.and IntKind.u64 (↑(lm N (k / 64)) / 2 ^ (k % 64)) 1 == 1))
        rw [bitC_snoc N k _ (by rw [bit_test _ _ hlm, lm_bit])] at this
        exact this
end Go.Proofs.Ytmmjjohnejimdaa
/- The document's Len, Bit and Low. -/
namespace Go.Proofs.Ytmmjjohnejimdaa
open Go.RowKit

theorem bitLen_eq (A g : Nat) (h1 : 2 ^ g ≤ A) (h2 : A < 2 ^ (g + 1)) : bitLen A = g + 1 := by
  have h0 : A ≠ 0 := by have := Nat.two_pow_pos g; omega
  unfold bitLen
  rw [if_neg h0, (Nat.log2_eq_iff h0).2 ⟨h1, h2⟩]
theorem bit_top (A g : Nat) (h2 : A < 2 ^ (g + 1)) : (A.testBit g = true → 2 ^ g ≤ A) ∧ (A.testBit g = false → A < 2 ^ g) := by
  constructor
  · intro h
    exact Nat.ge_two_pow_of_testBit h
  · intro h
    rcases bit_cases A g with ⟨_, _, h3⟩ | ⟨h3, _⟩
    · rw [Nat.mod_eq_of_lt h2] at h3
      rw [h3]
      exact Nat.mod_lt _ (Nat.two_pow_pos g)
    · rw [h] at h3; cases h3
/-- One bit, as an int. -/
def bitI (A : Nat) (k : Int) : Int := if 0 ≤ k ∧ k < 256 ∧ A.testBit k.toNat = true then 1 else 0

end Go.Proofs.Ytmmjjohnejimdaa
