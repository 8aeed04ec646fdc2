/- Masks of ints; a byte as a text: what the laws of layer 22 share. -/
import Derived.Test.YtchiiphmpkmloaaSpBoth
namespace Go.Proofs.Ytchiiphmpkmloaa
open Go.RowKit
set_option linter.unusedVariables false
set_option linter.unusedSectionVars false
set_option linter.unusedSimpArgs false
def an (x c : Int) : Int := bits .and .i64 x c
section
variable {P : Program} {o : Oper} {ρ : Operand → Value}
theorem x_andz (t : TypeId) (x y : Operand) (u : TypeId) (ho : o.op = .binOp .and t x y u) (n m : Int) (hx : ρ x = .int .i64 n) (hy : ρ y = .int .i64 m) (w : World) :
  (execOp ρ o).run P w = .ok (.value (.int .i64 (bits .and .i64 n m))) w := by
 unfold execOp
 simp only [ho, hx, hy]
 simp [go_sem]
theorem x_an (t : TypeId) (x y : Operand) (u : TypeId) (ho : o.op = .binOp .and t x y u) (n m r : Int) (hx : ρ x = .int .i64 n) (hy : ρ y = .int .i64 m) (hr : an n m = r) (w : World) :
  (execOp ρ o).run P w = .ok (.value (.int .i64 r)) w := by
 subst hr
 exact x_andz t x y u ho n m hx hy w
end
theorem an_pow (t : Int) (k : Nat) (h : k ≤ 20) (c : Int) (hc : (BitVec.ofInt 64 c).toNat = 2 ^ k - 1) : ∃ b : Nat, b < 2 ^ k ∧ an t c = b := by
 have hk : 2 ^ k ≤ 2 ^ 20 := Nat.pow_le_pow_right (by decide) h
 replace hk : 2 ^ k ≤ 1048576 := hk
 have hp : 0 < 2 ^ k := Nat.pow_pos (by decide)
 have h1 : (BitVec.ofInt 64 t &&& BitVec.ofInt 64 c).toNat < 2 ^ k := by
  rw [BitVec.toNat_and, hc, Nat.and_two_pow_sub_one_eq_mod]
  exact Nat.mod_lt _ hp
 refine ⟨(BitVec.ofInt 64 t &&& BitVec.ofInt 64 c).toNat, h1, ?_⟩
 have h2 : (BitVec.ofInt 64 t &&& BitVec.ofInt 64 c).toNat < 1048576 := Nat.lt_of_lt_of_le h1 hk
 show IntKind.i64.wrap ((BitVec.ofInt 64 t &&& BitVec.ofInt 64 c).toNat : Int) = _
 exact wrap_sm _ (by omega) (by omega)
theorem an255 (t : Int) : ∃ b : Nat, b < 256 ∧ an t 255 = b := an_pow t 8 (by decide) 255 (by decide)
theorem an63 (t : Int) : ∃ b : Nat, b < 64 ∧ an t 63 = b := an_pow t 6 (by decide) 63 (by decide)
theorem an_one (t : Int) : ∃ b : Nat, b < 2 ∧ an t 1 = b := an_pow t 1 (by decide) 1 (by decide)
theorem info_u8y : (Try.prog.info? 5).map (fun i => (i.zero, i.size)) = some (some (.int .u8 0), 1) := by kernel_rfl
theorem info_u8k : ∃ i, Try.prog.info? 5 = some i ∧ i.zero = some (Value.int .u8 0) ∧ i.size = 1 := by
 cases hi : Try.prog.info? 5 with
 | none => have := info_u8y; rw [hi] at this; cases this
 | some i =>
  have h := info_u8y
  rw [hi] at h
  simp only [Option.map_some, Option.some.injEq, Prod.mk.injEq] at h
  exact ⟨i, rfl, h.1, h.2⟩
theorem lit_b1 (a : Int) (k : Nat) (hk : k = 1) : Instr.fill (fun i => some (i * k, k)) ((Array.range (1 * k)).map ((Value.int .u8 0).cells[· % (Value.int .u8 0).cells.size]!)) [(0, .int .u8 a)] = some #[.int .u8 a] := by
 subst hk
 kernel_rfl
theorem cell_b1 (x : Nat) (h : x < 256) : ∀ j, j < [UInt8.ofNat x].length → (#[.int .u8 (x : Int)] : Array Value)[0 + j]? = some (.int .u8 (yb [UInt8.ofNat x] j : Nat)) := by
 intro j hj
 obtain rfl : j = 0 := by simpa using hj
 have : yb [UInt8.ofNat x] 0 = x := by
  unfold yb
  simp [UInt8.toNat_ofNat']
  omega
 rw [this]
 rfl
theorem wr8k (x : Nat) (h : x < 256) : IntKind.u8.wrap (x : Int) = (x : Int) := by rw [IntKind.wrap_u8']; omega
theorem x_remz {P : Program} {o : Oper} {ρ : Operand → Value} (t : TypeId) (x y : Operand) (u : TypeId) (ho : o.op = .binOp .rem t x y u) (n m : Nat) (hx : ρ x = .int .i64 n) (hy : ρ y = .int .i64 m) (hm : 0 < m) (w : World) :
  (execOp ρ o).run P w = .ok (.value (.int .i64 ((n % m : Nat) : Int))) w := by
 have h0 : ¬ (m = 0) := by omega
 unfold execOp
 simp only [ho, hx, hy]
 simp [go_sem]
 rw [if_neg h0, Int.tmod_eq_emod_of_nonneg (by omega)]
end Go.Proofs.Ytchiiphmpkmloaa
