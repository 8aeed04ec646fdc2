/- Single operations on texts, at a seat without sha: parts of a text, texts held against each other, bytes as a text. -/
import Derived.Test.YtchiiphmpkmloaaGWalk
import Derived.Laws.MakeOwn
namespace Go.Proofs.Ytchiiphmpkmloaa
open Go.RowKit
set_option linter.unusedVariables false
theorem ybytes_part (l : List UInt8) (a b : Nat) (h : b ≤ l.length) : (⟨l.toArray⟩ : ByteArray).extract a b = ⟨((l.take b).drop a).toArray⟩ := by
 apply ByteArray.ext
 rw [ByteArray.data_extract]
 simp [List.drop_take]
theorem ybytes_inj {a b : List UInt8} : (⟨a.toArray⟩ : ByteArray) = ⟨b.toArray⟩ ↔ a = b := by
 constructor
 ·intro h
  have := congrArg ByteArray.data h
  simpa using this
 ·rintro rfl; rfl
section
variable {P : Program} {o : Oper} {ρ : Operand → Value}
theorem ysize (L : List UInt8) : (⟨L.toArray⟩ : ByteArray).size = L.length := by simp [ByteArray.size]
/-- The rest of a text. -/
theorem y_from (t : TypeId) (x lo : Operand) (hu : P.underlying t = some .string) (ho : o.op = .slice t x (some lo) none none) (L : List UInt8) (l : Nat) (hx : ρ x = .string ⟨L.toArray⟩) (hl : ρ lo = .int .i64 l) (hn : l ≤ L.length) (w : World) :
  (execOp ρ o).run P w = .ok (.value (.string ⟨(L.drop l).toArray⟩)) w := by
 have h1 : (Instr.sliceAt t (.string ⟨L.toArray⟩) (some (.int .i64 l)) none none).run P w = .ok (.string ⟨(L.drop l).toArray⟩) w := by
  rw [run_sliceAt_string w t _ _ _ _ hu, run_slice_string_l w t ⟨L.toArray⟩ hu .i64 l (by omega) (by rw [ysize]; omega), Int.toNat_natCast, ysize, ybytes_part L l L.length (Nat.le_refl _), List.take_length]
 unfold execOp
 simp only [ho, hx, hl, Option.map_some, Option.map_none, Sem.run_bind, h1, Result.andThen_ok]
 rfl
/-- The first bytes of a text. -/
theorem y_upto (t : TypeId) (x hi : Operand) (hu : P.underlying t = some .string) (ho : o.op = .slice t x none (some hi) none) (L : List UInt8) (h : Nat) (hx : ρ x = .string ⟨L.toArray⟩) (hh : ρ hi = .int .i64 h) (hn : h ≤ L.length) (w : World) :
  (execOp ρ o).run P w = .ok (.value (.string ⟨(L.take h).toArray⟩)) w := by
 have h1 : (Instr.sliceAt t (.string ⟨L.toArray⟩) none (some (.int .i64 h)) none).run P w = .ok (.string ⟨(L.take h).toArray⟩) w := by
  rw [run_sliceAt_string w t _ _ _ _ hu, run_slice_string_h w t ⟨L.toArray⟩ hu .i64 h (by omega) (by rw [ysize]; omega), Int.toNat_natCast, ybytes_part L 0 h hn, List.drop_zero]
 unfold execOp
 simp only [ho, hx, hh, Option.map_some, Option.map_none, Sem.run_bind, h1, Result.andThen_ok]
 rfl
/-- Bytes in the middle of a text. -/
theorem y_mid (t : TypeId) (x lo hi : Operand) (hu : P.underlying t = some .string) (ho : o.op = .slice t x (some lo) (some hi) none) (L : List UInt8) (l h : Nat) (hx : ρ x = .string ⟨L.toArray⟩) (hl : ρ lo = .int .i64 l) (hh : ρ hi = .int .i64 h) (hlh : l ≤ h) (hn : h ≤ L.length)
  (R : List UInt8) (hR : (L.take h).drop l = R) (w : World) :
  (execOp ρ o).run P w = .ok (.value (.string ⟨R.toArray⟩)) w := by
 subst hR
 have h1 : (Instr.sliceAt t (.string ⟨L.toArray⟩) (some (.int .i64 l)) (some (.int .i64 h)) none).run P w = .ok (.string ⟨((L.take h).drop l).toArray⟩) w := by
  rw [run_sliceAt_string w t _ _ _ _ hu, run_slice_string w t ⟨L.toArray⟩ .i64 .i64 l h hu (by omega) (by omega) (by rw [ysize]; omega), Int.toNat_natCast, Int.toNat_natCast, ybytes_part L l h hn]
 unfold execOp
 simp only [ho, hx, hl, hh, Option.map_some, Option.map_none, Sem.run_bind, h1, Result.andThen_ok]
 rfl
theorem y_beq (a c : List UInt8) : (a == c) = decide (a = c) := by
 by_cases h : a = c
 ·simp [h]
 ·simp [h]
theorem y_eqS (t : TypeId) (x y : Operand) (u : TypeId) (ho : o.op = .binOp .eql t x y u) (a c : List UInt8) (hx : ρ x = .string ⟨a.toArray⟩) (hy : ρ y = .string ⟨c.toArray⟩) (b : Bool) (hb : decide (a = c) = b) (w : World) :
  (execOp ρ o).run P w = .ok (.value (.bool b)) w := by
 subst hb
 unfold execOp
 simp only [ho, hx, hy]
 simp [eqGuard, go_sem]
 exact y_beq a c
theorem y_neS (t : TypeId) (x y : Operand) (u : TypeId) (ho : o.op = .binOp .neq t x y u) (a c : List UInt8) (hx : ρ x = .string ⟨a.toArray⟩) (hy : ρ y = .string ⟨c.toArray⟩) (b : Bool) (hb : decide (a = c) = !b) (w : World) :
  (execOp ρ o).run P w = .ok (.value (.bool b)) w := by
 have e : (a == c) = !b := (y_beq a c).trans hb
 unfold execOp
 simp only [ho, hx, hy]
 simp [eqGuard, go_sem, e]
theorem y_lit {d : ByteArray} (L : List UInt8) (h : d.data.toList = L) : d = ⟨L.toArray⟩ := by
 subst h
 rfl
/-- Bytes as a text. -/
theorem y_str (x : Operand) (ho : o.op = .convert 53 9 x) (g off cap n : Nat) (l : List UInt8) (hx : ρ x = .slice (some ⟨g, off, none⟩) n cap) (hn : l.length = n) {cs : Array Value} {t : TypeId} (w : World) (hr : RowR w g cs t)
  (hc : ∀ j, j < l.length → cs[off + j]? = some (.int .u8 (yb l j : Nat))) : (execOp ρ o).run Try.prog w = .ok (.value (.string ⟨l.toArray⟩)) w := by
 subst hn
 have h := run_convert_bytes_back (P := Try.prog) w 53 9 5 ⟨g, off, none⟩ cap l Try.underlying53 Try.underlying5 Try.underlying9 (fun j hj => by
  rw [Addr.add_mid, hr.cell, hc j hj]
  unfold yb
  rw [List.getD_eq_getElem?_getD, List.getElem?_eq_getElem hj]
  rfl)
 unfold execOp
 simp only [ho, hx, Sem.run_bind, h, Result.andThen_ok]
 rfl
theorem y_min (x y : Operand) (ts : Array TypeId) (ho : o.op = .call { callee := .builtin .min, args := #[x, y], argTypes := ts }) (n m r : Nat) (hx : ρ x = .int .i64 n) (hy : ρ y = .int .i64 m) (hr : min n m = r) (w : World) :
  (execOp ρ o).run P w = .ok (.value (.int .i64 r)) w := by
 subst hr
 unfold execOp
 simp only [ho]
 simp [resolve, invoke, builtin, hx, hy, Builtin.min_, Builtin.min2]
 split <;> omega
theorem y_neB (t : TypeId) (x y : Operand) (u : TypeId) (ho : o.op = .binOp .neq t x y u) (n m : Bool) (hx : ρ x = .bool n) (hy : ρ y = .bool m) (hu : P.underlying t = some .bool) (b : Bool) (hb : (n != m) = b) (w : World) :
  (execOp ρ o).run P w = .ok (.value (.bool b)) w := by
 subst hb
 unfold execOp
 simp only [ho, hx, hy]
 cases n <;> cases m <;> simp [eqGuard, go_sem, hu]
end
end Go.Proofs.Ytchiiphmpkmloaa
