/- sha's New, closing, a Hash's Sum, and Sum. -/
import Derived.Test.YtchiiphmpkmloaaSAdd
import Derived.Laws.MakeOwn
namespace Go.Proofs.Ytchiiphmpkmloaa
open Go.RowKit
set_option linter.unusedVariables false
theorem sinfo_b8 : ∃ i, Try.prog.info? 5 = some i ∧ i.zero = some (.int .u8 0) ∧ i.size = 1 ∧ i.bytes = 1 := by
 have h : (Try.prog.info? 5).map (fun i => (i.zero, i.size, i.bytes)) = some (some (.int .u8 0), 1, 1) := by kernel_rfl
 cases hq : Try.prog.info? 5 with
 | none => simp [hq] at h
 | some i =>
  simp [hq] at h
  exact ⟨i, rfl, h.1, h.2.1, h.2.2⟩
theorem made_b8 (n : Nat) : madeCells #[.int .u8 0] n = rC .u8 n fun _ => 0 := by
 apply Array.ext_getElem?
 intro i
 by_cases hi : i < n
 ·rw [rC_get _ _ _ _ hi]
  unfold madeCells
  simp [hi, Nat.mod_one]
 ·rw [Array.getElem?_eq_none (by rw [size_madeCells]; omega), Array.getElem?_eq_none (by rw [rC_size]; omega)]
section
variable {P : Program} {olds : Olds} {p : Nat → Nat} {W : World} {F : Act → Ct → Prop} {n : Nat} {l : List Oper} {pl : List Sp} {a : Act} {ct : Ct} {o : Oper} {ρ : Operand → Value}
/-- Bytes that are made. -/
theorem mx_makeB (x y : Operand) (ho : o.op = .makeSlice 53 x y) (k : IntKind) (m : Nat) (hx : a.eval x = .int k m) (hy : a.eval y = .int k m) (hm : m ≤ 16777216)
  (h : MX Try.prog olds p W F (n + 1) l pl (a.put o.dst (.slice (some ⟨p n, 0, none⟩) m m)) (ctSet ct (2 * n + 1) (5, rC .u8 m fun _ => 0))) :
  MX Try.prog olds p W F n (o :: l) ((fun q => .slice (some ⟨q n, 0, none⟩) m m, [], some (5, rC .u8 m fun _ => 0), []) :: pl) a ct :=
 mx_made (fun g => .slice (some ⟨g, 0, none⟩) m m) 5 _ (fun w => by
  obtain ⟨i, h1, h2, h3, h4⟩ := sinfo_b8
  have hr := run_makeSlice (P := Try.prog) w 53 5 i (.int .u8 0) Try.underlying53 h1 h2 k k (m : Int) (m : Int) (by omega) (by omega) (by rw [Int.toNat_natCast, h3]; omega) (by rw [h4]; omega) (by omega)
  rw [Int.toNat_natCast, h3, Nat.mul_one, show (Value.int IntKind.u8 0).cells = #[.int .u8 0] from rfl, made_b8] at hr
  unfold execOp
  simp only [ho, hx, hy, Sem.run_bind, hr, Result.andThen_ok]
  rfl) h
/-- The place of an element. -/
theorem x_idxS (t : TypeId) (x y : Operand) (ho : o.op = .indexAddr t x y) (g off len cap : Nat) (hx : ρ x = .slice (some ⟨g, off, none⟩) len cap) (i : Nat) (hy : ρ y = .int .i64 i) (hi : i < len) (e : TypeId) (hu : P.underlying t = some (.slice e))
  (hz : ∀ w, (sizeOf e).run P w = .ok 1 w) (r : Nat) (hr : off + i = r) (w : World) : (execOp ρ o).run P w = .ok (.value (.pointer (some ⟨g, r, none⟩))) w := by
 subst hr
 have := exec_index_s (P := P) (o := o) t x y ho g off len cap hx i hy hi e hu 1 hz w
 rw [Nat.mul_one] at this
 exact this
theorem x_idxA (t : TypeId) (x y : Operand) (ho : o.op = .indexAddr t x y) (g off : Nat) (hx : ρ x = .pointer (some ⟨g, off, none⟩)) (i len : Nat) (hy : ρ y = .int .i64 i) (hi : i < len) (e : TypeId) (hu : P.underlying t = some (.array len e))
  (hz : ∀ w, (sizeOf e).run P w = .ok 1 w) (r : Nat) (hr : off + i = r) (w : World) : (execOp ρ o).run P w = .ok (.value (.pointer (some ⟨g, r, none⟩))) w := by
 subst hr
 have := exec_index_g (P := P) (o := o) t x y ho g off hx i len hy hi e hu 1 hz w
 rw [Nat.mul_one] at this
 exact this
/-- Bytes as a text. -/
theorem x_str (x : Operand) (ho : o.op = .convert 53 9 x) (g off cap n : Nat) (l : List UInt8) (hx : ρ x = .slice (some ⟨g, off, none⟩) n cap) (hn : l.length = n) {cs : Array Value} {t : TypeId} (w : World) (hr : RowR w g cs t)
  (hc : ∀ j, j < l.length → cs[off + j]? = some (.int .u8 (bf l j : Nat))) : (execOp ρ o).run Try.prog w = .ok (.value (.string ⟨l.toArray⟩)) w := by
 subst hn
 have h := run_convert_bytes_back (P := Try.prog) w 53 9 5 ⟨g, off, none⟩ cap l Try.underlying53 Try.underlying5 Try.underlying9 (fun j hj => by
  rw [Addr.add_mid, hr.cell, hc j hj]
  unfold bf
  rw [List.getD_eq_getElem?_getD, List.getElem?_eq_getElem hj]
  rfl)
 unfold execOp
 simp only [ho, hx, Sem.run_bind, h, Result.andThen_ok]
 rfl
end
theorem hs_nil : HS [] fun _ => 0 := ⟨fun i hi => by simp at hi, fun _ => by decide⟩
/-- The bytes behind a text, one by one. -/
theorem tl_0 (n : Nat) : bf (tl n) 0 = 128 := rfl
theorem tl_z (n j : Nat) (h : j < zs n) : bf (tl n) (1 + j) = 0 := by
 unfold bf tl
 rw [List.getD_eq_getElem?_getD, Nat.add_comm 1 j, List.getElem?_cons_succ, List.getElem?_append_left (by simpa using h), List.getElem?_replicate, if_pos h]
 rfl
theorem tl_e (n k : Nat) (h : k < 8) : bf (tl n) (1 + zs n + k) = 8 * n / 2 ^ (8 * (7 - k)) % 256 := by
 unfold bf tl be8
 rw [List.getD_eq_getElem?_getD, show 1 + zs n + k = (zs n + k) + 1 by omega, List.getElem?_cons_succ, List.getElem?_append_right (by simp), List.length_replicate, Nat.add_sub_cancel_left, List.getElem?_map, List.getElem?_range h]
 show (UInt8.ofNat _).toNat = _
 rw [UInt8.toNat_ofNat_of_lt' (Nat.mod_lt _ (by decide))]
theorem tl_first (n m : Nat) (hm : m = 9 + zs n) : (rC .u8 m fun _ => 0).setIfInBounds 0 (.int .u8 ((128 : Nat) : Int)) = rC .u8 m (upto (bf (tl n)) (1 + zs n)) := by
 refine rC_put _ _ _ _ _ _ fun j hj => ?_
 unfold upto
 by_cases h0 : j = 0
 ·subst h0; rw [if_pos rfl, if_pos (by omega), tl_0]
 ·rw [if_neg h0]
  by_cases h : j < 1 + zs n
  ·rw [if_pos h, show j = 1 + (j - 1) by omega, tl_z n _ (by omega)]
  ·rw [if_neg h]
end Go.Proofs.Ytchiiphmpkmloaa
