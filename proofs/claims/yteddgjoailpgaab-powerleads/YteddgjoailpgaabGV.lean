/- group's decimal: the natural of decimal digits. -/
import Derived.Test.YteddgjoailpgaabGWalk
import Derived.Test.YteddgjoailpgaabGD
import Derived.Test.YteddgjoailpgaabPX
import Derived.Test.YteddgjoailpgaabMProd
import Derived.Test.YteddgjoailpgaabGTypes
namespace Go.Proofs.Yteddgjoailpgaab
open Go.RowKit
/-- The natural of digits, by tens. -/
def dcN (l : List UInt8) : Nat → Nat
 | 0 => 0
 | k + 1 => dcN l k * 2 ^ 3 + dcN l k * 2 ^ 1 + (yb l k - 48)
theorem wrap_byte (n : Nat) (h : n < 256) : IntKind.i64.wrap (n : Int) = (n : Int) := by rw [IntKind.wrap_i64]; omega
end Go.Proofs.Yteddgjoailpgaab
/- group's written: parameters by their digits; the three groups that are given. -/
namespace Go.Proofs.Yteddgjoailpgaab
open Go.RowKit
/-- Texts one behind the other. -/
def sxC (n : Nat) (f : Nat → List UInt8) : Array Value := Array.ofFn (n := n) fun i => .string ⟨(f i).toArray⟩
theorem sxC_get (n : Nat) (f : Nat → List UInt8) (i off : Nat) (h : i < n) (ho : off = i) : (sxC n f)[off]? = some (.string ⟨(f i).toArray⟩) := by subst ho; simp [sxC, h]
theorem info_lkx : (Try.prog.info? 44).map (fun i => (i.zero, i.size, i.bytes)) = some (some (.agg #[.int .u64 0, .int .u64 0, .int .u64 0, .int .u64 0, .int .i64 0]), 5, 40) := by kernel_rfl
theorem info_lkb : ∃ i, Try.prog.info? 44 = some i ∧ i.zero = some (.agg #[.int .u64 0, .int .u64 0, .int .u64 0, .int .u64 0, .int .i64 0]) ∧ i.size = 5 ∧ i.bytes = 40 := by
 cases hi : Try.prog.info? 44 with
 | none => have := info_lkx; rw [hi] at this; cases this
 | some i =>
  have h := info_lkx
  rw [hi] at h
  simp only [Option.map_some, Option.some.injEq, Prod.mk.injEq] at h
  exact ⟨i, rfl, h.1, h.2.1, h.2.2⟩
theorem info_strx : (Try.prog.info? 9).map (fun i => (i.zero, i.size)) = some (some (.string ⟨#[]⟩), 1) := by kernel_rfl
theorem info_str' : ∃ i, Try.prog.info? 9 = some i ∧ i.zero = some (.string ⟨#[]⟩) ∧ i.size = 1 := by
 cases hi : Try.prog.info? 9 with
 | none => have := info_strx; rw [hi] at this; cases this
 | some i =>
  have h := info_strx
  rw [hi] at h
  simp only [Option.map_some, Option.some.injEq, Prod.mk.injEq] at h
  exact ⟨i, rfl, h.1, h.2⟩
theorem size1tint : (Try.prog.info? 3).map (·.size) = some 1 := by kernel_rfl
/-- Up to a place, and nothing behind it. -/
def upN (V : Nat → Nat) (k i : Nat) : Nat := if i < k then V i else 0
def upZ (V : Nat → Int) (k i : Nat) : Int := if i < k then V i else 0
theorem upN_next (V : Nat → Nat) (k i : Nat) : upN V (k + 1) i = if i = k then V k else upN V k i := by
 unfold upN
 by_cases h : i = k
 ·subst h; rw [if_pos (by omega), if_pos rfl]
 ·rw [if_neg h]
  by_cases h2 : i < k
  ·rw [if_pos h2, if_pos (by omega)]
  ·rw [if_neg h2, if_neg (by omega)]
theorem upZ_next (V : Nat → Int) (k i : Nat) : upZ V (k + 1) i = if i = k then V k else upZ V k i := by
 unfold upZ
 by_cases h : i = k
 ·subst h; rw [if_pos (by omega), if_pos rfl]
 ·rw [if_neg h]
  by_cases h2 : i < k
  ·rw [if_pos h2, if_pos (by omega)]
  ·rw [if_neg h2, if_neg (by omega)]
/-- Digits alone, and not too many. -/
def DigS (l : List UInt8) : Prop := l.length < 9223372036854775808 ∧ ∀ i, i < l.length → 48 ≤ yb l i
def dig? (l : List UInt8) : Bool := l.all fun b => decide (48 ≤ b.toNat)
theorem digS_of (l : List UInt8) (hl : l.length < 9223372036854775808) (h : dig? l = true) : DigS l := by
 refine ⟨hl, fun i hi => ?_⟩
 unfold dig? at h
 rw [List.all_eq_true] at h
 have := h l[i] (List.getElem_mem hi)
 unfold yb
 simpa [hi] using this
end Go.Proofs.Yteddgjoailpgaab
/- group's Least. -/
namespace Go.Proofs.Yteddgjoailpgaab
open Go.RowKit
theorem dcN_ten (l : List UInt8) (k : Nat) : dcN l (k + 1) = dcN l k * 10 + (yb l k - 48) := by
 show dcN l k * 2 ^ 3 + dcN l k * 2 ^ 1 + (yb l k - 48) = _
 omega
/-- The natural of digits, by a list. -/
def dcF : List UInt8 → Nat → Nat
 | [], n => n
 | b :: l, n => dcF l (n * 10 + (b.toNat - 48))
theorem dcF_at (l : List UInt8) : ∀ k, k ≤ l.length → dcF l 0 = dcF (l.drop k) (dcN l k)
 | 0, _ => rfl
 | k + 1, h => by
  rw [dcF_at l k (by omega), dcN_ten]
  have e : l.drop k = l[k] :: l.drop (k + 1) := (List.drop_eq_getElem_cons (by omega))
  rw [e]
  show dcF _ (dcN l k * 10 + (l[k].toNat - 48)) = _
  unfold yb
  rw [List.getD_eq_getElem?_getD, List.getElem?_eq_getElem (by omega)]
  rfl
theorem dcN_is (l : List UInt8) : dcN l l.length = dcF l 0 := by
 rw [dcF_at l l.length (Nat.le_refl _), List.drop_length]
 rfl
theorem lit_str {n : Nat} (vs : List (Nat × Value)) (c : Array Value) (k : Nat) (hk : k = 1) (h : Instr.fill (fun i => some (i * 1, 1)) ((Array.range (n * 1)).map ((Value.string ⟨#[]⟩).cells[· % (Value.string ⟨#[]⟩).cells.size]!)) vs = some c) :
  Instr.fill (fun i => some (i * k, k)) ((Array.range (n * k)).map ((Value.string ⟨#[]⟩).cells[· % (Value.string ⟨#[]⟩).cells.size]!)) vs = some c := by
 subst hk; exact h
def leS : List UInt8 := [51, 49, 54, 53, 52, 51, 55, 55, 49, 52, 51, 57, 55, 56, 48, 57, 56, 52]
def leT : List (List UInt8) := [[54, 53, 53, 50, 49], [49, 57, 54, 54, 48, 50, 51, 49, 50, 55], [49, 48, 53, 53, 53, 48, 48, 54, 56, 48, 51, 50, 50, 49, 56, 51, 49, 50, 55]]
def leF (i : Nat) : List UInt8 := leT.getD i []
set_option maxRecDepth 100000 in
set_option maxHeartbeats 2000000 in
theorem le_lit : Instr.fill (fun i => some (i * 1, 1)) ((Array.range (3 * 1)).map ((Value.string ⟨#[]⟩).cells[· % (Value.string ⟨#[]⟩).cells.size]!)) [(0, .string ⟨(leF 0).toArray⟩), (1, .string ⟨(leF 1).toArray⟩), (2, .string ⟨(leF 2).toArray⟩)] = some (sxC 3 leF) := by kernel_rfl
theorem le_dig : DigS leS := digS_of _ (by decide) (by decide)
theorem le_digs (i : Nat) (h : i < 3) : DigS (leF i) := by
 match i, h with
 | 0, _ => exact digS_of _ (by decide) (by decide)
 | 1, _ => exact digS_of _ (by decide) (by decide)
 | 2, _ => exact digS_of _ (by decide) (by decide)
theorem le_g : dcN leS leS.length = leG := by rw [dcN_is]; decide
theorem le_n (i : Nat) (h : i < 3) : dcN (leF i) (leF i).length = lN leL i := by
 match i, h with
 | 0, _ => rw [dcN_is]; decide
 | 1, _ => rw [dcN_is]; decide
 | 2, _ => rw [dcN_is]; decide
theorem le_lt (i : Nat) (h : i < 3) : lN leL i < 2 ^ 256 := by
 match i, h with
 | 0, _ => decide
 | 1, _ => decide
 | 2, _ => decide
end Go.Proofs.Yteddgjoailpgaab
/- group's Other, Great. -/
namespace Go.Proofs.Yteddgjoailpgaab
open Go.RowKit
def otS : List UInt8 := [53, 52, 54, 50, 52, 51, 51, 51, 49, 51, 57, 53, 50, 52, 49, 50, 56]
def otT : List (List UInt8) := [[54, 52, 56, 49, 55], [49, 56, 49, 53, 49, 51, 53, 50, 54, 57], [52, 56, 55, 50, 54, 57, 48, 57, 49, 52, 52, 55, 48, 56, 49, 52, 50, 57]]
def otF (i : Nat) : List UInt8 := otT.getD i []
set_option maxRecDepth 100000 in
set_option maxHeartbeats 2000000 in
theorem ot_lit : Instr.fill (fun i => some (i * 1, 1)) ((Array.range (3 * 1)).map ((Value.string ⟨#[]⟩).cells[· % (Value.string ⟨#[]⟩).cells.size]!)) [(0, .string ⟨(otF 0).toArray⟩), (1, .string ⟨(otF 1).toArray⟩), (2, .string ⟨(otF 2).toArray⟩)] = some (sxC 3 otF) := by kernel_rfl
theorem ot_dig : DigS otS := digS_of _ (by decide) (by decide)
theorem ot_digs (i : Nat) (h : i < 3) : DigS (otF i) := by
 match i, h with
 | 0, _ => exact digS_of _ (by decide) (by decide)
 | 1, _ => exact digS_of _ (by decide) (by decide)
 | 2, _ => exact digS_of _ (by decide) (by decide)
theorem ot_g : dcN otS otS.length = otG := by rw [dcN_is]; decide
theorem ot_n (i : Nat) (h : i < 3) : dcN (otF i) (otF i).length = lN otL i := by
 match i, h with
 | 0, _ => rw [dcN_is]; decide
 | 1, _ => rw [dcN_is]; decide
 | 2, _ => rw [dcN_is]; decide
theorem ot_lt (i : Nat) (h : i < 3) : lN otL i < 2 ^ 256 := by
 match i, h with
 | 0, _ => decide
 | 1, _ => decide
 | 2, _ => decide
def grS : List UInt8 := [57, 49, 53, 49, 49, 53, 55, 51, 52, 49, 54, 54, 55, 52, 54, 57, 54, 49, 53, 56, 48, 48, 57, 57, 55, 49, 51, 48, 50, 51, 49, 52, 53, 52, 56, 54, 53, 52, 50, 53, 48, 49, 56, 49, 56, 49, 57, 49, 55, 57, 48, 52, 57, 50, 49, 52, 55, 57, 57, 55, 50, 55, 50, 57]
def grT : List (List UInt8) := [[54, 53, 53, 49, 57], [49, 51, 49, 51, 57, 49, 56, 48, 50, 55], [56, 56, 49, 55, 53, 53, 54, 55, 50, 48, 51, 55, 55, 57, 55, 54, 49], [54, 51, 53, 51, 55, 49, 57, 50, 50, 53, 54, 51, 51, 57, 57, 55, 53, 53, 49, 49, 57, 50, 57, 55, 54, 54, 54, 49, 56, 49, 53, 49, 55, 49], [49, 50, 56, 56, 54, 56, 55, 51, 53, 56, 52, 48, 57, 48, 53, 50, 52, 54, 53, 57, 55, 48, 48, 53, 54, 50, 50, 50, 56, 54, 55, 53, 51, 51, 56, 51, 53, 49, 48, 52, 56, 54, 51, 53, 57, 51, 48, 55, 54, 48, 57, 56, 52, 53, 56, 52, 51, 56, 53, 54, 49, 52, 51, 49, 56, 51]]
def grF (i : Nat) : List UInt8 := grT.getD i []
set_option maxRecDepth 100000 in
set_option maxHeartbeats 2000000 in
theorem gr_lit : Instr.fill (fun i => some (i * 1, 1)) ((Array.range (5 * 1)).map ((Value.string ⟨#[]⟩).cells[· % (Value.string ⟨#[]⟩).cells.size]!)) [(0, .string ⟨(grF 0).toArray⟩), (1, .string ⟨(grF 1).toArray⟩), (2, .string ⟨(grF 2).toArray⟩), (3, .string ⟨(grF 3).toArray⟩), (4, .string ⟨(grF 4).toArray⟩)] = some (sxC 5 grF) := by kernel_rfl
theorem gr_dig : DigS grS := digS_of _ (by decide) (by decide)
theorem gr_digs (i : Nat) (h : i < 5) : DigS (grF i) := by
 match i, h with
 | 0, _ => exact digS_of _ (by decide) (by decide)
 | 1, _ => exact digS_of _ (by decide) (by decide)
 | 2, _ => exact digS_of _ (by decide) (by decide)
 | 3, _ => exact digS_of _ (by decide) (by decide)
 | 4, _ => exact digS_of _ (by decide) (by decide)
theorem gr_g : dcN grS grS.length = grG := by rw [dcN_is]; decide
theorem gr_n (i : Nat) (h : i < 5) : dcN (grF i) (grF i).length = lN grL i := by
 match i, h with
 | 0, _ => rw [dcN_is]; decide
 | 1, _ => rw [dcN_is]; decide
 | 2, _ => rw [dcN_is]; decide
 | 3, _ => rw [dcN_is]; decide
 | 4, _ => rw [dcN_is]; decide
theorem gr_lt (i : Nat) (h : i < 5) : lN grL i < 2 ^ 256 := by
 match i, h with
 | 0, _ => decide
 | 1, _ => decide
 | 2, _ => decide
 | 3, _ => decide
 | 4, _ => decide
end Go.Proofs.Yteddgjoailpgaab
