/- group's Least. -/
import Derived.Test.YtcgeimbfijpocaaGWri
namespace Go.Proofs.Ytcgeimbfijpocaa
open Go.RowKit
theorem dcN_ten (l : List UInt8) (k : Nat) : dcN l (k + 1) = dcN l k * 10 + (yb l k - 48) := by
 show dcN l k * 2 ^ 3 + dcN l k * 2 ^ 1 + (yb l k - 48) = _
 omega
/-- The natural of digits, by a list. -/
def dcF : List UInt8 → Nat → Nat
 | [], n => n
 | b :: l, n => dcF l (n * 10 + (b.toNat - 48))
theorem dcF_at (l : List UInt8) : ∀ k, k ≤ l.length → dcF l 0 = dcF (l.drop k) (dcN l k)
 | 0, _ => rfl
 | k + 1, h => by
  rw [dcF_at l k (by omega), dcN_ten]
  have e : l.drop k = l[k] :: l.drop (k + 1) := (List.drop_eq_getElem_cons (by omega))
  rw [e]
  show dcF _ (dcN l k * 10 + (l[k].toNat - 48)) = _
  unfold yb
  rw [List.getD_eq_getElem?_getD, List.getElem?_eq_getElem (by omega)]
  rfl
theorem dcN_is (l : List UInt8) : dcN l l.length = dcF l 0 := by
 rw [dcF_at l l.length (Nat.le_refl _), List.drop_length]
 rfl
theorem lit_str {n : Nat} (vs : List (Nat × Value)) (c : Array Value) (k : Nat) (hk : k = 1) (h : Instr.fill (fun i => some (i * 1, 1)) ((Array.range (n * 1)).map ((Value.string ⟨#[]⟩).cells[· % (Value.string ⟨#[]⟩).cells.size]!)) vs = some c) :
  Instr.fill (fun i => some (i * k, k)) ((Array.range (n * k)).map ((Value.string ⟨#[]⟩).cells[· % (Value.string ⟨#[]⟩).cells.size]!)) vs = some c := by
 subst hk; exact h
def leS : List UInt8 := [51, 49, 54, 53, 52, 51, 55, 55, 49, 52, 51, 57, 55, 56, 48, 57, 56, 52]
def leT : List (List UInt8) := [[54, 53, 53, 50, 49], [49, 57, 54, 54, 48, 50, 51, 49, 50, 55], [49, 48, 53, 53, 53, 48, 48, 54, 56, 48, 51, 50, 50, 49, 56, 51, 49, 50, 55]]
def leF (i : Nat) : List UInt8 := leT.getD i []
set_option maxRecDepth 100000 in
set_option maxHeartbeats 2000000 in
theorem le_lit : Instr.fill (fun i => some (i * 1, 1)) ((Array.range (3 * 1)).map ((Value.string ⟨#[]⟩).cells[· % (Value.string ⟨#[]⟩).cells.size]!)) [(0, .string ⟨(leF 0).toArray⟩), (1, .string ⟨(leF 1).toArray⟩), (2, .string ⟨(leF 2).toArray⟩)] = some (sxC 3 leF) := by kernel_rfl
theorem le_dig : DigS leS := digS_of _ (by decide) (by decide)
theorem le_digs (i : Nat) (h : i < 3) : DigS (leF i) := by
 match i, h with
 | 0, _ => exact digS_of _ (by decide) (by decide)
 | 1, _ => exact digS_of _ (by decide) (by decide)
 | 2, _ => exact digS_of _ (by decide) (by decide)
theorem le_g : dcN leS leS.length = leG := by rw [dcN_is]; decide
theorem le_n (i : Nat) (h : i < 3) : dcN (leF i) (leF i).length = lN leL i := by
 match i, h with
 | 0, _ => rw [dcN_is]; decide
 | 1, _ => rw [dcN_is]; decide
 | 2, _ => rw [dcN_is]; decide
theorem le_lt (i : Nat) (h : i < 3) : lN leL i < 2 ^ 256 := by
 match i, h with
 | 0, _ => decide
 | 1, _ => decide
 | 2, _ => decide
end Go.Proofs.Ytcgeimbfijpocaa
/- group's Other, Great. -/
namespace Go.Proofs.Ytcgeimbfijpocaa
open Go.RowKit
def otS : List UInt8 := [53, 52, 54, 50, 52, 51, 51, 51, 49, 51, 57, 53, 50, 52, 49, 50, 56]
def otT : List (List UInt8) := [[54, 52, 56, 49, 55], [49, 56, 49, 53, 49, 51, 53, 50, 54, 57], [52, 56, 55, 50, 54, 57, 48, 57, 49, 52, 52, 55, 48, 56, 49, 52, 50, 57]]
def otF (i : Nat) : List UInt8 := otT.getD i []
set_option maxRecDepth 100000 in
set_option maxHeartbeats 2000000 in
theorem ot_lit : Instr.fill (fun i => some (i * 1, 1)) ((Array.range (3 * 1)).map ((Value.string ⟨#[]⟩).cells[· % (Value.string ⟨#[]⟩).cells.size]!)) [(0, .string ⟨(otF 0).toArray⟩), (1, .string ⟨(otF 1).toArray⟩), (2, .string ⟨(otF 2).toArray⟩)] = some (sxC 3 otF) := by kernel_rfl
theorem ot_dig : DigS otS := digS_of _ (by decide) (by decide)
theorem ot_digs (i : Nat) (h : i < 3) : DigS (otF i) := by
 match i, h with
 | 0, _ => exact digS_of _ (by decide) (by decide)
 | 1, _ => exact digS_of _ (by decide) (by decide)
 | 2, _ => exact digS_of _ (by decide) (by decide)
theorem ot_g : dcN otS otS.length = otG := by rw [dcN_is]; decide
theorem ot_n (i : Nat) (h : i < 3) : dcN (otF i) (otF i).length = lN otL i := by
 match i, h with
 | 0, _ => rw [dcN_is]; decide
 | 1, _ => rw [dcN_is]; decide
 | 2, _ => rw [dcN_is]; decide
theorem ot_lt (i : Nat) (h : i < 3) : lN otL i < 2 ^ 256 := by
 match i, h with
 | 0, _ => decide
 | 1, _ => decide
 | 2, _ => decide
def grS : List UInt8 := [57, 49, 53, 49, 49, 53, 55, 51, 52, 49, 54, 54, 55, 52, 54, 57, 54, 49, 53, 56, 48, 48, 57, 57, 55, 49, 51, 48, 50, 51, 49, 52, 53, 52, 56, 54, 53, 52, 50, 53, 48, 49, 56, 49, 56, 49, 57, 49, 55, 57, 48, 52, 57, 50, 49, 52, 55, 57, 57, 55, 50, 55, 50, 57]
def grT : List (List UInt8) := [[54, 53, 53, 49, 57], [49, 51, 49, 51, 57, 49, 56, 48, 50, 55], [56, 56, 49, 55, 53, 53, 54, 55, 50, 48, 51, 55, 55, 57, 55, 54, 49], [54, 51, 53, 51, 55, 49, 57, 50, 50, 53, 54, 51, 51, 57, 57, 55, 53, 53, 49, 49, 57, 50, 57, 55, 54, 54, 54, 49, 56, 49, 53, 49, 55, 49], [49, 50, 56, 56, 54, 56, 55, 51, 53, 56, 52, 48, 57, 48, 53, 50, 52, 54, 53, 57, 55, 48, 48, 53, 54, 50, 50, 50, 56, 54, 55, 53, 51, 51, 56, 51, 53, 49, 48, 52, 56, 54, 51, 53, 57, 51, 48, 55, 54, 48, 57, 56, 52, 53, 56, 52, 51, 56, 53, 54, 49, 52, 51, 49, 56, 51]]
def grF (i : Nat) : List UInt8 := grT.getD i []
set_option maxRecDepth 100000 in
set_option maxHeartbeats 2000000 in
theorem gr_lit : Instr.fill (fun i => some (i * 1, 1)) ((Array.range (5 * 1)).map ((Value.string ⟨#[]⟩).cells[· % (Value.string ⟨#[]⟩).cells.size]!)) [(0, .string ⟨(grF 0).toArray⟩), (1, .string ⟨(grF 1).toArray⟩), (2, .string ⟨(grF 2).toArray⟩), (3, .string ⟨(grF 3).toArray⟩), (4, .string ⟨(grF 4).toArray⟩)] = some (sxC 5 grF) := by kernel_rfl
theorem gr_dig : DigS grS := digS_of _ (by decide) (by decide)
theorem gr_digs (i : Nat) (h : i < 5) : DigS (grF i) := by
 match i, h with
 | 0, _ => exact digS_of _ (by decide) (by decide)
 | 1, _ => exact digS_of _ (by decide) (by decide)
 | 2, _ => exact digS_of _ (by decide) (by decide)
 | 3, _ => exact digS_of _ (by decide) (by decide)
 | 4, _ => exact digS_of _ (by decide) (by decide)
theorem gr_g : dcN grS grS.length = grG := by rw [dcN_is]; decide
theorem gr_n (i : Nat) (h : i < 5) : dcN (grF i) (grF i).length = lN grL i := by
 match i, h with
 | 0, _ => rw [dcN_is]; decide
 | 1, _ => rw [dcN_is]; decide
 | 2, _ => rw [dcN_is]; decide
 | 3, _ => rw [dcN_is]; decide
 | 4, _ => rw [dcN_is]; decide
theorem gr_lt (i : Nat) (h : i < 5) : lN grL i < 2 ^ 256 := by
 match i, h with
 | 0, _ => decide
 | 1, _ => decide
 | 2, _ => decide
 | 3, _ => decide
 | 4, _ => decide
end Go.Proofs.Ytcgeimbfijpocaa
