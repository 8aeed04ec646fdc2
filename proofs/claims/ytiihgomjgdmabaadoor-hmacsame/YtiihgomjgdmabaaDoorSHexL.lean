/- Bytes as hexadecimal digits: plain mathematics. -/
import Derived.Test.YtiihgomjgdmabaaDoorSMath
namespace Go.Proofs.YtiihgomjgdmabaaDoor
set_option linter.unusedVariables false

def digL : List UInt8 := [48, 49, 50, 51, 52, 53, 54, 55, 56, 57, 97, 98, 99, 100, 101, 102]
/-- A byte as two digits; bytes as digits. -/
def hx2 (n : Nat) : List UInt8 := [digL.getD (n / 16) 0, digL.getD (n % 16) 0]
def hexL : List UInt8 → List UInt8
  | [] => []
  | b :: r => hx2 b.toNat ++ hexL r
theorem hexL_append : ∀ (l s : List UInt8), hexL (l ++ s) = hexL l ++ hexL s
  | [], s => rfl
  | b :: l, s => by
    show hx2 b.toNat ++ hexL (l ++ s) = (hx2 b.toNat ++ hexL l) ++ hexL s
    rw [hexL_append l s, List.append_assoc]
theorem hexL_length : ∀ l : List UInt8, (hexL l).length = 2 * l.length
  | [] => rfl
  | b :: l => by
    show (hx2 b.toNat ++ hexL l).length = _
    rw [List.length_append, hexL_length l, List.length_cons]
    show 2 + _ = _
    omega
theorem hexL_take (l : List UInt8) (i : Nat) (h : i < l.length) : hexL (l.take (i + 1)) = hexL (l.take i) ++ [digL.getD (bf l i / 16) 0] ++ [digL.getD (bf l i % 16) 0] := by
  rw [List.take_succ_eq_append_getElem h, hexL_append, List.append_assoc]
  have : l[i].toNat = bf l i := by
    unfold bf
    rw [List.getD_eq_getElem?_getD, List.getElem?_eq_getElem h]
    rfl
  show _ ++ (hx2 l[i].toNat ++ []) = _
  rw [List.append_nil, this]
  rfl
theorem dig_bf (n : Nat) (h : n < 16) : (digL.getD n 0).toNat = bf digL n := rfl
end Go.Proofs.YtiihgomjgdmabaaDoor
