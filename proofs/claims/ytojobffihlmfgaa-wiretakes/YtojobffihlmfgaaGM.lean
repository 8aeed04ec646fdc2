/- Plain mathematics: a number's digits of 16 bits as a row's 32 cells; no program. -/
import Derived.Test.YtojobffihlmfgaaGA
import Derived.Laws.Bits64b
import Derived.Test.YtojobffihlmfgaaGE
namespace Go.Proofs.Ytojobffihlmfgaa
/-- Digit number i of N. -/
def dg (N i : Nat) : Nat := N / 2 ^ (16 * i) % 65536
/-- Thirty-two cells, by a function of their place. -/
def digF (f : Nat → Nat) : Array Value := Array.ofFn (n := 32) fun i => .int .i64 (f i : Nat)
/-- The 32 cells of a number's digits. -/
def digC (N : Nat) : Array Value := digF (dg N)
end Go.Proofs.Ytojobffihlmfgaa
/- The array type of digits: its zero value, its size, its literal. -/
namespace Go.Proofs.Ytojobffihlmfgaa
open Go.RowKit
end Go.Proofs.Ytojobffihlmfgaa
/- The document's Of: the digits of a number of 512 bits. -/
namespace Go.Proofs.Ytojobffihlmfgaa
open Go.RowKit
/-- The digits that stand behind k turns of Of's loop. -/
def ofF (L H k i : Nat) : Nat := if i < k then dg L i else if 16 ≤ i ∧ i < 16 + k then dg H (i - 16) else 0
end Go.Proofs.Ytojobffihlmfgaa
/- The document's twice, less and below: digits twice, digits less others, whether digits are below others. -/
namespace Go.Proofs.Ytojobffihlmfgaa
open Go.RowKit
/-- What goes over into digit k when A is taken twice, and c added. -/
def tw (A c k : Nat) : Nat := (2 * (A % 2 ^ (16 * k)) + c) / 2 ^ (16 * k)
end Go.Proofs.Ytojobffihlmfgaa
/- The document's below: are digits below others? -/
namespace Go.Proofs.Ytojobffihlmfgaa
open Go.RowKit
end Go.Proofs.Ytojobffihlmfgaa
