/- Layer 7's rows: parameters, what a group was made of, a group, links one behind the other. -/
import Derived.Test.YtojobffihlmfgaaPX
import Derived.Test.YtojobffihlmfgaaGWalk
import Derived.Test.YtojobffihlmfgaaPM
import Derived.Test.YtojobffihlmfgaaGT
namespace Go.Proofs.Ytojobffihlmfgaa
open Go.RowKit
/-- The cells of parameters. -/
def paC (ab : Option Addr) (n c G : Nat) : Array Value := #[.slice ab n c, .int .u64 (lm G 0), .int .u64 (lm G 1), .int .u64 (lm G 2), .int .u64 (lm G 3)]
/-- The cells of what a group was made of. -/
def mdC (P Q G : Nat) : Array Value := #[.int .u64 (lm P 0), .int .u64 (lm P 1), .int .u64 (lm P 2), .int .u64 (lm P 3), .int .u64 (lm Q 0), .int .u64 (lm Q 1), .int .u64 (lm Q 2), .int .u64 (lm Q 3), .int .u64 (lm G 0), .int .u64 (lm G 1), .int .u64 (lm G 2), .int .u64 (lm G 3)]
/-- The cells of a group. -/
def gpC (P Q G : Nat) (r f : Option Addr) : Array Value := #[.int .u64 (lm P 0), .int .u64 (lm P 1), .int .u64 (lm P 2), .int .u64 (lm P 3), .int .u64 (lm Q 0), .int .u64 (lm Q 1), .int .u64 (lm Q 2), .int .u64 (lm Q 3), .int .u64 (lm G 0), .int .u64 (lm G 1), .int .u64 (lm G 2), .int .u64 (lm G 3), .pointer r, .pointer f]
/-- A cell of a link. -/
def lkv (N : Nat) (z : Int) (j : Nat) : Value := if j = 4 then .int .i64 z else .int .u64 (lm N j : Nat)
/-- Links one behind the other. -/
def lksC (n : Nat) (N : Nat → Nat) (A : Nat → Int) : Array Value := Array.ofFn (n := 5 * n) fun i => lkv (N (i / 5)) (A (i / 5)) (i % 5)
section
variable {ops : Array Oper} {Q : Exit → Act → World → Prop} {rest : List Oper} {o : Oper} {a : Act} {w : World}
end
end Go.Proofs.Ytojobffihlmfgaa
/- group's madeOf, inBounds, New, Check. -/
namespace Go.Proofs.Ytojobffihlmfgaa
open Go.RowKit
/-- Is Q long enough, and G between 1 and P? -/
def inB (P Q G : Nat) : Bool := decide (512 ≤ Q) && (decide (1 < G) && decide (G < P))
end Go.Proofs.Ytojobffihlmfgaa
