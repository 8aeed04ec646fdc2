/- mont's inverse: the limb that makes 1 of an odd one, modulo 2^64. -/
import Derived.Test.YtojobffihlmfgaaGK
import Derived.Test.YtojobffihlmfgaaGH
namespace Go.Proofs.Ytojobffihlmfgaa
open Go.RowKit
/-- One turn of Newton's way. -/
def nw (m x : Nat) : Int := IntKind.u64.wrap ((x : Int) * IntKind.u64.wrap (2 - IntKind.u64.wrap ((m : Int) * x)))
/-- How many bits are right behind i turns, as a power of two. -/
def nwP : Nat → Int
 | 0 => 8
 | 1 => 64
 | 2 => 4096
 | 3 => 16777216
 | 4 => 281474976710656
 | _ => 18446744073709551616
/-- The limb behind i turns. -/
def nwI (m : Nat) : Nat → Nat
 | 0 => m
 | i + 1 => (nw m (nwI m i)).toNat
end Go.Proofs.Ytojobffihlmfgaa
/- mont's rings: given, New, M, In, Form, Plain, Mul. -/
namespace Go.Proofs.Ytojobffihlmfgaa
open Go.RowKit
end Go.Proofs.Ytojobffihlmfgaa
/- mont.New. -/
namespace Go.Proofs.Ytojobffihlmfgaa
open Go.RowKit
/-- What a ring holds beside the natural. -/
def miL (M : Nat) : Nat := 18446744073709551616 - nwI (lm M 0) 5
def oneL (M : Nat) : Nat := 2 ^ 256 % M
def sqL (M : Nat) : Nat := oneL M * oneL M % M
end Go.Proofs.Ytojobffihlmfgaa
