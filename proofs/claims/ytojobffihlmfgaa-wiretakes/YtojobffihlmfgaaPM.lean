/- Plain mathematics of layer 4: primes, Fermat's, Pocklington's; numbers tried as divisors; steps and chains. -/
import Derived.Test.YtojobffihlmfgaaGS
import Derived.KernelRfl
namespace Go.Proofs.Ytojobffihlmfgaa
/-- A prime. -/
def IsP (n : Nat) : Prop := 2 ≤ n ∧ ∀ d, d ∣ n → d = 1 ∨ d = n
/-- The product of a list. -/
def lprod : List Nat → Nat
 | [] => 1
 | x :: l => x * lprod l
/-- No number from d on, fuel of them, goes into n, up to its root. -/
def sieve (n : Nat) : Nat → Nat → Bool
 | 0, _ => true
 | f + 1, d => if n < d * d then true else if n % d = 0 then false else sieve n f (d + 1)
/-- Is a number a prime below 2^16? -/
def smN (n : Nat) : Bool := decide (2 ≤ n) && (decide (n < 65536) && sieve n n 2)
def smI (z : Int) : Bool := decide (2 ≤ z) && (decide (z < 65536) && sieve z.toNat z.toNat 2)
/-- May there be a witness? -/
def mayN (N F : Nat) : Bool := decide (N % 2 = 1) && (decide (N ≠ 1) && (decide (F ≠ 0) && (decide ((N - 1) % F = 0) && decide (N < F * F))))
/-- Does a witness show it? -/
def shN (N F a : Nat) : Bool := decide ((a ^ ((N - 1) / F) % N) ^ F % N = 1) && decide (Nat.gcd N (a ^ ((N - 1) / F) % N - 1) = 1)
/-- Step. -/
def stN (N F : Nat) (z : Int) : Bool := decide (2 ≤ z) && (decide (z ≤ 65535) && (mayN N F && shN N F z.toNat))
/-- Links behind the first: each shows its own. -/
def lkN (N : Nat → Nat) (A : Nat → Int) : Nat → Bool
 | 0 => true
 | k + 1 => lkN N A k && stN (N (k + 1)) (N k) (A (k + 1))
/-- A chain. -/
def chN (n : Nat) (N : Nat → Nat) (A : Nat → Int) : Bool := decide (1 ≤ n) && (decide (n ≤ 8) && (smN (N 0) && (decide (A 0 = 0) && lkN N A (n - 1))))
end Go.Proofs.Ytojobffihlmfgaa
/- Plain mathematics of layer 7: powers by squaring, parameters of a group, the three given ones, the order of G. -/
namespace Go.Proofs.Ytojobffihlmfgaa
set_option linter.unusedVariables false
/-- A power by squaring. -/
def pwf (n : Nat) : Nat → Nat → Nat → Nat
 | 0, _, _ => 1 % n
 | f + 1, a, e => if e % 2 = 1 then pwf n f (a * a % n) (e / 2) * a % n else pwf n f (a * a % n) (e / 2)
/-- Step, by squaring. -/
def stC (N F a : Nat) : Bool := decide (2 ≤ a) && (decide (a ≤ 65535) && (mayN N F && (decide (pwf N 256 (pwf N 256 a ((N - 1) / F)) F = 1) && decide (Nat.gcd N (pwf N 256 a ((N - 1) / F) - 1) = 1))))
/-- Are parameters a group's? -/
def grN (n : Nat) (N : Nat → Nat) (A : Nat → Int) (G : Nat) : Bool :=
 decide (2 ≤ n) && (chN n N A && (decide (512 ≤ N (n - 2)) && (decide (G ≠ 0) && (decide (G ≠ 1) && (decide (G < N (n - 1)) && decide (G ^ N (n - 2) % N (n - 1) = 1))))))
/-- The three given chains. -/
def leL : List Nat := [65521, 1966023127, 1055500680322183127]
def otL : List Nat := [64817, 1815135269, 487269091447081429]
def grL : List Nat := [65519, 1313918027, 88175567203779761, 6353719225633997551192976661815171, 128868735840905246597005622286753383510486359307609845843856143183]
def leG : Nat := 316543771439780984
def otG : Nat := 54624333139524128
def grG : Nat := 9151157341667469615800997130231454865425018181917904921479972729
def lN (l : List Nat) (k : Nat) : Nat := l.getD k 0
def twoA (k : Nat) : Int := if k = 0 then 0 else 2
/-- What is reckoned of a given chain. -/
def lkB (l : List Nat) : Nat → Bool
 | 0 => true
 | k + 1 => lkB l k && (decide (lN l (k + 1) < 2 ^ 256) && (decide (lN l k < 2 ^ 256) && stC (lN l (k + 1)) (lN l k) 2))
def grC (l : List Nat) (G : Nat) : Bool :=
 decide (2 ≤ l.length) && (decide (l.length ≤ 8) && (smN (lN l 0) && (lkB l (l.length - 1) && (decide (512 ≤ lN l (l.length - 2)) && (decide (lN l (l.length - 2) < 2 ^ 256) && (decide (G ≠ 0) && (decide (G ≠ 1) && (decide (G < lN l (l.length - 1)) && decide (pwf (lN l (l.length - 1)) 256 G (lN l (l.length - 2)) = 1)))))))))
end Go.Proofs.Ytojobffihlmfgaa
