/- prime.Small; the document's Plain and Small. -/
import Derived.Test.YtojobffihlmfgaaPM
import Derived.Test.YtojobffihlmfgaaMQ
import Derived.WalkMore
import Derived.Test.YtojobffihlmfgaaGT
import Derived.Test.YtojobffihlmfgaaGN
import Derived.Test.YtojobffihlmfgaaGH
import Derived.Test.YtojobffihlmfgaaGJ
namespace Go.Proofs.Ytojobffihlmfgaa
open Go.RowKit
theorem exec_leq_i {P : Program} {o : Oper} {ρ : Operand → Value} (t : TypeId) (x y : Operand) (u : TypeId) (ho : o.op = .binOp .leq t x y u) (n m : Int) (hx : ρ x = .int .i64 n) (hy : ρ y = .int .i64 m) (b : Bool) (hb : decide (n ≤ m) = b) (w : World) :
  (execOp ρ o).run P w = .ok (.value (.bool b)) w := by
 subst hb
 unfold execOp
 simp only [ho, hx, hy]
 simp [go_sem]
theorem exec_lt_b {P : Program} {o : Oper} {ρ : Operand → Value} (t : TypeId) (x y : Operand) (u : TypeId) (ho : o.op = .binOp .lss t x y u) (n m : Int) (hx : ρ x = .int .i64 n) (hy : ρ y = .int .i64 m) (b : Bool) (hb : decide (n < m) = b) (w : World) :
  (execOp ρ o).run P w = .ok (.value (.bool b)) w := by
 subst hb
 unfold execOp
 simp only [ho, hx, hy]
 simp [go_sem]
/-- Plain: whether a number up to 2^32 is a prime. -/
def plI (z : Int) : Bool := decide (2 ≤ z) && (decide (z ≤ 4294967296) && sieve z.toNat 65534 2)
end Go.Proofs.Ytojobffihlmfgaa
/- prime's claims: squareAbove, newClaim, shownBy, Step. -/
namespace Go.Proofs.Ytojobffihlmfgaa
open Go.RowKit
/-- The cells of a claim. -/
def clC (q : Option Addr) (F K : Nat) : Array Value := #[.pointer q, .int .u64 (lm F 0), .int .u64 (lm F 1), .int .u64 (lm F 2), .int .u64 (lm F 3), .int .u64 (lm K 0), .int .u64 (lm K 1), .int .u64 (lm K 2), .int .u64 (lm K 3)]
theorem part_all (c : Array Value) : ∀ j v, c.toList[j]? = some v → c[0 + j]? = some v := fun j v h => by rw [Nat.zero_add, ← Array.getElem?_toList]; exact h
/-- A function's end: two results, the first a struct in memory. -/
theorem ret_row2d {P : Program} {fn : Func} {R : Ending → World → Prop} {a : Act} {w : World} {p u : Tmp} {ty : TypeId} (hf : fn.results = #[.cell p ty, .tmp u]) (g : Nat) (hp : a.tmps.getD p undef = .pointer (some ⟨g, 0, none⟩))
  {t : TypeId} {cs : Array Value} (hr : Row w g cs t) (fs : Array Field) (hu : P.underlying ty = some (.struct fs)) (hi : (P.info? ty).map (·.size) = some cs.size) (hd : a.defers = [])
  (v : Value) (hv : a.tmps.getD u undef = v) (h : R (.returned (.tuple #[.agg cs, v])) w) : bodyPost P fn R .ret a w := by
 refine bodyPost_ret (v := .tuple #[.agg cs, v]) ?_ hd h
 rw [results_cell_tmp hf, hp, hv]
 simp only [asAddr, Sem.run_pure, Result.andThen_ok]
 rw [run_loadVar_row w g t ty cs (0, 0) _ hr hu rfl hi]
 rfl
theorem neq_no (X : Nat) : (!decide (X % 2 ^ 256 = X % 2 ^ 256)) = false := by rw [decide_eq_true rfl]; rfl
end Go.Proofs.Ytojobffihlmfgaa
/- prime's Step and Witness. -/
namespace Go.Proofs.Ytojobffihlmfgaa
open Go.RowKit
/-- The least from k on that shows it, fuel of them; 0: none. -/
def wtF (sh : Nat → Bool) : Nat → Nat → Nat
 | 0, _ => 0
 | g + 1, k => if sh (2 + k) = true then 2 + k else wtF sh g (k + 1)
def witN (N F : Nat) : Nat := if mayN N F = true then wtF (shN N F) 99 0 else 0
def errW (W : Nat) : Int := if W = 0 then 3 else 0
end Go.Proofs.Ytojobffihlmfgaa
/- prime's begins and Check: chains. -/
namespace Go.Proofs.Ytojobffihlmfgaa
open Go.RowKit
/-- The cells of a link. -/
def lkC (N : Nat) (z : Int) : Array Value := #[.int .u64 (lm N 0), .int .u64 (lm N 1), .int .u64 (lm N 2), .int .u64 (lm N 3), .int .i64 z]
/-- The links that a slice tells. -/
structure LinksAt (w : World) (ab : Option Addr) (n : Nat) (N : Nat → Nat) (A : Nat → Int) (gb ob : Nat) (bcs : Array Value) (tb : TypeId) : Prop where
 at' : n = 0 ∨ (ab = some ⟨gb, ob, none⟩ ∧ RowR w gb bcs tb ∧ ∀ i, i < n → ∀ j v, (lkC (N i) (A i)).toList[j]? = some v → bcs[ob + i * 5 + j]? = some v)
 lt : ∀ i, i < n → N i < 2 ^ 256
theorem LinksAt.below {w w2 : World} {ab : Option Addr} {n : Nat} {N : Nat → Nat} {A : Nat → Int} {gb ob : Nat} {bcs : Array Value} {tb : TypeId} (h : LinksAt w ab n N A gb ob bcs tb) (hb : Below w.heap.size w w2) : LinksAt w2 ab n N A gb ob bcs tb :=
 ⟨h.at'.imp id fun ⟨h1, h2, h3⟩ => ⟨h1, h2.belowAll hb, h3⟩, h.lt⟩
/-- OK, or ErrBad. -/
def errC (b : Bool) : Int := if b = true then 0 else 4
end Go.Proofs.Ytojobffihlmfgaa
/- Of links that are a chain: Step, Check say yes. (What the given groups need: the other cases lie in PClaim, PStep, PCheck.) -/
namespace Go.Proofs.Ytojobffihlmfgaa
open Go.RowKit
end Go.Proofs.Ytojobffihlmfgaa
/- What must come, whatever the arguments are: the check of the laws of layer 4. -/
namespace Go.Proofs.Ytojobffihlmfgaa
open Go.RowKit
def two2i (A B : Int) (i : Nat) : Int := if i = 0 then A else B
end Go.Proofs.Ytojobffihlmfgaa
