/- bits.Mul64; the closure of wide.timesLimb, and timesLimb. -/
import Derived.Test.YtchiiphmpkmloaaMixLaws
import Derived.Test.YtchiiphmpkmloaaNAdd
import Derived.Test.YtchiiphmpkmloaaWMath
import Derived.Lib.Mul64
import Derived.Laws.Bits64b
namespace Go.Proofs.Ytchiiphmpkmloaa
open Go.RowKit
theorem maskN (a : Nat) (ha : a < 18446744073709551616) : bits .and .u64 (a : Int) 4294967295 = ((a % 4294967296 : Nat) : Int) := by
 have h := bits_and_u64_nat a 4294967295 ha (by omega)
 have e : a &&& 4294967295 = a % 4294967296 := Nat.and_two_pow_sub_one_eq_mod a 32
 rw [e] at h
 exact h
theorem divN (a : Nat) : (a : Int) / 4294967296 = ((a / 4294967296 : Nat) : Int) := by omega
theorem mulN (a b : Nat) : (a : Int) * (b : Int) = ((a * b : Nat) : Int) := (Int.natCast_mul a b).symm
theorem addN (a b : Nat) : (a : Int) + (b : Int) = ((a + b : Nat) : Int) := (Int.natCast_add a b).symm
theorem wrapN (a : Nat) (ha : a < 18446744073709551616) : IntKind.u64.wrap (a : Int) = (a : Int) := by rw [IntKind.wrap_u64]; omega
theorem wrapM (a : Nat) : IntKind.u64.wrap (a : Int) = ((a % 18446744073709551616 : Nat) : Int) := by rw [IntKind.wrap_u64]; omega
/-- A call of a function that the model carries out in place, in a plain walk. -/
theorem wpList_extern {P : Program} {ops : Array Oper} {rest : List Oper} {o : Oper} {a : Act} {w : World} {Q : Exit → Act → World → Prop} {fn : Func} {en : Array Value → Sem Value} (hgd : o.guard = none)
  (f : FuncId) (args : Array Operand) (ts : Array TypeId) (ho : o.op = .call { callee := .value (.func f), args := args, argTypes := ts })
  (hf : P.funcs[f]? = some fn) (hname : (fn.name == "runtime.NumGoroutine") = false) (hb : fn.body.isNone = true) (hn : Extern.findNext fn = none) (he : Extern.find fn = some en)
  (vs : Array Value) (hv' : args.toList.map a.eval = vs.toList) (v : Value) (hr : (en vs).run P w = .ok v w) (h : wpList P ops Q rest (a.put o.dst v) w) : wpList P ops Q (o :: rest) a w :=
 wpList_plain hgd fun K hK => by
  have hs := step_extern (P := P) (ops := ops) (K := K) (Q := Q) (E := True) hgd f args ts ho hf hname hb hn he vs hv' v hr (hK _ _ h)
  rw [if_pos (by simp [Region.wanted, hgd])] at hs
  exact hs
end Go.Proofs.Ytchiiphmpkmloaa
