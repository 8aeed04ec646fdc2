/- A region that draws its order, by an invariant on which operations have been carried out: over any program; and single operations on rows, as such a step meets them. -/
import Derived.Test.YtchiiphmpkmloaaKit
namespace Go.Proofs.Ytchiiphmpkmloaa
open Go.RowKit
section
variable {P : Program}
theorem countP_lt (p q : Nat → Bool) (i : Nat) (hi : q i = true) (hn : p i = false) : ∀ (l : List Nat), i ∈ l → (∀ x, p x = true → q x = true) → l.countP p < l.countP q
 | [], h, _ => by cases h
 | x :: r, h, hpq => by
  have hm : r.countP p ≤ r.countP q := List.countP_mono_left fun y _ => hpq y
  rw [List.countP_cons, List.countP_cons]
  by_cases e : x = i
  ·subst e; rw [hi, hn]; simp; omega
  ·have h' : i ∈ r := by
    cases h with
    | head => exact absurd rfl e
    | tail _ h => exact h
   have := countP_lt p q i hi hn r h' hpq
   by_cases hp : p x = true
   ·rw [hp, hpq x hp]; simp; omega
   ·simp [hp]; split <;> omega
/-- How many have not been carried out. -/
def left (n : Nat) (d : Nat → Bool) : Nat := (List.range n).countP fun j => !d j
/-- An invariant 'Inv d a w' (d: which have been carried out) that every operation that may come up keeps. -/
theorem wpAny_inv {ops : Array Oper} {Q : Exit → Act → World → Prop} {md : Region.Mode} (Inv : (Nat → Bool) → Act → World → Prop)
  (hlex : ∀ (i : Nat) (o : Oper), ops[i]? = some o → ∀ e ∈ o.after, Region.binds md e = true → e.on < i)
  (hstep : ∀ (i : Nat) (o : Oper), ops[i]? = some o → ∀ d a w, Inv d a w → d i = false → (∀ e ∈ o.after, Region.binds md e = true → d e.on = true) →
   if Region.wanted o (yielded ops a.tmps) = true then o.wp P a w (Inv fun j => j == i || d j) Q else Inv (fun j => j == i || d j) (a.put o.dst undef) w)
  (hend : ∀ d a w, Inv d a w → (∀ j, j < ops.size → d j = true) → Q .normal a w) :
  ∀ (fuel : Nat) (L : Array Bool) (a : Act) (w : World), L.size = ops.size → left ops.size (fun j => L.getD j false) ≤ fuel → Inv (fun j => L.getD j false) a w → wpAny P md ops Q fuel L a w := by
 have hnone : ∀ (L : Array Bool), L.size = ops.size → Region.ready md ops L = [] → ∀ j, j < ops.size → L.getD j false = true := by
  intro L hL hr j
  induction j using Nat.strongRecOn with
  | _ j ih =>
   intro hj
   cases hd : L.getD j false with
   | true => rfl
   | false =>
    have hm : j ∈ Region.ready md ops L := mem_ready.2 ⟨by
      have h1 : L[j]? = some (L[j]'(by omega)) := Array.getElem?_eq_getElem (by omega)
      simp [h1] at hd ⊢
      exact hd, ops[j], Array.getElem?_eq_getElem hj, fun e he hbd => ih e.on (hlex j _ (Array.getElem?_eq_getElem hj) e he hbd) (Nat.lt_trans (hlex j _ (Array.getElem?_eq_getElem hj) e he hbd) hj)⟩
    rw [hr] at hm
    cases hm
 intro fuel
 induction fuel with
 | zero =>
  intro L a w hL hc hI
  have hr : Region.ready md ops L = [] := by
   cases hq : Region.ready md ops L with
   | nil => rfl
   | cons i r =>
    have hi : i ∈ Region.ready md ops L := by rw [hq]; exact List.mem_cons_self
    obtain ⟨hun, o, ho, _⟩ := mem_ready.1 hi
    have hlt : i < ops.size := (Array.getElem?_eq_some_iff.1 ho).1
    have hpos : 0 < left ops.size (fun j => L.getD j false) := by
     unfold left
     refine List.countP_pos_iff.2 ⟨i, List.mem_range.2 hlt, ?_⟩
     have h1 : L[i]? = some (L[i]'(by omega)) := Array.getElem?_eq_getElem (by omega)
     simp [h1] at hun ⊢
     exact hun
    omega
  exact ⟨hr, hend _ a w hI (hnone L hL hr)⟩
 | succ fuel ih =>
  intro L a w hL hc hI
  refine ⟨fun hr => hend _ a w hI (hnone L hL hr), fun i hi => ?_⟩
  obtain ⟨hun, o, ho, hpre⟩ := mem_ready.1 hi
  have hlt : i < ops.size := (Array.getElem?_eq_some_iff.1 ho).1
  have hd : L.getD i false = false := by
   have h1 : L[i]? = some (L[i]'(by omega)) := Array.getElem?_eq_getElem (by omega)
   simp [h1] at hun ⊢
   exact hun
  have hset : (fun j => (L.setIfInBounds i true).getD j false) = fun j => j == i || L.getD j false := by
   funext j
   by_cases e : j = i
   ·subst e
    simp [show j < L.size by omega]
   ·have : (j == i) = false := by simp [e]
    simp [Array.getElem?_setIfInBounds_ne (Ne.symm e), this]
  have hnext : ∀ a' w', Inv (fun j => j == i || L.getD j false) a' w' → wpAny P md ops Q fuel (L.setIfInBounds i true) a' w' := by
   intro a' w' h'
   refine ih _ a' w' (by simp [hL]) ?_ (by rw [hset]; exact h')
   rw [hset]
   have := countP_lt (fun j => !(j == i || L.getD j false)) (fun j => !L.getD j false) i (by rw [hd]; rfl) (by simp) (List.range ops.size) (List.mem_range.2 hlt) (fun x hx => by
    rw [Bool.not_eq_true'] at hx ⊢
    rw [Bool.or_eq_false_iff] at hx
    exact hx.2)
   exact Nat.le_of_lt_succ (Nat.lt_of_lt_of_le this hc)
  have h := hstep i o ho _ a w hI hd hpre
  unfold wpOp
  simp only [ho]
  split
  ·rename_i hw
   rw [if_pos hw] at h
   exact .inl (Oper.wp_mono hnext h)
  ·rename_i hw
   rw [if_neg hw] at h
   exact hnext _ _ h
/-- The beginning, at a region that stands written out. -/
theorem wp_region_inv {id : Nat} {l : List Oper} {a : Act} {w : World} {Q : Exit → Act → World → Prop} (hm : P.follows .mixedOrders = true) (Inv : (Nat → Bool) → Act → World → Prop)
  (hlex : (l.zipIdx.all fun x => x.1.after.all fun e => !Region.binds .any e || decide (e.on < x.2)) = true)
  (h0 : Inv (fun _ => false) a w.drew)
  (hstep : ∀ (i : Nat) (o : Oper), l[i]? = some o → ∀ d a w, Inv d a w → d i = false → (∀ e ∈ o.after, Region.binds .any e = true → d e.on = true) →
   if Region.wanted o (yielded l.toArray a.tmps) = true then o.wp P a w (Inv fun j => j == i || d j) Q else Inv (fun j => j == i || d j) (a.put o.dst undef) w)
  (hend : ∀ d a w, Inv d a w → (∀ j, j < l.length → d j = true) → Q .normal a w) : (Code.region id l.toArray true).wp P Q a w := by
 refine wp_region_any hm ?_
 refine wpAny_inv Inv (fun i o ho e he hbd => ?_) (fun i o ho => hstep i o (by simpa using ho)) (fun d a w hI hd => hend d a w hI (by simpa using hd)) _ _ _ _ (by simp) ?_ ?_
 ·have h1 : (o, i) ∈ l.zipIdx := by
   rw [List.mem_zipIdx_iff_getElem?]
   simpa using ho
  have h2 := List.all_eq_true.1 hlex _ h1
  have h3 := Array.all_eq_true_iff_forall_mem.1 h2 e he
  rw [hbd] at h3
  simpa using h3
 ·unfold left
  exact Nat.le_trans List.countP_le_length (by simp)
 ·have : (fun j => (Array.replicate l.toArray.size false).getD j false) = fun _ => false := by
   funext j
   by_cases hj : j < l.length
   ·simp [hj]
   ·simp [hj]
  rw [this]
  exact h0
/-- One operation without a guard. -/
theorem step_of {ops : Array Oper} {o : Oper} {a : Act} {w : World} {K : Act → World → Prop} {Q : Exit → Act → World → Prop} {E : Prop} (hg : o.guard = none) (h : o.wp P a w K Q) :
  if Region.wanted o (yielded ops a.tmps) = true then o.wp P a w K Q else E := by
 rw [if_pos (by simp [Region.wanted, hg])]; exact h
/-- 'wp' of one operation, behind a name that is not opened when two terms are held against each other (opened, a store of 256 cells would be carried out there). -/
structure OpW (P : Program) (o : Oper) (a : Act) (w : World) (K : Act → World → Prop) (Q : Exit → Act → World → Prop) : Prop where
 out : o.wp P a w K Q
/-- The same where no operation has a guard. -/
theorem wp_region_inv0 {id : Nat} {l : List Oper} {a : Act} {w : World} {Q : Exit → Act → World → Prop} (hm : P.follows .mixedOrders = true) (Inv : (Nat → Bool) → Act → World → Prop)
  (hlex : (l.zipIdx.all fun x => x.1.guard.isNone && x.1.after.all fun e => !Region.binds .any e || decide (e.on < x.2)) = true)
  (h0 : Inv (fun _ => false) a w.drew)
  (hstep : ∀ (i : Nat) (o : Oper), l[i]? = some o → ∀ d a w, Inv d a w → d i = false → (∀ e ∈ o.after, Region.binds .any e = true → d e.on = true) → OpW P o a w (Inv fun j => j == i || d j) Q)
  (hend : ∀ d a w, Inv d a w → (∀ j, j < l.length → d j = true) → Q .normal a w) : (Code.region id l.toArray true).wp P Q a w := by
 refine wp_region_inv hm Inv ?_ h0 (fun i o ho d a w hI hd hpre => ?_) hend
 ·rw [List.all_eq_true] at hlex ⊢
  intro x hx
  have := hlex x hx
  rw [Bool.and_eq_true] at this
  exact this.2
 ·have h1 : (o, i) ∈ l.zipIdx := by
   rw [List.mem_zipIdx_iff_getElem?]
   simpa using ho
  have h2 := List.all_eq_true.1 hlex _ h1
  rw [Bool.and_eq_true] at h2
  exact step_of (by simpa using h2.1) (hstep i o ho d a w hI hd hpre).out
theorem wp_alloc_row {o : Oper} {a : Act} {w : World} {K : Act → World → Prop} {Q : Exit → Act → World → Prop} (t : TypeId) (ho : o.op = .alloc t)
  (c : Array Value) (hz : ∀ w, (zeroValue t).run P w = .ok (.agg c) w)
  (h : K (a.put o.dst (.pointer (some ⟨w.heap.size, 0, none⟩))) (w.alloc (.cells c t))) : o.wp P a w K Q := by
 unfold Oper.wp execOp
 simp only [ho, Instr.alloc, Sem.run_bind, hz, Result.andThen_ok, newVar, newRow]
 exact h
theorem run_callFunc_body {f : FuncId} {fn : Func} (hf : P.funcs[f]? = some fn) (hb : (fn.name == "runtime.NumGoroutine" || fn.body.isNone) = false) (args : Array Value) (w : World) :
  (callFunc f args).run P w = .ok (.enter f args) w := by
 rw [Bool.or_eq_false_iff] at hb
 have h1 : fn.name ≠ "runtime.NumGoroutine" := by simpa using hb.1
 have h2 : fn.body ≠ none := fun e => by rw [e] at hb; exact absurd hb.2 (by decide)
 simp [callFunc, hf, h1, h2]
/-- A call of a function that has a body. -/
theorem wp_call_body {o : Oper} {a : Act} {w : World} {K : Act → World → Prop} {Q : Exit → Act → World → Prop} {fn : Func} (f : FuncId) (args : Array Operand) (ts : Array TypeId)
  (ho : o.op = .call { callee := .value (.func f), args := args, argTypes := ts }) (hf : P.funcs[f]? = some fn) (hb : (fn.name == "runtime.NumGoroutine" || fn.body.isNone) = false)
  (vs : Array Value) (hv' : args.toList.map a.eval = vs.toList)
  (h : Calls P f vs w fun e w' => ∃ v, e = .returned v ∧ K (a.put o.dst v) w') : o.wp P a w K Q := by
 have hv : args.map a.eval = vs := by apply Array.toList_inj.1; rw [Array.toList_map]; exact hv'
 unfold Oper.wp execOp
 have hr := run_callFunc_body (P := P) hf hb vs w
 simp only [ho, resolve, hv, Act.eval]
 have hd : (do let d ← Deferred.ofValue (Value.func (Fn.func f) #[] #[]) vs; invoke d.target d.args : Sem Next).run P w = .ok (.enter f vs) w := by
  simp [Deferred.ofValue, invoke, hr]
 rw [hd, Oper.upon_enter]
 exact h.mono fun e w' ⟨v, he, hk⟩ => by subst he; exact hk
theorem opw_alloc {o : Oper} {a : Act} {w : World} {K : Act → World → Prop} {Q : Exit → Act → World → Prop} (t : TypeId) (ho : o.op = .alloc t)
  (c : Array Value) (hz : ∀ w, (zeroValue t).run P w = .ok (.agg c) w)
  (h : K (a.put o.dst (.pointer (some ⟨w.heap.size, 0, none⟩))) (w.alloc (.cells c t))) : OpW P o a w K Q := ⟨wp_alloc_row t ho c hz h⟩
theorem opw_load {o : Oper} {a : Act} {w : World} {K : Act → World → Prop} {Q : Exit → Act → World → Prop} (ty : TypeId) (x : Operand) (ho : o.op = .load ty x)
  (g : Nat) (hx : a.eval x = .pointer (some ⟨g, 0, none⟩)) {t : TypeId} {cs : Array Value} (hg : Row w g cs t) (n : Nat) (e : TypeId)
  (hu : P.underlying ty = some (.array n e)) (hi : (P.info? ty).map (·.size) = some cs.size)
  (h : K (a.put o.dst (.agg cs)) w) : OpW P o a w K Q := ⟨wp_load_row ty x ho g hx t cs (0, 0) _ hg hu rfl hi h⟩
theorem opw_store {o : Oper} {a : Act} {w : World} {K : Act → World → Prop} {Q : Exit → Act → World → Prop} (ty : TypeId) (x y : Operand) (ho : o.op = .store ty x y)
  (g : Nat) (cells : Array Value) (hx : a.eval x = .pointer (some ⟨g, 0, none⟩)) (hy : a.eval y = .agg cells)
  {t : TypeId} {old : Array Value} (hg : Row w g old t) (hi : (P.info? ty).map (·.size) = some cells.size)
  (hold : old.size = cells.size) (h1 : cells.all (·.oneCell') = true)
  (h : K (a.put o.dst undef) (w.setRow g cells)) : OpW P o a w K Q := ⟨wp_store_row ty x y ho g cells hx hy t old hg hi hold h1 h⟩
theorem opw_call {o : Oper} {a : Act} {w : World} {K : Act → World → Prop} {Q : Exit → Act → World → Prop} {fn : Func} (f : FuncId) (args : Array Operand) (ts : Array TypeId)
  (ho : o.op = .call { callee := .value (.func f), args := args, argTypes := ts }) (hf : P.funcs[f]? = some fn) (hb : (fn.name == "runtime.NumGoroutine" || fn.body.isNone) = false)
  (vs : Array Value) (hv' : args.toList.map a.eval = vs.toList)
  (h : Calls P f vs w fun e w' => ∃ v, e = .returned v ∧ K (a.put o.dst v) w') : OpW P o a w K Q := ⟨wp_call_body f args ts ho hf hb vs hv' h⟩
/-- An operation that yields a value and leaves the world alone. -/
theorem opw_value {o : Oper} {a : Act} {w : World} {K : Act → World → Prop} {Q : Exit → Act → World → Prop} (v : Value) (hr : (execOp a.eval o).run P w = .ok (.value v) w)
  (h : K (a.put o.dst v) w) : OpW P o a w K Q := ⟨by unfold Oper.wp; rw [hr]; exact h⟩
/-- The model's entry for Sub64, by its place among its rows. -/
def sub64Entry : Array Value → Sem Value :=
 match Extern.MathBitsCarry.rows with
 | [_, row] => row.2
 | _ => fun _ => pure undef
def subV (x y b : Nat) : Nat := (x + 18446744073709551616 - y - b) % 18446744073709551616
def subB (x y b : Nat) : Nat := if x < y + b then 1 else 0
def addV (x y c : Nat) : Nat := (x + y + c) % 18446744073709551616
def addC (x y c : Nat) : Nat := (x + y + c) / 18446744073709551616
theorem run_sub64 (x y b : Nat) (hb : b ≤ 1) (w : World) :
  (sub64Entry #[.int .u64 x, .int .u64 y, .int .u64 b]).run P w = .ok (.tuple #[.int .u64 (subV x y b : Nat), .int .u64 (subB x y b : Nat)]) w := by
 have : b = 0 ∨ b = 1 := by omega
 rcases this with rfl | rfl <;> rfl
theorem run_add64_nat (x y c : Nat) (hc : c ≤ 1) (w : World) :
  (add64Entry #[.int .u64 x, .int .u64 y, .int .u64 c]).run P w = .ok (.tuple #[.int .u64 (addV x y c : Nat), .int .u64 (addC x y c : Nat)]) w := by
 have : c = 0 ∨ c = 1 := by omega
 rcases this with rfl | rfl <;> rfl
/-- A call of a function that the model carries out in place, as one step of a region that draws. -/
theorem step_extern {ops : Array Oper} {o : Oper} {a : Act} {w : World} {K : Act → World → Prop} {Q : Exit → Act → World → Prop} {E : Prop} {fn : Func} {en : Array Value → Sem Value} (hg : o.guard = none)
  (f : FuncId) (args : Array Operand) (ts : Array TypeId) (ho : o.op = .call { callee := .value (.func f), args := args, argTypes := ts })
  (hf : P.funcs[f]? = some fn) (hname : (fn.name == "runtime.NumGoroutine") = false) (hb : fn.body.isNone = true) (hn : Extern.findNext fn = none) (he : Extern.find fn = some en)
  (vs : Array Value) (hv' : args.toList.map a.eval = vs.toList) (v : Value) (hr : (en vs).run P w = .ok v w) (hK : K (a.put o.dst v) w) :
  if Region.wanted o (yielded ops a.tmps) = true then Oper.wp P o a w K Q else E := by
 rw [if_pos (by simp [Region.wanted, hg])]
 have hv : args.map a.eval = vs := by apply Array.toList_inj.1; rw [Array.toList_map]; exact hv'
 unfold Oper.wp execOp
 have hc := run_callFunc_extern (P := P) hf hname hb hn he vs w
 rw [hr] at hc
 simp only [ho, resolve, hv, Act.eval]
 have hd : (do let d ← Deferred.ofValue (Value.func (Fn.func f) #[] #[]) vs; invoke d.target d.args : Sem Next).run P w = .ok (.value v) w := by
  simp [Deferred.ofValue, invoke, hc]
 rw [hd]
 exact hK
end
end Go.Proofs.Ytchiiphmpkmloaa
