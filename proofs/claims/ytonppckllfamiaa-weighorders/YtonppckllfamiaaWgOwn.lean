/- Own slices of floats and of ints: append out of any slice, rests, arguments. -/
import Derived.Test.YtonppckllfamiaaWgIns
namespace Go.Proofs.Ytonppckllfamiaa
open Go.RowKit
set_option linter.unusedVariables false
set_option linter.unusedSectionVars false
set_option linter.unusedSimpArgs false
theorem own_ne0 (v : Value) : ∀ b, v.ownBlock = some b → b ∉ ([] : List Nat) := fun _ _ h => by cases h
theorem own_ne1 {v : Value} {g : Nat} (h : v.ownBlock ≠ some g) : ∀ b, v.ownBlock = some b → b ∉ [g] := fun b hb hm => by
 rw [List.mem_singleton.1 hm] at hb
 exact h hb
theorem own_low {w : World} {base : Nat} {e : TypeId} {k : Nat} {v : Value} {n : Nat} {xs : List Value} (h : w.ownsRow base e k v n xs) {g : Nat} (hg : g < base) : v.ownBlock ≠ some g := fun e => by
 have := (h.lt g e).1
 omega
theorem OwnI.on {w w' : World} {S : List Nat} {base : Nat} {v : Value} {n : Nat} {f : Nat → Nat} (h : OwnI w base v n f) (hk : Kept S w w') (hS : ∀ b, v.ownBlock = some b → b ∉ S) : OwnI w' base v n f := own_on h hk hS
theorem OwnI.new {w : World} {base : Nat} {v : Value} {n : Nat} {f : Nat → Nat} (h : OwnI w base v n f) {g : Nat} (hg : w.heap.size ≤ g) : v.ownBlock ≠ some g := own_new h hg
theorem OwnI.low {w : World} {base : Nat} {v : Value} {n : Nat} {f : Nat → Nat} (h : OwnI w base v n f) {g : Nat} (hg : g < base) : v.ownBlock ≠ some g := own_low h hg
theorem OwnI.base {w : World} {base : Nat} {v : Value} {n : Nat} {f : Nat → Nat} (h : OwnI w base v n f) : ∀ g ∈ v.ownBlock.toList, base ≤ g := own_base h
theorem sl_fl : Try.prog.underlying 30 = some (.slice (Try.prog.elem 30)) := by kernel_rfl
theorem sl_u6 : Try.prog.underlying 29 = some (.slice (Try.prog.elem 29)) := by kernel_rfl
theorem vsC_snoc (n : Nat) (S : Nat → Value) : (vsC n S).toList ++ (#[S n] : Array Value).toList = (vsC (n + 1) S).toList := by
 refine List.ext_getElem? fun j => ?_
 rw [List.getElem?_append, Array.length_toList, vsC_size, Array.getElem?_toList, Array.getElem?_toList, Array.getElem?_toList]
 by_cases h : j < n
 ·rw [if_pos h, vsC_get S h, vsC_get S (by omega)]
 ·rw [if_neg h]
  by_cases h2 : j = n
  ·subst h2
   rw [vsC_get S (by omega), Nat.sub_self]
   rfl
  ·rw [Array.getElem?_eq_none (by simp; omega), Array.getElem?_eq_none (by rw [vsC_size]; omega)]
/-- The floats of bits. -/
def flv (B : Nat → Nat) (i : Nat) : Value := .float .f64 (B i)
def u6v (B : Nat → Nat) (i : Nat) : Value := .int .u64 (B i : Nat)
def OwnF (w : World) (base : Nat) (v : Value) (n : Nat) (B : Nat → Nat) : Prop := w.ownsRow base 23 1 v n (vsC n (flv B)).toList
theorem ownF_nil (w : World) (base : Nat) (B : Nat → Nat) : OwnF w base (.slice none 0 0) 0 B := World.ownsRow_nil w base _ _
theorem info_fltx : (Try.prog.info? 23).map (fun i => (i.zero, i.size, i.bytes)) = some (some (.float .f64 0), 1, 8) := by kernel_rfl
theorem info_flt : ∃ i, Try.prog.info? 23 = some i ∧ i.zero = some (.float .f64 0) ∧ i.size = 1 ∧ i.bytes = 8 := by
 cases hi : Try.prog.info? 23 with
 | none => have := info_fltx; rw [hi] at this; cases this
 | some i =>
  have h := info_fltx
  rw [hi] at h
  simp only [Option.map_some, Option.some.injEq, Prod.mk.injEq] at h
  exact ⟨i, rfl, h.1, h.2.1, h.2.2⟩
theorem lit_f1 (b : Nat) (k : Nat) (hk : k = 1) : Instr.fill (fun i => some (i * k, k)) ((Array.range (1 * k)).map ((Value.float .f64 0).cells[· % (Value.float .f64 0).cells.size]!)) [(0, .float .f64 b)] = some #[.float .f64 b] := by
 subst hk
 kernel_rfl
section
variable {ops : Array Oper} {Q : Exit → Act → World → Prop} {rest : List Oper} {o : Oper} {a : Act} {w : World}
/-- append of one float. -/
theorem pw_appF (hw : Region.wanted o (yielded ops a.tmps) = true) (s x : Operand) (ho : o.op = .call { callee := .builtin .append, args := #[s, x], argTypes := #[30, 30] })
  (base : Nat) (v : Value) (n : Nat) (B : Nat → Nat) (hs : a.eval s = v) (hown : OwnF w base v n B) (gx c : Nat) (hx : a.eval x = .slice (some ⟨gx, 0, none⟩) 1 c) {tx : TypeId} (rx : Row w gx #[.float .f64 (B n)] tx) (hn : n < 4398046511103) (hbase : base ≤ w.heap.size)
  (h : ∀ v' w', OwnF w' base v' (n + 1) B → Kept v.ownBlock.toList w w' → (v'.ownBlock = v.ownBlock ∨ v'.ownBlock = some w.heap.size) → PW Try.prog ops Q rest (a.put o.dst v') w') : PW Try.prog ops Q (o :: rest) a w := by
 obtain ⟨i, hi, hz, hsz, hby⟩ := info_flt
 refine pw_app1 hw s x 30 ho base 23 i _ 1 8 Try.underlying30 hi hz hsz hby rfl (by decide) v n _ hs hown gx c hx rx rfl (by simp [Value.oneCell']) (by unfold maxLen; omega) (by omega) hbase fun v' w' h1 h2 h3 => h v' w' ?_ h2 h3
 have e := vsC_snoc n (flv B)
 unfold OwnF
 rw [← e]
 exact h1
end
theorem app_zero {P : Program} {w : World} (base : Nat) (t ty e : TypeId) (i : TypeInfo) (size : Nat) (ht : P.underlying t = some (.slice e)) (hi : P.info? e = some i)
  (v : Value) (n : Nat) (xs : List Value) (hown : w.ownsRow base e size v n xs) (ad : Addr) (c : Nat) :
  (Builtin.append_ #[t, t] ty #[v, .slice (some ad) 0 c]).run P w = .ok v w := by
 rcases hown.2 with ⟨rfl, rfl⟩ | ⟨g, cap, cur, rfl, _, _, hnc, _⟩
 ·simp [Builtin.append_, run_underlying ht, sizeOf, typeInfo, hi, Builtin.lenOf, Builtin.firstCells, loadCells, loadCellsFrom]
 ·simp [Builtin.append_, run_underlying ht, sizeOf, typeInfo, hi, Builtin.lenOf, Builtin.firstCells, hnc, storeCells, loadCells, loadCellsFrom]
section
variable {ops : Array Oper} {Q : Exit → Act → World → Prop} {rest : List Oper} {o : Oper} {a : Act} {w : World}
/-- append of ints out of any slice. -/
theorem pw_appIA (hw : Region.wanted o (yielded ops a.tmps) = true) (s x : Operand) (ho : o.op = .call { callee := .builtin .append, args := #[s, x], argTypes := #[34, 34] })
  (base : Nat) (v : Value) (n : Nat) (f : Nat → Nat) (hs : a.eval s = v) (hown : OwnI w base v n f) (ab : Option Addr) (m c : Nat) (hx : a.eval x = .slice ab m c) (hz0 : ab = none → m = 0 ∧ c = 0) {gb ob : Nat} {bcs : Array Value} {tb : TypeId} (hna : NumsAt w ab m (fun i => f (n + i)) gb ob bcs tb) (hn : n + m ≤ 1000) (hbase : base ≤ w.heap.size)
  (h : ∀ v' w', OwnI w' base v' (n + m) f → Kept v.ownBlock.toList w w' → (v'.ownBlock = v.ownBlock ∨ v'.ownBlock = some w.heap.size) → PW Try.prog ops Q rest (a.put o.dst v') w') : PW Try.prog ops Q (o :: rest) a w := by
 obtain ⟨i, hi, hz, hsz, hby⟩ := info_int'
 cases ab with
 | none =>
  obtain ⟨rfl, rfl⟩ := hz0 rfl
  refine pw_run hw v w ?_ (h v w hown (Kept.refl _ _) (.inl rfl))
  have hr := run_append_owned_none (P := Try.prog) (w := w) base 34 o.type 3 i 1 Try.underlying34 hi v n _ hown
  unfold execOp
  simp only [ho, resolve, invoke, builtin, Sem.run_bind, Sem.run_pure, Result.andThen_ok, List.map_toArray, List.map_cons, List.map_nil, hs, hx, hr]
 | some ad =>
  have hcl : ∀ (j : Nat) (q : Value), (isC m (fun i => f (n + i))).toList[j]? = some q → w.cell? (ad.add j) = some q := by
   intro j q hj
   rcases hna.at' with h0 | ⟨e, hr, hb⟩
   ·subst h0
    rw [Array.getElem?_toList, Array.getElem?_eq_none (by rw [isC_size]; omega)] at hj
    cases hj
   ·have hjm : j < m := by
     rcases Nat.lt_or_ge j m with c1 | c1
     ·exact c1
     ·rw [Array.getElem?_toList, Array.getElem?_eq_none (by rw [isC_size]; exact c1)] at hj
      cases hj
    rw [Array.getElem?_toList, isC_get m _ j hjm] at hj
    cases hj
    cases e
    rw [show (⟨gb, ob, none⟩ : Addr).add j = ⟨gb, ob + j * 1, none⟩ by unfold Addr.add; split <;> simp <;> omega, hr.cell]
    exact hb j hjm
  obtain ⟨v', w', hr, h2, h3, _⟩ := run_append_own (P := Try.prog) w base 34 o.type 3 i _ 1 8 Try.underlying34 hi hz hsz hby rfl (by decide) v n _ hown ad m c (isC m (fun i => f (n + i))).toList (by rw [Array.length_toList, isC_size, Nat.mul_one]) hcl (isC_all _ _) (by unfold maxLen; omega) (by omega) hbase
  rw [isC_app] at h2
  have hpl : v'.ownBlock = v.ownBlock ∨ v'.ownBlock = some w.heap.size := by
   by_cases h0 : 0 < m
   ·exact app_place (P := Try.prog) w base 34 o.type 3 i _ 1 8 Try.underlying34 hi hz hsz hby v n _ hown ad m c _ (by rw [Array.length_toList, isC_size, Nat.mul_one]) hcl (isC_all _ _) (by unfold maxLen; omega) (by omega) h0 v' w' hr
   ·obtain rfl : m = 0 := by omega
    rw [app_zero base 34 o.type 3 i 1 Try.underlying34 hi v n _ hown ad c] at hr
    cases hr
    exact .inl rfl
  refine pw_run hw v' w' ?_ (h v' w' h2 ⟨h3.os, h3.tape, h3.output, h3.size, fun k hk hn => h3.block k hk fun e => ?_⟩ hpl)
  ·unfold execOp
   simp only [ho, resolve, invoke, builtin, Sem.run_bind, Sem.run_pure, Result.andThen_ok, List.map_toArray, List.map_cons, List.map_nil, hs, hx, hr]
  ·rw [← e] at hn
   simp at hn
end
theorem OwnF.on {w w' : World} {S : List Nat} {base : Nat} {v : Value} {n : Nat} {f : Nat → Nat} (h : OwnF w base v n f) (hk : Kept S w w') (hS : ∀ b, v.ownBlock = some b → b ∉ S) : OwnF w' base v n f := own_on h hk hS
theorem OwnF.new {w : World} {base : Nat} {v : Value} {n : Nat} {f : Nat → Nat} (h : OwnF w base v n f) {g : Nat} (hg : w.heap.size ≤ g) : v.ownBlock ≠ some g := own_new h hg
theorem OwnF.low {w : World} {base : Nat} {v : Value} {n : Nat} {f : Nat → Nat} (h : OwnF w base v n f) {g : Nat} (hg : g < base) : v.ownBlock ≠ some g := own_low h hg
theorem OwnF.base {w : World} {base : Nat} {v : Value} {n : Nat} {f : Nat → Nat} (h : OwnF w base v n f) : ∀ g ∈ v.ownBlock.toList, base ≤ g := own_base h
/-- An own slice of floats, as one that is handed on. -/
theorem ownF_vs {w : World} {base : Nat} {ab : Option Addr} {n m c : Nat} {B : Nat → Nat} (h : OwnF w base (.slice ab m c) n B) : m = n ∧ ∃ gb cur, VsAt w ab n (flv B) gb 0 cur 23 := by
 rcases h.2 with ⟨e, rfl⟩ | ⟨g, cap, cur, e, _, hg, hnc, _, hcs, htk⟩
 ·cases e
  exact ⟨rfl, 0, #[], ⟨.inl rfl⟩⟩
 ·cases e
  refine ⟨rfl, g, cur, ⟨.inr ⟨rfl, Row.r hg, fun i hi => ?_⟩⟩⟩
  refine take_part htk (0 + i * 1) _ (by omega) ?_
  rw [Nat.zero_add, Nat.mul_one]
  exact vsC_get _ hi
/-- Where the rest of a slice lies. -/
def rsA (ab : Option Addr) (c k : Nat) (z : Nat) : Option Addr := if c = k then ab else ab.map (·.add (k * z))
/-- What stands behind a place of an own slice of ints. -/
theorem y_restx {P : Program} {o : Oper} {ρ : Operand → Value} (t : TypeId) (x lo : Operand) (ho : o.op = .slice t x (some lo) none none) (hu : P.underlying t = some (.slice (P.elem t))) (z : Nat) (hz : ∀ w, (sizeOf (P.elem t)).run P w = .ok z w) (ab : Option Addr) (n c m : Nat) (hx : ρ x = .slice ab n c) (hh : ρ lo = .int .i64 m) (hm : m ≤ n) (hmc : n ≤ c) (w : World) :
  (execOp ρ o).run P w = .ok (.value (.slice (rsA ab c m z) (n - m) (c - m))) w := by
 have h1 : (Instr.sliceAt t (.slice ab n c) (some (.int .i64 m)) none none).run P w = .ok (.slice (rsA ab c m z) (n - m) (c - m)) w := by
  rw [run_sliceAt_slice w t _ _ _ _ hu, run_slice_l w t _ n c hu .i64 m (by omega) (by omega), hz, Result.andThen_ok, Int.toNat_natCast]
  rfl
 unfold execOp
 simp only [ho, hx, hh, Option.map_some, Option.map_none, Sem.run_bind, h1, Result.andThen_ok]
 rfl
theorem nums_rest {w : World} {ab : Option Addr} {n c m gb : Nat} {u : Nat → Nat} {bcs : Array Value} {tb : TypeId} (h : NumsAt w ab n u gb 0 bcs tb) (hm : m ≤ n) (hc : n ≤ c) : NumsAt w (rsA ab c m 1) (n - m) (fun i => u (m + i)) gb (0 + m * 1) bcs tb := by
 by_cases e : n = m
 ·exact ⟨.inl (by omega)⟩
 ·rcases h.at' with h0 | ⟨h1, h2, h3⟩
  ·exact ⟨.inl (by omega)⟩
  ·subst h1
   refine ⟨.inr ⟨?_, h2, fun i hi => ?_⟩⟩
   ·unfold rsA
    rw [if_neg (by omega)]
    show some _ = some _
    congr 1
    unfold Addr.add
    split <;> simp <;> omega
   ·rw [show 0 + m * 1 + i * 1 = 0 + (m + i) * 1 by omega]
    exact h3 (m + i) (by omega)
theorem ownI_cap {w : World} {base : Nat} {ab : Option Addr} {n m c : Nat} {u : Nat → Nat} (h : OwnI w base (.slice ab m c) n u) : m = n ∧ n ≤ c ∧ (ab = none → n = 0 ∧ c = 0) := by
 rcases h.2 with ⟨e, rfl⟩ | ⟨g, cap, cur, e, _, hg, hnc, _, hcs, htk⟩
 ·cases e; exact ⟨rfl, Nat.le_refl _, fun _ => ⟨rfl, rfl⟩⟩
 ·cases e; exact ⟨rfl, hnc, fun e => by cases e⟩
end Go.Proofs.Ytonppckllfamiaa
