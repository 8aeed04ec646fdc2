/- Blocks of older texts that layer 17 needs: laws of operations, rows of ints, own slices. -/
import Derived.Test.YtchiiphmpkmloaaGWalk
import Derived.Test.YtchiiphmpkmloaaEWalk
import Derived.Laws.AppendOwn
import Derived.Laws.OwnMore
namespace Go.Proofs.Ytchiiphmpkmloaa
open Go.RowKit
set_option linter.unusedVariables false
set_option linter.unusedSectionVars false
set_option linter.unusedSimpArgs false
theorem exec_len_s {P : Program} {o : Oper} {ρ : Operand → Value} (t : TypeId) (x : Operand) (ho : o.op = .call { callee := .builtin .len, args := #[x], argTypes := #[t] }) (ab : Option Addr) (n c : Nat) (hx : ρ x = .slice ab n c) (hu : P.underlying t = some (.slice (P.elem t))) (w : World) :
  (execOp ρ o).run P w = .ok (.value (.int .i64 n)) w := by
 unfold execOp
 simp only [ho]
 simp [resolve, invoke, builtin, hx, run_len_slice w t _ ab n c hu, goInt]
theorem exec_sub_in {P : Program} {o : Oper} {ρ : Operand → Value} (t : TypeId) (x y : Operand) (u : TypeId) (ho : o.op = .binOp .sub t x y u) (n m : Nat) (hx : ρ x = .int .i64 n) (hy : ρ y = .int .i64 m) (hm : m ≤ n) (h : n < 9223372036854775808) (w : World) :
  (execOp ρ o).run P w = .ok (.value (.int .i64 ((n - m : Nat) : Int))) w := by
 unfold execOp
 simp only [ho, hx, hy]
 simp [go_sem]
 rw [IntKind.wrap_i64]
 omega
theorem exec_neq_k {P : Program} {o : Oper} {ρ : Operand → Value} (k : IntKind) (t : TypeId) (x y : Operand) (u : TypeId) (ho : o.op = .binOp .neq t x y u) (n m : Int) (hx : ρ x = .int k n) (hy : ρ y = .int k m) (b : Bool) (hb : (!decide (n = m)) = b) (w : World) :
  (execOp ρ o).run P w = .ok (.value (.bool b)) w := by
 subst hb
 unfold execOp
 simp only [ho, hx, hy]
 simp [eqGuard, go_sem]
 rfl
theorem exec_gt_i {P : Program} {o : Oper} {ρ : Operand → Value} (t : TypeId) (x y : Operand) (u : TypeId) (ho : o.op = .binOp .gtr t x y u) (n m : Int) (hx : ρ x = .int .i64 n) (hy : ρ y = .int .i64 m) (b : Bool) (hb : decide (m < n) = b) (w : World) :
  (execOp ρ o).run P w = .ok (.value (.bool b)) w := by
 subst hb
 unfold execOp
 simp only [ho, hx, hy]
 simp [go_sem]
theorem exec_add_in {P : Program} {o : Oper} {ρ : Operand → Value} (t : TypeId) (x y : Operand) (u : TypeId) (ho : o.op = .binOp .add t x y u) (n m : Nat) (hx : ρ x = .int .i64 n) (hy : ρ y = .int .i64 m) (h : n + m < 9223372036854775808) (w : World) :
  (execOp ρ o).run P w = .ok (.value (.int .i64 ((n + m : Nat) : Int))) w := by
 unfold execOp
 simp only [ho, hx, hy]
 simp [go_sem]
 rw [IntKind.wrap_i64]
 omega
theorem exec_eql_k {P : Program} {o : Oper} {ρ : Operand → Value} (k : IntKind) (t : TypeId) (x y : Operand) (u : TypeId) (ho : o.op = .binOp .eql t x y u) (n m : Int) (hx : ρ x = .int k n) (hy : ρ y = .int k m) (b : Bool) (hb : decide (n = m) = b) (w : World) :
  (execOp ρ o).run P w = .ok (.value (.bool b)) w := by
 subst hb
 unfold execOp
 simp only [ho, hx, hy]
 simp [eqGuard, go_sem]
 rfl
theorem exec_geq_i {P : Program} {o : Oper} {ρ : Operand → Value} (t : TypeId) (x y : Operand) (u : TypeId) (ho : o.op = .binOp .geq t x y u) (n m : Int) (hx : ρ x = .int .i64 n) (hy : ρ y = .int .i64 m) (b : Bool) (hb : decide (m ≤ n) = b) (w : World) :
  (execOp ρ o).run P w = .ok (.value (.bool b)) w := by
 subst hb
 unfold execOp
 simp only [ho, hx, hy]
 simp [go_sem]
theorem exec_sub_ir {P : Program} {o : Oper} {ρ : Operand → Value} (t : TypeId) (x y : Operand) (u : TypeId) (ho : o.op = .binOp .sub t x y u) (n m r : Int) (hx : ρ x = .int .i64 n) (hy : ρ y = .int .i64 m) (hr : IntKind.i64.wrap (n - m) = r) (w : World) :
  (execOp ρ o).run P w = .ok (.value (.int .i64 r)) w := by
 subst hr
 unfold execOp
 simp only [ho, hx, hy]
 simp [go_sem]
theorem exec_leq_i {P : Program} {o : Oper} {ρ : Operand → Value} (t : TypeId) (x y : Operand) (u : TypeId) (ho : o.op = .binOp .leq t x y u) (n m : Int) (hx : ρ x = .int .i64 n) (hy : ρ y = .int .i64 m) (b : Bool) (hb : decide (n ≤ m) = b) (w : World) :
  (execOp ρ o).run P w = .ok (.value (.bool b)) w := by
 subst hb
 unfold execOp
 simp only [ho, hx, hy]
 simp [go_sem]
theorem exec_lt_b {P : Program} {o : Oper} {ρ : Operand → Value} (t : TypeId) (x y : Operand) (u : TypeId) (ho : o.op = .binOp .lss t x y u) (n m : Int) (hx : ρ x = .int .i64 n) (hy : ρ y = .int .i64 m) (b : Bool) (hb : decide (n < m) = b) (w : World) :
  (execOp ρ o).run P w = .ok (.value (.bool b)) w := by
 subst hb
 unfold execOp
 simp only [ho, hx, hy]
 simp [go_sem]
theorem exec_mul_in {P : Program} {o : Oper} {ρ : Operand → Value} (t : TypeId) (x y : Operand) (u : TypeId) (ho : o.op = .binOp .mul t x y u) (n m r : Nat) (hx : ρ x = .int .i64 n) (hy : ρ y = .int .i64 m) (hr : n * m = r) (h : r < 9223372036854775808) (w : World) :
  (execOp ρ o).run P w = .ok (.value (.int .i64 (r : Int))) w := by
 subst hr
 unfold execOp
 simp only [ho, hx, hy]
 simp [go_sem]
 rw [← Int.natCast_mul, IntKind.wrap_i64]
 omega
theorem exec_neq_bool {P : Program} {o : Oper} {ρ : Operand → Value} (t : TypeId) (x y : Operand) (u : TypeId) (ho : o.op = .binOp .neq t x y u) (n : Bool) (hx : ρ x = .bool n) (hy : ρ y = .bool n) (hu : P.underlying t = some .bool) (w : World) :
  (execOp ρ o).run P w = .ok (.value (.bool false)) w := by
 unfold execOp
 simp only [ho, hx, hy]
 simp [eqGuard, go_sem, hu]
theorem exec_lss_k {P : Program} {o : Oper} {ρ : Operand → Value} (k : IntKind) (t : TypeId) (x y : Operand) (u : TypeId) (ho : o.op = .binOp .lss t x y u) (n m : Int) (hx : ρ x = .int k n) (hy : ρ y = .int k m) (b : Bool) (hb : decide (n < m) = b) (w : World) :
  (execOp ρ o).run P w = .ok (.value (.bool b)) w := by
 subst hb
 unfold execOp
 simp only [ho, hx, hy]
 cases k <;> simp [go_sem]
theorem exec_shr_u {P : Program} {o : Oper} {ρ : Operand → Value} (t : TypeId) (x y : Operand) (u : TypeId) (ho : o.op = .binOp .shr t x y u) (n s : Nat) (hx : ρ x = .int .u64 n) (hy : ρ y = .int .i64 s) (hs : s < 64) (w : World) :
  (execOp ρ o).run P w = .ok (.value (.int .u64 ((n / 2 ^ s : Nat) : Int))) w := by
 unfold execOp
 simp only [ho, hx, hy]
 simp [go_sem]
/-- Integers, one cell each. -/
def isC (n : Nat) (u : Nat → Nat) : Array Value := Array.ofFn (n := n) fun i => .int .i64 (u i : Nat)
theorem isC_size (n : Nat) (u : Nat → Nat) : (isC n u).size = n := by simp [isC]
theorem isC_get (n : Nat) (u : Nat → Nat) (i : Nat) (h : i < n) : (isC n u)[i]? = some (.int .i64 (u i : Nat)) := by simp [isC, h]
theorem isC_put (n : Nat) (u v : Nat → Nat) (k N : Nat) (hv : ∀ j, j < n → v j = if j = k then N else u j) : (isC n u).setIfInBounds k (.int .i64 (N : Nat)) = isC n v := by
 apply Array.ext_getElem?
 intro i
 by_cases hi : i < n
 ·rw [Array.getElem?_setIfInBounds, isC_get n v i hi, hv i hi]
  by_cases e : k = i
  ·subst e; simp [isC_size, hi]
  ·rw [if_neg e, isC_get n u i hi, if_neg (fun x => e x.symm)]
 ·rw [Array.getElem?_eq_none (by simp [isC_size]; omega), Array.getElem?_eq_none (by rw [isC_size]; omega)]
theorem made_ints (n : Nat) : madeCells (Value.int .i64 0).cells (n * 1) = isC n (fun _ => 0) := by
 apply Array.ext_getElem?
 intro i
 by_cases hi : i < n
 ·rw [isC_get n _ i hi]
  unfold madeCells
  simp [hi, Value.cells, Nat.mod_one]
 ·rw [Array.getElem?_eq_none (by rw [size_madeCells]; omega), Array.getElem?_eq_none (by rw [isC_size]; omega)]
theorem sl_intsX : Try.prog.underlying 31 = some (.slice (Try.prog.elem 31)) := by kernel_rfl
theorem el_ints : Try.prog.elem 31 = 3 := by kernel_rfl
theorem size_eli (w : World) : (sizeOf (Try.prog.elem 31)).run Try.prog w = .ok 1 w := by rw [el_ints]; exact Try.sizeOf3 w
theorem lit_i1 (a : Int) (k : Nat) (hk : k = 1) : Instr.fill (fun i => some (i * k, k)) ((Array.range (1 * k)).map ((Value.int .i64 0).cells[· % (Value.int .i64 0).cells.size]!)) [(0, .int .i64 a)] = some #[.int .i64 a] := by
 subst hk
 kernel_rfl
/-- Where what was appended to lies: where it lay, or at a new place. -/
theorem app_place {P : Program} (w : World) (base : Nat) (t ty e : TypeId) (i : TypeInfo) (z : Value) (size bytes : Nat) (ht : P.underlying t = some (.slice e)) (hi : P.info? e = some i) (hz : i.zero = some z)
  (hsize : i.size = size) (hby : i.bytes = bytes) (v : Value) (n : Nat) (xs : List Value) (hown : w.ownsRow base e size v n xs)
  (a : Addr) (m c : Nat) (news : List Value) (hl : news.length = m * size) (hnews : ∀ j u, news[j]? = some u → w.cell? (a.add j) = some u) (h1 : ∀ u ∈ news, u.oneCell' = true)
  (h63 : n + m ≤ maxLen) (hbytes : (n + m) * bytes ≤ 140737488355328) (hm : 0 < m) (v' : Value) (w' : World) (hr : (Builtin.append_ #[t, t] ty #[v, .slice (some a) m c]).run P w = .ok v' w') :
  v'.ownBlock = v.ownBlock ∨ v'.ownBlock = some w.heap.size := by
 subst hsize
 subst hby
 have hsmall : n + m ≤ 9223372036854775807 := by simp only [maxLen] at h63; omega
 rcases hown.2 with ⟨rfl, rfl⟩ | ⟨g, cap, cur, rfl, hbg, hg, hnc, hcm, hcs, htake⟩
 ·have h2 := run_append_nil (P := P) w t ty e i z ht hi hz a m c news hl hnews hm (by omega) (by have hb := hbytes; simp only [Nat.zero_add] at hb; omega)
  rw [h2] at hr
  cases hr
  exact .inr rfl
 ·by_cases hroom : n + m ≤ cap
  ·have hfit : n * i.size + news.length ≤ cur.size := by rw [hl, hcs, ← Nat.add_mul]; exact Nat.mul_le_mul_right _ hroom
   have h2 := run_append_room (P := P) w t ty e i ht hi g n cap cur hg a m c news hl hnews h1 hroom hfit
   rw [h2] at hr
   cases hr
   exact .inl rfl
  ·have holds : ∀ j u, xs[j]? = some u → w.cell? ((⟨g, 0, none⟩ : Addr).add j) = some u := hown.cells (g := g) rfl
   have h2 := run_append_grow (P := P) w t ty e i z ht hi hz ⟨g, 0, none⟩ n cap xs hown.1 holds a m c news hl hnews (by omega) (by omega) (growslice_fits (by omega) hbytes)
   rw [h2] at hr
   cases hr
   exact .inr rfl
theorem own_on {w w' : World} {S : List Nat} {base : Nat} {e : TypeId} {k : Nat} {v : Value} {n : Nat} {xs : List Value} (h : w.ownsRow base e k v n xs) (hk : Kept S w w') (hS : ∀ b, v.ownBlock = some b → b ∉ S) : w'.ownsRow base e k v n xs := by
 refine ⟨h.1, ?_⟩
 rcases h.2 with hn | ⟨g, cap, cur, rfl, hb, hgg, rest⟩
 ·exact .inl hn
 ·exact .inr ⟨g, cap, cur, rfl, hb, (hk.block g (Array.getElem?_eq_some_iff.1 hgg).1 (hS g rfl)).trans hgg, rest⟩
theorem own_below {w w' : World} {base : Nat} {e : TypeId} {k : Nat} {v : Value} {n : Nat} {xs : List Value} (h : w.ownsRow base e k v n xs) (hb : Below w.heap.size w w') : w'.ownsRow base e k v n xs :=
 own_on h (Kept.ofBelow hb) (by simp)
theorem own_shape {w : World} {base : Nat} {e : TypeId} {k : Nat} {v : Value} {n : Nat} {xs : List Value} (h : w.ownsRow base e k v n xs) : ∃ ab c, v = .slice ab n c := by
 rcases h.2 with ⟨rfl, rfl⟩ | ⟨g, cap, cur, rfl, _⟩
 ·exact ⟨none, 0, rfl⟩
 ·exact ⟨_, _, rfl⟩
/-- A row that an own slice does not lie in, behind the append. -/
theorem own_apart {w : World} {v v' : Value} {g : Nat} (hp : v'.ownBlock = v.ownBlock ∨ v'.ownBlock = some w.heap.size) (hg : g < w.heap.size) (h : v.ownBlock ≠ some g) : v'.ownBlock ≠ some g := by
 rcases hp with hp | hp
 ·rw [hp]; exact h
 ·rw [hp]
  intro e
  cases e
  exact Nat.lt_irrefl _ hg
theorem own_new {w : World} {base : Nat} {e : TypeId} {k : Nat} {v : Value} {n : Nat} {xs : List Value} (h : w.ownsRow base e k v n xs) {g : Nat} (hg : w.heap.size ≤ g) : v.ownBlock ≠ some g := fun e => by
 have := (h.lt g e).2
 omega
theorem own_nin {v : Value} {g : Nat} (h : v.ownBlock ≠ some g) : g ∉ v.ownBlock.toList := by
 cases hv : v.ownBlock with
 | none => simp
 | some b =>
  rw [hv] at h
  simp only [Option.toList_some, List.mem_singleton]
  exact fun e => h (by rw [e])
theorem own_base {w : World} {base : Nat} {e : TypeId} {k : Nat} {v : Value} {n : Nat} {xs : List Value} (h : w.ownsRow base e k v n xs) : ∀ g ∈ v.ownBlock.toList, base ≤ g := by
 intro g hg
 cases hv : v.ownBlock with
 | none => rw [hv] at hg; simp at hg
 | some b =>
  rw [hv] at hg
  simp only [Option.toList_some, List.mem_singleton] at hg
  rw [hg]
  exact (h.lt b hv).1
theorem cells_one {cx : Array Value} (h : cx.all (·.oneCell') = true) : ∀ u ∈ cx.toList, u.oneCell' = true := by
 intro u hu
 rw [Array.all_eq_true] at h
 obtain ⟨j, hj, rfl⟩ := List.getElem_of_mem hu
 exact h j (by simpa using hj)
section
variable {P : Program} {ops : Array Oper} {Q : Exit → Act → World → Prop} {rest : List Oper} {o : Oper} {a : Act} {w : World}
/-- append of one element, out of a row that holds just it. -/
theorem pw_app1 (hw : Region.wanted o (yielded ops a.tmps) = true) (s x : Operand) (t : TypeId) (ho : o.op = .call { callee := .builtin .append, args := #[s, x], argTypes := #[t, t] })
  (base : Nat) (e : TypeId) (i : TypeInfo) (z : Value) (size bytes : Nat) (ht : P.underlying t = some (.slice e)) (hi : P.info? e = some i) (hz : i.zero = some z) (hsize : i.size = size) (hby : i.bytes = bytes) (hzs : z.cells.size = size) (hsz : 0 < size)
  (v : Value) (n : Nat) (xs : List Value) (hs : a.eval s = v) (hown : w.ownsRow base e size v n xs) (gx c : Nat) (hx : a.eval x = .slice (some ⟨gx, 0, none⟩) 1 c) {cx : Array Value} {tx : TypeId} (rx : Row w gx cx tx) (hcx : cx.size = size) (h1 : cx.all (·.oneCell') = true)
  (h63 : n + 1 ≤ maxLen) (hbytes : (n + 1) * bytes ≤ 140737488355328) (hbase : base ≤ w.heap.size)
  (h : ∀ v' w', w'.ownsRow base e size v' (n + 1) (xs ++ cx.toList) → Kept v.ownBlock.toList w w' → (v'.ownBlock = v.ownBlock ∨ v'.ownBlock = some w.heap.size) → PW P ops Q rest (a.put o.dst v') w') : PW P ops Q (o :: rest) a w := by
 have hl : cx.toList.length = 1 * size := by rw [Array.length_toList, hcx, Nat.one_mul]
 have hnews : ∀ j u, cx.toList[j]? = some u → w.cell? ((⟨gx, 0, none⟩ : Addr).add j) = some u := by
  intro j u hu
  rw [Array.getElem?_toList] at hu
  rw [Addr.add_mid, Nat.zero_add, cell_of_row w gx j cx tx (0, 0) rx]
  exact hu
 obtain ⟨v', w', hr, h2, h3, _⟩ := run_append_own (P := P) w base t o.type e i z size bytes ht hi hz hsize hby hzs hsz v n xs hown ⟨gx, 0, none⟩ 1 c cx.toList hl hnews (cells_one h1) h63 hbytes hbase
 have hp := app_place (P := P) w base t o.type e i z size bytes ht hi hz hsize hby v n xs hown ⟨gx, 0, none⟩ 1 c cx.toList hl hnews (cells_one h1) h63 hbytes (by decide) v' w' hr
 refine pw_run hw v' w' ?_ (h v' w' h2 ⟨h3.os, h3.tape, h3.output, h3.size, fun k hk hn => h3.block k hk fun e => ?_⟩ hp)
 ·unfold execOp
  simp only [ho, resolve, invoke, builtin, Sem.run_bind, Sem.run_pure, Result.andThen_ok, List.map_toArray, List.map_cons, List.map_nil, hs, hx, hr]
 ·rw [← e] at hn
  simp at hn
end
theorem take_part {cur : Array Value} {n k : Nat} {xs : Array Value} (ht : cur.toList.take (n * k) = xs.toList) (i : Nat) (v : Value) (hi : i < n * k) (h : xs[i]? = some v) : cur[i]? = some v := by
 rw [← Array.getElem?_toList, ← List.getElem?_take_of_lt hi, ht, Array.getElem?_toList]
 exact h
/-- Ints that the call appends. -/
def OwnI (w : World) (base : Nat) (v : Value) (n : Nat) (u : Nat → Nat) : Prop := w.ownsRow base 3 1 v n (isC n u).toList
theorem ownI_nil (w : World) (base : Nat) (u : Nat → Nat) : OwnI w base (.slice none 0 0) 0 u := World.ownsRow_nil w base _ _
theorem isC_snoc (n : Nat) (u : Nat → Nat) : (isC n u).toList ++ (#[.int .i64 (u n : Nat)] : Array Value).toList = (isC (n + 1) u).toList := by
 refine List.ext_getElem? fun j => ?_
 rw [List.getElem?_append, Array.length_toList, isC_size, Array.getElem?_toList, Array.getElem?_toList, Array.getElem?_toList]
 by_cases h : j < n
 ·rw [if_pos h, isC_get n u j h, isC_get (n + 1) u j (by omega)]
 ·rw [if_neg h]
  by_cases h2 : j = n
  ·subst h2
   rw [isC_get (j + 1) u j (by omega), Nat.sub_self]
   rfl
  ·rw [Array.getElem?_eq_none (by simp; omega), Array.getElem?_eq_none (by rw [isC_size]; omega)]
theorem info_intx : (Try.prog.info? 3).map (fun i => (i.zero, i.size, i.bytes)) = some (some (.int .i64 0), 1, 8) := by kernel_rfl
theorem info_int' : ∃ i, Try.prog.info? 3 = some i ∧ i.zero = some (.int .i64 0) ∧ i.size = 1 ∧ i.bytes = 8 := by
 cases hi : Try.prog.info? 3 with
 | none => have := info_intx; rw [hi] at this; cases this
 | some i =>
  have h := info_intx
  rw [hi] at h
  simp only [Option.map_some, Option.some.injEq, Prod.mk.injEq] at h
  exact ⟨i, rfl, h.1, h.2.1, h.2.2⟩
section
variable {ops : Array Oper} {Q : Exit → Act → World → Prop} {rest : List Oper} {o : Oper} {a : Act} {w : World}
/-- append of one int. -/
theorem pw_appI (hw : Region.wanted o (yielded ops a.tmps) = true) (s x : Operand) (ho : o.op = .call { callee := .builtin .append, args := #[s, x], argTypes := #[31, 31] })
  (base : Nat) (v : Value) (n : Nat) (u : Nat → Nat) (hs : a.eval s = v) (hown : OwnI w base v n u) (gx c : Nat) (hx : a.eval x = .slice (some ⟨gx, 0, none⟩) 1 c) {tx : TypeId} (rx : Row w gx #[.int .i64 (u n : Nat)] tx) (hn : n < 4398046511103) (hbase : base ≤ w.heap.size)
  (h : ∀ v' w', OwnI w' base v' (n + 1) u → Kept v.ownBlock.toList w w' → (v'.ownBlock = v.ownBlock ∨ v'.ownBlock = some w.heap.size) → PW Try.prog ops Q rest (a.put o.dst v') w') : PW Try.prog ops Q (o :: rest) a w := by
 obtain ⟨i, hi, hz, hsz, hby⟩ := info_int'
 refine pw_app1 hw s x 31 ho base 3 i _ 1 8 Try.underlying31 hi hz hsz hby rfl (by decide) v n _ hs hown gx c hx rx rfl (by simp [Value.oneCell']) (by unfold maxLen; omega) (by omega) hbase fun v' w' h1 h2 h3 => h v' w' ?_ h2 h3
 rw [isC_snoc] at h1
 exact h1
end
/-- The numbers that a slice of ints tells. -/
structure NumsAt (w : World) (ab : Option Addr) (n : Nat) (u : Nat → Nat) (gb ob : Nat) (bcs : Array Value) (tb : TypeId) : Prop where
 at' : n = 0 ∨ (ab = some ⟨gb, ob, none⟩ ∧ RowR w gb bcs tb ∧ ∀ i, i < n → bcs[ob + i * 1]? = some (.int .i64 (u i : Nat)))
theorem NumsAt.below {w w2 : World} {ab : Option Addr} {n : Nat} {u : Nat → Nat} {gb ob : Nat} {bcs : Array Value} {tb : TypeId} (h : NumsAt w ab n u gb ob bcs tb) (hb : Below w.heap.size w w2) : NumsAt w2 ab n u gb ob bcs tb :=
 ⟨h.at'.imp id fun ⟨h1, h2, h3⟩ => ⟨h1, h2.belowAll hb, h3⟩⟩
theorem NumsAt.belowAll {w w2 : World} {ab : Option Addr} {n : Nat} {u : Nat → Nat} {gb ob : Nat} {bcs : Array Value} {tb : TypeId} (h : NumsAt w ab n u gb ob bcs tb) (hb : Below w.heap.size w w2) : NumsAt w2 ab n u gb ob bcs tb := h.below hb
theorem NumsAt.take {w : World} {ab : Option Addr} {n : Nat} {u : Nat → Nat} {gb ob : Nat} {bcs : Array Value} {tb : TypeId} (h : NumsAt w ab n u gb ob bcs tb) {m : Nat} (hm : m ≤ n) : NumsAt w ab m u gb ob bcs tb := by
 refine ⟨?_⟩
 rcases h.at' with h0 | ⟨h1, h2, h3⟩
 ·exact .inl (by omega)
 ·exact .inr ⟨h1, h2, fun i hi => h3 i (by omega)⟩
theorem NumsAt.congr {w : World} {ab : Option Addr} {n : Nat} {u v : Nat → Nat} {gb ob : Nat} {bcs : Array Value} {tb : TypeId} (h : NumsAt w ab n u gb ob bcs tb) (he : ∀ i, i < n → u i = v i) : NumsAt w ab n v gb ob bcs tb :=
 ⟨h.at'.imp id fun ⟨h1, h2, h3⟩ => ⟨h1, h2, fun i hi => by rw [← he i hi]; exact h3 i hi⟩⟩
theorem nums_nil (w : World) (ab : Option Addr) (u : Nat → Nat) : NumsAt w ab 0 u 0 0 #[] 0 := ⟨.inl rfl⟩
theorem nums_row {w : World} {g n : Nat} {u : Nat → Nat} (h : Row w g (isC n u) 3) : NumsAt w (some ⟨g, 0, none⟩) n u g 0 (isC n u) 3 :=
 ⟨.inr ⟨rfl, h.r, fun i hi => by rw [Nat.zero_add, Nat.mul_one]; exact isC_get n u i hi⟩⟩
/-- An own slice of ints, as one that is handed on. -/
theorem ownI_nums {w : World} {base : Nat} {ab : Option Addr} {n m c : Nat} {u : Nat → Nat} (h : OwnI w base (.slice ab m c) n u) : m = n ∧ ∃ gb cur, NumsAt w ab n u gb 0 cur 3 := by
 rcases h.2 with ⟨e, rfl⟩ | ⟨g, cap, cur, e, _, hg, hnc, _, hcs, htk⟩
 ·cases e
  exact ⟨rfl, 0, #[], ⟨.inl rfl⟩⟩
 ·cases e
  refine ⟨rfl, g, cur, ⟨.inr ⟨rfl, Row.r hg, fun i hi => ?_⟩⟩⟩
  refine take_part htk (0 + i * 1) _ (by omega) ?_
  rw [Nat.zero_add, Nat.mul_one]
  exact isC_get n u i hi
/-- The first ones of a slice. -/
theorem y_first {P : Program} {o : Oper} {ρ : Operand → Value} (t : TypeId) (x hi : Operand) (ho : o.op = .slice t x none (some hi) none) (hu : P.underlying t = some (.slice (P.elem t))) (z : Nat) (hz : ∀ w, (sizeOf (P.elem t)).run P w = .ok z w) (ab : Option Addr) (n c m : Nat) (hx : ρ x = .slice ab n c) (hh : ρ hi = .int .i64 m) (hm : m ≤ c) (w : World) :
  (execOp ρ o).run P w = .ok (.value (.slice ab m c)) w := by
 have h1 : (Instr.sliceAt t (.slice ab n c) none (some (.int .i64 m)) none).run P w = .ok (.slice ab m c) w := by
  rw [run_sliceAt_slice w t _ _ _ _ hu, run_slice_h w t ab n c hu .i64 m (by omega) (by omega), hz, Result.andThen_ok, Int.toNat_natCast]
  unfold sliced
  by_cases hc : c = 0
  ·rw [if_pos hc]; rfl
  ·rw [if_neg hc]
   cases ab with
   | none => rfl
   | some a =>
    cases a
    simp [Addr.add]
 unfold execOp
 simp only [ho, hx, hh, Option.map_some, Option.map_none, Sem.run_bind, h1, Result.andThen_ok]
 rfl
theorem sbmk (w : World) : Below w.heap.size w w := Below.refl _ _
theorem isC_app (n : Nat) (u : Nat → Nat) : ∀ m, (isC n u).toList ++ (isC m (fun i => u (n + i))).toList = (isC (n + m) u).toList
 | 0 => by
  have h : (isC 0 (fun i => u (n + i))).toList = [] := by
   apply List.eq_nil_of_length_eq_zero
   rw [Array.length_toList, isC_size]
  rw [h, List.append_nil, Nat.add_zero]
 | m + 1 => by
  rw [← isC_snoc m, ← List.append_assoc, isC_app n u m, isC_snoc, Nat.add_assoc]
theorem isC_all (n : Nat) (u : Nat → Nat) : ∀ x ∈ (isC n u).toList, x.oneCell' = true := by
 intro x hx
 obtain ⟨i, hi, rfl⟩ := List.getElem_of_mem hx
 have hi' : i < n := by rw [Array.length_toList, isC_size] at hi; exact hi
 have h := isC_get n u i hi'
 rw [← Array.getElem?_toList, List.getElem?_eq_getElem hi] at h
 rw [Option.some.inj h]
 rfl
section
variable {ops : Array Oper} {Q : Exit → Act → World → Prop} {rest : List Oper} {o : Oper} {a : Act} {w : World}
/-- append of an own slice of ints to another one. -/
theorem pw_appOI (hw : Region.wanted o (yielded ops a.tmps) = true) (s x : Operand) (ho : o.op = .call { callee := .builtin .append, args := #[s, x], argTypes := #[31, 31] })
  (base base2 : Nat) (v1 : Value) (n1 : Nat) (u : Nat → Nat) (hs : a.eval s = v1) (hown : OwnI w base v1 n1 u) (v2 : Value) (n2 : Nat) (u2 : Nat → Nat) (hx : a.eval x = v2) (hown2 : OwnI w base2 v2 n2 u2) (hf : ∀ i, i < n2 → u2 i = u (n1 + i)) (hn : n1 + n2 ≤ 1000) (hbase : base ≤ w.heap.size)
  (h : ∀ v' w', OwnI w' base v' (n1 + n2) u → Kept v1.ownBlock.toList w w' → PW Try.prog ops Q rest (a.put o.dst v') w') : PW Try.prog ops Q (o :: rest) a w := by
 obtain ⟨i, hi, hz, hsz, hby⟩ := info_int'
 rcases hown2.2 with ⟨rfl, rfl⟩ | ⟨g, cap, cur, rfl, _⟩
 ·refine pw_run hw v1 w ?_ (h v1 w hown (Kept.refl _ _))
  have hr := run_append_owned_none (P := Try.prog) (w := w) base 31 o.type 3 i 1 Try.underlying31 hi v1 n1 _ hown
  unfold execOp
  simp only [ho, resolve, invoke, builtin, Sem.run_bind, Sem.run_pure, Result.andThen_ok, List.map_toArray, List.map_cons, List.map_nil, hs, hx, hr]
 ·have hc : isC n2 u2 = isC n2 (fun i => u (n1 + i)) := by
   apply Array.ext_getElem?
   intro j
   by_cases hj : j < n2
   ·rw [isC_get _ _ _ hj, isC_get _ _ _ hj, hf j hj]
   ·rw [Array.getElem?_eq_none (by rw [isC_size]; omega), Array.getElem?_eq_none (by rw [isC_size]; omega)]
  obtain ⟨v', w', hr, h2, h3, _⟩ := run_append_own (P := Try.prog) w base 31 o.type 3 i _ 1 8 Try.underlying31 hi hz hsz hby rfl (by decide) v1 n1 _ hown ⟨g, 0, none⟩ n2 cap (isC n2 u2).toList (by rw [Array.length_toList, isC_size, Nat.mul_one]) (hown2.cells (g := g) rfl) (isC_all _ _) (by unfold maxLen; omega) (by omega) hbase
  rw [hc, isC_app] at h2
  refine pw_run hw v' w' ?_ (h v' w' h2 ⟨h3.os, h3.tape, h3.output, h3.size, fun k hk hn => h3.block k hk fun e => ?_⟩)
  ·unfold execOp
   simp only [ho, resolve, invoke, builtin, Sem.run_bind, Sem.run_pure, Result.andThen_ok, List.map_toArray, List.map_cons, List.map_nil, hs, hx, hr]
  ·rw [← e] at hn
   simp at hn
end
theorem isC_congr (n : Nat) {u u2 : Nat → Nat} (h : ∀ i, i < n → u i = u2 i) : isC n u = isC n u2 := by
 apply Array.ext_getElem?
 intro i
 by_cases hi : i < n
 ·rw [isC_get n u i hi, isC_get n u2 i hi, h i hi]
 ·rw [Array.getElem?_eq_none (by rw [isC_size]; omega), Array.getElem?_eq_none (by rw [isC_size]; omega)]
/-- a and b in one another's place. -/
def swi (a b i : Nat) : Nat := if i = a then b else if i = b then a else i
theorem swi_lt {a b i m : Nat} (ha : a < m) (hb : b < m) (hi : i < m) : swi a b i < m := by
 unfold swi
 split
 ·exact hb
 ·split <;> assumption
theorem swi_inj {a b i j : Nat} (h : swi a b i = swi a b j) : i = j := by
 unfold swi at h
 repeat' split at h
 all_goals omega
/-- A call of a closure that only makes memory, in the quiet walk. -/
theorem qw_callC {P : Program} {ops : Array Oper} {W : World} {Q : Act → Prop} {rest : List Oper} {o : Oper} {a : Act} {fn : Func} (hw : Region.wanted o (yielded ops a.tmps) = true) (f : FuncId) (t : Tmp) (args : Array Operand) (ts : Array TypeId)
  (ho : o.op = .call { callee := .value (.tmp t), args := args, argTypes := ts }) (caps : Array Value) (hcl : a.eval (.tmp t) = .func (.func f) #[] caps) (hf : P.funcs[f]? = some fn) (hb : (fn.name == "runtime.NumGoroutine" || fn.body.isNone) = false)
  (vs : Array Value) (hv' : args.toList.map a.eval = vs.toList) (v : Value)
  (hc : ∀ w, Below W.heap.size W w → Calls P f (vs ++ caps) w fun e w' => e = .returned v ∧ Below w.heap.size w w')
  (h : QW P ops W Q rest (a.put o.dst v)) : QW P ops W Q (o :: rest) a := by
 refine ⟨?_⟩
 unfold wpQuiet
 rw [if_pos hw]
 refine ⟨v, fun w hC => ?_, h.out⟩
 have hv : args.map a.eval = vs := by apply Array.toList_inj.1; rw [Array.toList_map]; exact hv'
 have hr := run_callFunc_body (P := P) hf hb (vs ++ caps) w
 have hd : (execOp a.eval o).run P w = .ok (.enter f (vs ++ caps)) w := by
  unfold execOp
  simp only [ho, resolve, hv, hcl]
  simp [Deferred.ofValue, invoke, hr]
 unfold Oper.quietAt
 rw [hd]
 exact ⟨rfl, (hc w hC).mono fun e w' ⟨he, hb'⟩ => ⟨he, below_on hC (Nat.le_refl _) hb'⟩⟩
/-- n values of one cell each. -/
def vsC (n : Nat) (S : Nat → Value) : Array Value := Array.ofFn (n := n) fun i => S i
theorem vsC_size (n : Nat) (S : Nat → Value) : (vsC n S).size = n := by simp [vsC]
theorem vsC_get {n : Nat} (S : Nat → Value) {i : Nat} (h : i < n) : (vsC n S)[i]? = some (S i) := by simp [vsC, h]
theorem vsC_congr {n : Nat} {S T : Nat → Value} (h : ∀ i, i < n → S i = T i) : vsC n S = vsC n T := by
 apply Array.ext_getElem?
 intro i
 by_cases hi : i < n
 ·rw [vsC_get S hi, vsC_get T hi, h i hi]
 ·rw [Array.getElem?_eq_none (by rw [vsC_size]; omega), Array.getElem?_eq_none (by rw [vsC_size]; omega)]
theorem vsC_put {n : Nat} {S T : Nat → Value} {i : Nat} {v : Value} (hi : i < n) (hv : T i = v) (h : ∀ j, j < n → j ≠ i → T j = S j) : (vsC n S).setIfInBounds i v = vsC n T := by
 apply Array.ext_getElem?
 intro j
 rw [Array.getElem?_setIfInBounds]
 by_cases hj : j < n
 ·rw [vsC_get S hj, vsC_get T hj]
  by_cases e : i = j
  ·subst e
   rw [if_pos rfl, if_pos (by rw [vsC_size]; exact hj), hv]
  ·rw [if_neg e, h j hj (fun x => e x.symm)]
 ·rw [Array.getElem?_eq_none (show (vsC n T).size ≤ j by rw [vsC_size]; omega)]
  by_cases e : i = j
  ·omega
  ·rw [if_neg e, Array.getElem?_eq_none (by rw [vsC_size]; omega)]
/-- A slice of values of one cell each. -/
structure VsAt (w : World) (ab : Option Addr) (n : Nat) (S : Nat → Value) (gb ob : Nat) (bcs : Array Value) (tb : TypeId) : Prop where
 at' : n = 0 ∨ (ab = some ⟨gb, ob, none⟩ ∧ RowR w gb bcs tb ∧ ∀ i, i < n → bcs[ob + i * 1]? = some (S i))
theorem VsAt.below {w w2 : World} {ab : Option Addr} {n : Nat} {S : Nat → Value} {gb ob : Nat} {bcs : Array Value} {tb : TypeId} (h : VsAt w ab n S gb ob bcs tb) (hb : Below w.heap.size w w2) : VsAt w2 ab n S gb ob bcs tb :=
 ⟨h.at'.imp id fun ⟨h1, h2, h3⟩ => ⟨h1, h2.belowAll hb, h3⟩⟩
end Go.Proofs.Ytchiiphmpkmloaa
