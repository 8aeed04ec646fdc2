/- A Hash as a row of 74 cells; slices of arrays and of texts; copy out of a text. -/
import Derived.Test.YtchiiphmpkmloaaSMixed
import Derived.Laws.IdiomCopy
namespace Go.Proofs.Ytchiiphmpkmloaa
open Go.RowKit
set_option linter.unusedVariables false
/-- A Hash's cells. -/
def hv (q : Bool) (v B : Nat → Nat) (c : Nat) (i : Nat) : Value :=
 if i = 0 then .bool q else if i < 9 then .int .u32 (v (i - 1) : Nat) else if i < 73 then .int .u8 (B (i - 9) : Nat) else .int .u64 c
def hC (q : Bool) (v B : Nat → Nat) (c : Nat) : Array Value := Array.ofFn (n := 74) fun i => hv q v B c i
theorem hC_size (q : Bool) (v B : Nat → Nat) (c : Nat) : (hC q v B c).size = 74 := by simp [hC]
theorem hC_get (q : Bool) (v B : Nat → Nat) (c i : Nat) (h : i < 74) : (hC q v B c)[i]? = some (hv q v B c i) := by simp [hC, h]
theorem hC_ext {q : Bool} {v B : Nat → Nat} {c : Nat} {a : Array Value} (hs : a.size = 74) (h : ∀ i, i < 74 → a[i]? = some (hv q v B c i)) : a = hC q v B c := by
 apply Array.ext_getElem?
 intro i
 by_cases hi : i < 74
 ·rw [h i hi, hC_get _ _ _ _ _ hi]
 ·rw [Array.getElem?_eq_none (by omega), Array.getElem?_eq_none (by rw [hC_size]; omega)]
theorem hC_one (q : Bool) (v B : Nat → Nat) (c : Nat) : (hC q v B c).all (·.oneCell') = true := by
 rw [Array.all_eq_true]
 intro i hi
 have : (hC q v B c)[i] = hv q v B c i := by simp [hC]
 rw [this]
 unfold hv
 split
 ·rfl
 ·split
  ·rfl
  ·split <;> rfl
theorem hC_congr {q : Bool} {v v' B B' : Nat → Nat} {c : Nat} (hvv : ∀ i, i < 8 → v i = v' i) (hb : ∀ i, i < 64 → B i = B' i) : hC q v B c = hC q v' B' c := by
 refine hC_ext (hC_size _ _ _ _) fun i hi => ?_
 rw [hC_get _ _ _ _ _ hi]
 unfold hv
 by_cases h0 : i = 0
 ·rw [if_pos h0, if_pos h0]
 rw [if_neg h0, if_neg h0]
 by_cases h1 : i < 9
 ·rw [if_pos h1, if_pos h1, hvv _ (by omega)]
 rw [if_neg h1, if_neg h1]
 by_cases h2 : i < 73
 ·rw [if_pos h2, if_pos h2, hb _ (by omega)]
 ·rw [if_neg h2, if_neg h2]
theorem hC_w (q : Bool) (v B : Nat → Nat) (c : Nat) : ∀ j x, (rC .u32 8 v).toList[j]? = some x → (hC q v B c)[1 + j]? = some x := by
 intro j x hx
 have hj : j < 8 := by
  rcases Nat.lt_or_ge j 8 with h | h
  ·exact h
  ·rw [List.getElem?_eq_none (by rw [Array.length_toList, rC_size]; exact h)] at hx; cases hx
 rw [Array.getElem?_toList, rC_get _ _ _ _ hj] at hx
 rw [hC_get _ _ _ _ _ (by omega), ← hx]
 unfold hv
 rw [if_neg (by omega), if_pos (by omega), Nat.add_sub_cancel_left]
theorem hC_b (q : Bool) (v B : Nat → Nat) (c : Nat) : ∀ j x, (rC .u8 64 B).toList[j]? = some x → (hC q v B c)[9 + j]? = some x := by
 intro j x hx
 have hj : j < 64 := by
  rcases Nat.lt_or_ge j 64 with h | h
  ·exact h
  ·rw [List.getElem?_eq_none (by rw [Array.length_toList, rC_size]; exact h)] at hx; cases hx
 rw [Array.getElem?_toList, rC_get _ _ _ _ hj] at hx
 rw [hC_get _ _ _ _ _ (by omega), ← hx]
 unfold hv
 rw [if_neg (by omega), if_neg (by omega), if_pos (by omega), Nat.add_sub_cancel_left]
theorem hC_word (q : Bool) (v B : Nat → Nat) (c k : Nat) (h : k < 8) : (hC q v B c)[1 + k]? = some (.int .u32 (v k : Nat)) := by
 rw [hC_get _ _ _ _ _ (by omega)]; unfold hv; rw [if_neg (by omega), if_pos (by omega), Nat.add_sub_cancel_left]
theorem hC_all (q : Bool) (v B : Nat → Nat) (c : Nat) : ∀ j x, (hC q v B c).toList[j]? = some x → (hC q v B c)[0 + j]? = some x := by
 intro j x hx
 rw [Nat.zero_add, ← Array.getElem?_toList]; exact hx
theorem hC_putw (q : Bool) (v v' B : Nat → Nat) (c : Nat) : putL (hC q v B c) 1 (rC .u32 8 v').toList = hC q v' B c := by
 have hl : (rC .u32 8 v').toList.length = 8 := by rw [Array.length_toList, rC_size]
 refine hC_ext (by rw [putL_size, hC_size]) fun i hi => ?_
 rw [putL_get _ _ _ _ (by rw [hl, hC_size]; omega), hl]
 by_cases h : 1 ≤ i ∧ i < 1 + 8
 ·rw [if_pos h, Array.getElem?_toList, rC_get _ _ _ _ (by omega)]
  unfold hv
  rw [if_neg (by omega), if_pos (by omega)]
 ·rw [if_neg h, hC_get _ _ _ _ _ hi]
  unfold hv
  by_cases h0 : i = 0
  ·rw [if_pos h0, if_pos h0]
  ·rw [if_neg h0, if_neg h0, if_neg (show ¬ i < 9 by omega), if_neg (show ¬ i < 9 by omega)]
theorem hC_putc (q : Bool) (v B : Nat → Nat) (c d : Nat) : (hC q v B c).setIfInBounds 73 (.int .u64 (d : Nat)) = hC q v B d := by
 refine hC_ext (by rw [Array.size_setIfInBounds, hC_size]) fun i hi => ?_
 rw [Array.getElem?_setIfInBounds]
 by_cases h : 73 = i
 ·subst h
  rw [if_pos rfl, if_pos (by rw [hC_size]; omega)]
  rfl
 ·rw [if_neg h, hC_get _ _ _ _ _ hi]
  unfold hv
  by_cases h0 : i = 0
  ·rw [if_pos h0, if_pos h0]
  ·rw [if_neg h0, if_neg h0]
   by_cases h1 : i < 9
   ·rw [if_pos h1, if_pos h1]
   ·rw [if_neg h1, if_neg h1, if_pos (by omega), if_pos (by omega)]
/-- Bytes as cells. -/
def b8s (l : List UInt8) : List Value := l.map fun b => .int .u8 (b.toNat : Int)
theorem b8s_length (l : List UInt8) : (b8s l).length = l.length := by simp [b8s]
theorem b8s_get (l : List UInt8) (j : Nat) (h : j < l.length) : (b8s l)[j]? = some (.int .u8 (bf l j : Nat)) := by
 unfold b8s bf
 rw [List.getElem?_map, List.getD_eq_getElem?_getD, List.getElem?_eq_getElem h]
 rfl
theorem b8s_one (l : List UInt8) : ∀ x ∈ b8s l, x.oneCell' = true := by
 intro x hx
 obtain ⟨b, _, rfl⟩ := List.mem_map.1 hx
 rfl
/-- What a copy into the block leaves there. -/
def cpB (B : Nat → Nat) (F : Nat) (l : List UInt8) (i : Nat) : Nat := if F ≤ i ∧ i < F + l.length then bf l (i - F) else B i
theorem hC_copy (q : Bool) (v B : Nat → Nat) (c F : Nat) (l : List UInt8) (h : F + l.length ≤ 64) : putL (hC q v B c) (9 + F) (b8s l) = hC q v (cpB B F l) c := by
 refine hC_ext (by rw [putL_size, hC_size]) fun i hi => ?_
 rw [putL_get _ _ _ _ (by rw [b8s_length, hC_size]; omega), b8s_length]
 unfold hv cpB
 by_cases h1 : 9 + F ≤ i ∧ i < 9 + F + l.length
 ·rw [if_pos h1, b8s_get _ _ (by omega), if_neg (by omega), if_neg (by omega), if_pos (by omega), if_pos (by omega), show i - 9 - F = i - (9 + F) by omega]
 ·rw [if_neg h1, hC_get _ _ _ _ _ hi]
  unfold hv
  by_cases h0 : i = 0
  ·rw [if_pos h0, if_pos h0]
  rw [if_neg h0, if_neg h0]
  by_cases h2 : i < 9
  ·rw [if_pos h2, if_pos h2]
  rw [if_neg h2, if_neg h2]
  by_cases h3 : i < 73
  ·rw [if_pos h3, if_pos h3, if_neg (by omega)]
  ·rw [if_neg h3, if_neg h3]
section
variable {P : Program} {o : Oper} {ρ : Operand → Value}
/-- A part of an array, as a slice. -/
theorem x_sliceA (t e : TypeId) (x lo : Operand) (n : Nat) (hu : P.underlying t = some (.array n e)) (hz : ∀ w, (sizeOf e).run P w = .ok 1 w) (ho : o.op = .slice t x (some lo) none none) (g off l : Nat) (hx : ρ x = .pointer (some ⟨g, off, none⟩)) (hl : ρ lo = .int .i64 l)
  (hn : l < n) (w : World) : (execOp ρ o).run P w = .ok (.value (.slice (some ⟨g, off + l, none⟩) (n - l) (n - l))) w := by
 have hA : P.arrayLen t = n := by simp [Program.arrayLen, hu]
 have hE : P.elem t = e := by simp [Program.elem, hu]
 have hr := run_sliceAt_array_l (P := P) w t ⟨g, off, none⟩ (by rw [hA, hE]; exact hu) .i64 l (by omega) (by rw [hA]; omega)
 unfold execOp
 simp only [ho, hx, hl, Option.map_some, Option.map_none, Sem.run_bind]
 rw [hr, hA, hE, hz]
 unfold slicedAt
 simp only [Int.toNat_natCast, Result.andThen_ok]
 rw [if_neg (by omega), Nat.mul_one, Addr.add_mid]
 rfl
theorem x_sliceAll (t e : TypeId) (x : Operand) (n : Nat) (hu : P.underlying t = some (.array n e)) (hz : ∀ w, (sizeOf e).run P w = .ok 1 w) (ho : o.op = .slice t x none none none) (g off : Nat) (hx : ρ x = .pointer (some ⟨g, off, none⟩))
  (hn : 0 < n) (w : World) : (execOp ρ o).run P w = .ok (.value (.slice (some ⟨g, off, none⟩) n n)) w := by
 have hA : P.arrayLen t = n := by simp [Program.arrayLen, hu]
 have hE : P.elem t = e := by simp [Program.elem, hu]
 have hr := run_sliceAt_array_all (P := P) w t ⟨g, off, none⟩ (by rw [hA, hE]; exact hu)
 unfold execOp
 simp only [ho, hx, Option.map_none, Sem.run_bind]
 rw [hr, hA, hE, hz]
 unfold slicedAt
 simp only [Result.andThen_ok]
 rw [if_neg (by omega), Nat.zero_mul, Addr.add_mid]
 rfl
theorem bytes_drop (l : List UInt8) (k : Nat) (h : k ≤ l.length) : (⟨l.toArray⟩ : ByteArray).extract k (⟨l.toArray⟩ : ByteArray).size = ⟨(l.drop k).toArray⟩ := by
 apply ByteArray.ext
 rw [ByteArray.data_extract]
 simp [ByteArray.size]
 exact List.take_of_length_le (by simp)
/-- The rest of a text. -/
theorem x_sliceS (t : TypeId) (x lo : Operand) (hu : P.underlying t = some .string) (ho : o.op = .slice t x (some lo) none none) (L : List UInt8) (l : Nat) (hx : ρ x = .string ⟨L.toArray⟩) (hl : ρ lo = .int .i64 l) (hn : l ≤ L.length) (w : World) :
  (execOp ρ o).run P w = .ok (.value (.string ⟨(L.drop l).toArray⟩)) w := by
 have hs : (⟨L.toArray⟩ : ByteArray).size = L.length := by simp [ByteArray.size]
 have h1 : (Instr.sliceAt t (.string ⟨L.toArray⟩) (some (.int .i64 l)) none none).run P w = .ok (.string ⟨(L.drop l).toArray⟩) w := by
  rw [run_sliceAt_string w t _ _ _ _ hu, run_slice_string_l w t ⟨L.toArray⟩ hu .i64 l (by omega) (by rw [hs]; omega), Int.toNat_natCast, bytes_drop L l hn]
 unfold execOp
 simp only [ho, hx, hl, Option.map_some, Option.map_none, Sem.run_bind, h1, Result.andThen_ok]
 rfl
end
section
variable {P : Program} {olds : Olds} {p : Nat → Nat} {W : World} {F : Act → Ct → Prop} {n : Nat} {l : List Oper} {pl : List Sp} {a : Act} {ct : Ct} {o : Oper}
theorem spC_putv (n : Nat) (f : (Nat → Nat) → Value) (r : List Nat) (k : Nat) (c : Array Value) (ct : Ct) {t : TypeId} {old : Array Value} (hct : ct k = some (t, old)) : spC n (f, r, none, [(k, c)]) ct = ctSet ct k (t, c) := spC_put n f r k c ct hct
/-- An operation that yields a value and fills a row. -/
theorem mx_fillv (k : Nat) (c : Array Value) (v : Value) {t : TypeId} {old : Array Value} (hct : ct k = some (t, old)) (hst : ∀ w, Row w (addrOf olds p k) old t → ∃ w2, (execOp a.eval o).run P w = .ok (.value v) w2 ∧ Row w2 (addrOf olds p k) c t ∧ Only (addrOf olds p k) w w2)
  (h : MX P olds p W F (n + 1) l pl (a.put o.dst v) (ctSet ct k (t, c))) : MX P olds p W F n (o :: l) ((fun _ => v, [], none, [(k, c)]) :: pl) a ct := by
 refine ⟨⟨⟨.inl ⟨v, rfl⟩, fun x hx => ?_, fun w hk hrw => ?_⟩, ?_⟩⟩
 ·obtain rfl : x = (k, c) := List.mem_singleton.1 hx
  exact ⟨_, hct⟩
 ·obtain ⟨w2, hr, r2, ho⟩ := hst w (hrw k (List.mem_append_right _ (List.mem_singleton.2 rfl)) _ hct)
  rw [hr]
  refine ⟨ho.os, ho.tape, ho.output, by rw [ho.size]; exact Nat.le_refl _, fun b _ hne => ho.block b (hne (k, c) (List.mem_singleton.2 rfl)), fun x hx y hy => ?_, .inl ⟨rfl, rfl⟩⟩
  obtain rfl : x = (k, c) := List.mem_singleton.1 hx
  obtain rfl : (t, old) = y := Option.some.inj (hct.symm.trans hy)
  exact r2
 ·rw [spC_put n _ _ k c ct hct]; exact h.out
theorem run_copy_str (w : World) (dT sT ty e : TypeId) (g off m cap : Nat) (L : List UInt8) (hd : P.underlying dT = some (.slice e)) (hz : ∀ w, (sizeOf e).run P w = .ok 1 w) (n : Nat) (hn : min L.length m = n)
  (hth : w.there g off n) : (Builtin.copy_ #[dT, sT] ty #[.slice (some ⟨g, off, none⟩) m cap, .string ⟨L.toArray⟩]).run P w = .ok (goInt n) (w.setCells g off (b8s (L.take n))) := by
 have hs : (⟨L.toArray⟩ : ByteArray).size = L.length := by simp [ByteArray.size]
 have hle : n ≤ L.length := by omega
 have hcells : ((⟨L.toArray⟩ : ByteArray).extract 0 n).data.map (fun b => Value.int .u8 (b.toNat : Int)) = (b8s (L.take n)).toArray := by
  rw [ByteArray.data_extract]
  simp [b8s]
 have hlen : (b8s (L.take n)).length = n := by rw [b8s_length, List.length_take]; omega
 have hst := run_storeCells_cells (P := P) g off (b8s (L.take n)) 0 w (fun j hj => (hth j (by omega)).1) (fun j hj => (hth j (by omega)).2) (b8s_one _)
 rw [Nat.add_zero] at hst
 have hmin : Nat.min (⟨L.toArray⟩ : ByteArray).size m = n := by rw [hs]; exact hn
 simp only [Builtin.copy_, List.getElem?_toArray, List.getElem?_cons_zero, List.getElem?_cons_succ]
 simp only [Sem.run_bind, run_underlying hd, Result.andThen_ok, Builtin.lenOf, Sem.run_pure, hz, Builtin.firstCells, hmin, hcells, hst]
/-- copy out of a text into a row. -/
theorem mx_copyS (k : Nat) (d s : Operand) (dT sT e : TypeId) (ho : o.op = .call { callee := .builtin .copy, args := #[d, s], argTypes := #[dT, sT] }) (hud : P.underlying dT = some (.slice e)) (hz : ∀ w, (sizeOf e).run P w = .ok 1 w)
  (off m cap : Nat) {t : TypeId} {old : Array Value} (hct : ct k = some (t, old)) (hx : a.eval d = .slice (some ⟨addrOf olds p k, off, none⟩) m cap) (L : List UInt8) (hy : a.eval s = .string ⟨L.toArray⟩) (q : Nat) (hq : min L.length m = q)
  (hold : off + q ≤ old.size) (c : Array Value) (hc : putL old off (b8s (L.take q)) = c)
  (h : MX P olds p W F (n + 1) l pl (a.put o.dst (.int .i64 (q : Nat))) (ctSet ct k (t, c))) : MX P olds p W F n (o :: l) ((fun _ => .int .i64 (q : Nat), [], none, [(k, c)]) :: pl) a ct := by
 subst hc
 refine mx_fillv k _ (.int .i64 (q : Nat)) hct (fun w hr => ⟨w.setCells (addrOf olds p k) off (b8s (L.take q)), ?_, Row.setCells _ _ hr, only_setCells _ _ _ _⟩) h
 have := run_copy_str (P := P) w dT sT o.type e (addrOf olds p k) off m cap L hud hz q hq (there_of_row hr off q hold)
 unfold execOp
 simp only [ho]
 simp [resolve, invoke, builtin, hx, hy, this, goInt]
end
end Go.Proofs.Ytchiiphmpkmloaa
