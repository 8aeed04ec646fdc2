/- A Hash as a row of 74 cells; slices of arrays and of texts; copy out of a text. -/
import Derived.Test.YtojobffihlmfgaaSH
import Derived.Laws.IdiomCopy
import Derived.Laws.MakeOwn
import Derived.Laws.AppendOwn
import Derived.Lib.ConvBytes
namespace Go.Proofs.Ytojobffihlmfgaa
open Go.RowKit
set_option linter.unusedVariables false
/-- A Hash's cells. -/
def hv (q : Bool) (v B : Nat → Nat) (c : Nat) (i : Nat) : Value :=
 if i = 0 then .bool q else if i < 9 then .int .u32 (v (i - 1) : Nat) else if i < 73 then .int .u8 (B (i - 9) : Nat) else .int .u64 c
def hC (q : Bool) (v B : Nat → Nat) (c : Nat) : Array Value := Array.ofFn (n := 74) fun i => hv q v B c i
/-- Bytes as cells. -/
def b8s (l : List UInt8) : List Value := l.map fun b => .int .u8 (b.toNat : Int)
theorem b8s_length (l : List UInt8) : (b8s l).length = l.length := by simp [b8s]
theorem b8s_get (l : List UInt8) (j : Nat) (h : j < l.length) : (b8s l)[j]? = some (.int .u8 (bf l j : Nat)) := by
 unfold b8s bf
 rw [List.getElem?_map, List.getD_eq_getElem?_getD, List.getElem?_eq_getElem h]
 rfl
theorem b8s_one (l : List UInt8) : ∀ x ∈ b8s l, x.oneCell' = true := by
 intro x hx
 obtain ⟨b, _, rfl⟩ := List.mem_map.1 hx
 rfl
/-- What a copy into the block leaves there. -/
def cpB (B : Nat → Nat) (F : Nat) (l : List UInt8) (i : Nat) : Nat := if F ≤ i ∧ i < F + l.length then bf l (i - F) else B i
section
variable {P : Program} {o : Oper} {ρ : Operand → Value}
end
section
variable {P : Program} {olds : Olds} {p : Nat → Nat} {W : World} {F : Act → Ct → Prop} {n : Nat} {l : List Oper} {pl : List Sp} {a : Act} {ct : Ct} {o : Oper}
/-- An operation that yields a value and fills a row. -/
theorem mx_fillv (k : Nat) (c : Array Value) (v : Value) {t : TypeId} {old : Array Value} (hct : ct k = some (t, old)) (hst : ∀ w, Row w (addrOf olds p k) old t → ∃ w2, (execOp a.eval o).run P w = .ok (.value v) w2 ∧ Row w2 (addrOf olds p k) c t ∧ Only (addrOf olds p k) w w2)
  (h : MX P olds p W F (n + 1) l pl (a.put o.dst v) (ctSet ct k (t, c))) : MX P olds p W F n (o :: l) ((fun _ => v, [], none, [(k, c)]) :: pl) a ct := by
 refine ⟨⟨⟨.inl ⟨v, rfl⟩, fun x hx => ?_, fun w hk hrw => ?_⟩, ?_⟩⟩
 ·obtain rfl : x = (k, c) := List.mem_singleton.1 hx
  exact ⟨_, hct⟩
 ·obtain ⟨w2, hr, r2, ho⟩ := hst w (hrw k (List.mem_append_right _ (List.mem_singleton.2 rfl)) _ hct)
  rw [hr]
  refine ⟨ho.os, ho.tape, ho.output, by rw [ho.size]; exact Nat.le_refl _, fun b _ hne => ho.block b (hne (k, c) (List.mem_singleton.2 rfl)), fun x hx y hy => ?_, .inl ⟨rfl, rfl⟩⟩
  obtain rfl : x = (k, c) := List.mem_singleton.1 hx
  obtain rfl : (t, old) = y := Option.some.inj (hct.symm.trans hy)
  exact r2
 ·rw [spC_put n _ _ k c ct hct]; exact h.out
theorem run_copy_str (w : World) (dT sT ty e : TypeId) (g off m cap : Nat) (L : List UInt8) (hd : P.underlying dT = some (.slice e)) (hz : ∀ w, (sizeOf e).run P w = .ok 1 w) (n : Nat) (hn : min L.length m = n)
  (hth : w.there g off n) : (Builtin.copy_ #[dT, sT] ty #[.slice (some ⟨g, off, none⟩) m cap, .string ⟨L.toArray⟩]).run P w = .ok (goInt n) (w.setCells g off (b8s (L.take n))) := by
 have hs : (⟨L.toArray⟩ : ByteArray).size = L.length := by simp [ByteArray.size]
 have hle : n ≤ L.length := by omega
 have hcells : ((⟨L.toArray⟩ : ByteArray).extract 0 n).data.map (fun b => Value.int .u8 (b.toNat : Int)) = (b8s (L.take n)).toArray := by
  rw [ByteArray.data_extract]
  simp [b8s]
 have hlen : (b8s (L.take n)).length = n := by rw [b8s_length, List.length_take]; omega
 have hst := run_storeCells_cells (P := P) g off (b8s (L.take n)) 0 w (fun j hj => (hth j (by omega)).1) (fun j hj => (hth j (by omega)).2) (b8s_one _)
 rw [Nat.add_zero] at hst
 have hmin : Nat.min (⟨L.toArray⟩ : ByteArray).size m = n := by rw [hs]; exact hn
 simp only [Builtin.copy_, List.getElem?_toArray, List.getElem?_cons_zero, List.getElem?_cons_succ]
 simp only [Sem.run_bind, run_underlying hd, Result.andThen_ok, Builtin.lenOf, Sem.run_pure, hz, Builtin.firstCells, hmin, hcells, hst]
/-- copy out of a text into a row. -/
theorem mx_copyS (k : Nat) (d s : Operand) (dT sT e : TypeId) (ho : o.op = .call { callee := .builtin .copy, args := #[d, s], argTypes := #[dT, sT] }) (hud : P.underlying dT = some (.slice e)) (hz : ∀ w, (sizeOf e).run P w = .ok 1 w)
  (off m cap : Nat) {t : TypeId} {old : Array Value} (hct : ct k = some (t, old)) (hx : a.eval d = .slice (some ⟨addrOf olds p k, off, none⟩) m cap) (L : List UInt8) (hy : a.eval s = .string ⟨L.toArray⟩) (q : Nat) (hq : min L.length m = q)
  (hold : off + q ≤ old.size) (c : Array Value) (hc : putL old off (b8s (L.take q)) = c)
  (h : MX P olds p W F (n + 1) l pl (a.put o.dst (.int .i64 (q : Nat))) (ctSet ct k (t, c))) : MX P olds p W F n (o :: l) ((fun _ => .int .i64 (q : Nat), [], none, [(k, c)]) :: pl) a ct := by
 subst hc
 refine mx_fillv k _ (.int .i64 (q : Nat)) hct (fun w hr => ⟨w.setCells (addrOf olds p k) off (b8s (L.take q)), ?_, Row.setCells _ _ hr, only_setCells _ _ _ _⟩) h
 have := run_copy_str (P := P) w dT sT o.type e (addrOf olds p k) off m cap L hud hz q hq (there_of_row hr off q hold)
 unfold execOp
 simp only [ho]
 simp [resolve, invoke, builtin, hx, hy, this, goInt]
end
end Go.Proofs.Ytojobffihlmfgaa
/- A Hash's filled and Add. -/
namespace Go.Proofs.Ytojobffihlmfgaa
open Go.RowKit
set_option linter.unusedVariables false
/-- The block holds what stands behind the full blocks of a text. -/
structure HS (l : List UInt8) (B : Nat → Nat) : Prop where
 b : ∀ i, i < l.length % 64 → B i = bf l (64 * (l.length / 64) + i)
 lt : ∀ i, B i < 256
end Go.Proofs.Ytojobffihlmfgaa
/- sha's New, closing, a Hash's Sum, and Sum. -/
namespace Go.Proofs.Ytojobffihlmfgaa
open Go.RowKit
set_option linter.unusedVariables false
theorem sinfo_b8 : ∃ i, Try.prog.info? 5 = some i ∧ i.zero = some (.int .u8 0) ∧ i.size = 1 ∧ i.bytes = 1 := by
 have h : (Try.prog.info? 5).map (fun i => (i.zero, i.size, i.bytes)) = some (some (.int .u8 0), 1, 1) := by kernel_rfl
 cases hq : Try.prog.info? 5 with
 | none => simp [hq] at h
 | some i =>
  simp [hq] at h
  exact ⟨i, rfl, h.1, h.2.1, h.2.2⟩
theorem made_b8 (n : Nat) : madeCells #[.int .u8 0] n = rC .u8 n fun _ => 0 := by
 apply Array.ext_getElem?
 intro i
 by_cases hi : i < n
 ·rw [rC_get _ _ _ _ hi]
  unfold madeCells
  simp [hi, Nat.mod_one]
 ·rw [Array.getElem?_eq_none (by rw [size_madeCells]; omega), Array.getElem?_eq_none (by rw [rC_size]; omega)]
section
variable {P : Program} {olds : Olds} {p : Nat → Nat} {W : World} {F : Act → Ct → Prop} {n : Nat} {l : List Oper} {pl : List Sp} {a : Act} {ct : Ct} {o : Oper} {ρ : Operand → Value}
/-- Bytes that are made. -/
theorem mx_makeB (x y : Operand) (ho : o.op = .makeSlice 81 x y) (k : IntKind) (m : Nat) (hx : a.eval x = .int k m) (hy : a.eval y = .int k m) (hm : m ≤ 16777216)
  (h : MX Try.prog olds p W F (n + 1) l pl (a.put o.dst (.slice (some ⟨p n, 0, none⟩) m m)) (ctSet ct (2 * n + 1) (5, rC .u8 m fun _ => 0))) :
  MX Try.prog olds p W F n (o :: l) ((fun q => .slice (some ⟨q n, 0, none⟩) m m, [], some (5, rC .u8 m fun _ => 0), []) :: pl) a ct :=
 mx_made (fun g => .slice (some ⟨g, 0, none⟩) m m) 5 _ (fun w => by
  obtain ⟨i, h1, h2, h3, h4⟩ := sinfo_b8
  have hr := run_makeSlice (P := Try.prog) w 81 5 i (.int .u8 0) Try.underlying81 h1 h2 k k (m : Int) (m : Int) (by omega) (by omega) (by rw [Int.toNat_natCast, h3]; omega) (by rw [h4]; omega) (by omega)
  rw [Int.toNat_natCast, h3, Nat.mul_one, show (Value.int IntKind.u8 0).cells = #[.int .u8 0] from rfl, made_b8] at hr
  unfold execOp
  simp only [ho, hx, hy, Sem.run_bind, hr, Result.andThen_ok]
  rfl) h
/-- The place of an element. -/
theorem x_idxS (t : TypeId) (x y : Operand) (ho : o.op = .indexAddr t x y) (g off len cap : Nat) (hx : ρ x = .slice (some ⟨g, off, none⟩) len cap) (i : Nat) (hy : ρ y = .int .i64 i) (hi : i < len) (e : TypeId) (hu : P.underlying t = some (.slice e))
  (hz : ∀ w, (sizeOf e).run P w = .ok 1 w) (r : Nat) (hr : off + i = r) (w : World) : (execOp ρ o).run P w = .ok (.value (.pointer (some ⟨g, r, none⟩))) w := by
 subst hr
 have := exec_index_s (P := P) (o := o) t x y ho g off len cap hx i hy hi e hu 1 hz w
 rw [Nat.mul_one] at this
 exact this
/-- Bytes as a text. -/
theorem x_str (x : Operand) (ho : o.op = .convert 81 9 x) (g off cap n : Nat) (l : List UInt8) (hx : ρ x = .slice (some ⟨g, off, none⟩) n cap) (hn : l.length = n) {cs : Array Value} {t : TypeId} (w : World) (hr : RowR w g cs t)
  (hc : ∀ j, j < l.length → cs[off + j]? = some (.int .u8 (bf l j : Nat))) : (execOp ρ o).run Try.prog w = .ok (.value (.string ⟨l.toArray⟩)) w := by
 subst hn
 have h := run_convert_bytes_back (P := Try.prog) w 81 9 5 ⟨g, off, none⟩ cap l Try.underlying81 Try.underlying5 Try.underlying9 (fun j hj => by
  rw [Addr.add_mid, hr.cell, hc j hj]
  unfold bf
  rw [List.getD_eq_getElem?_getD, List.getElem?_eq_getElem hj]
  rfl)
 unfold execOp
 simp only [ho, hx, Sem.run_bind, h, Result.andThen_ok]
 rfl
end
end Go.Proofs.Ytojobffihlmfgaa
/- A Hash's Sum, and sha.Sum. -/
namespace Go.Proofs.Ytojobffihlmfgaa
open Go.RowKit
set_option linter.unusedVariables false
end Go.Proofs.Ytojobffihlmfgaa
/- Bytes that a call has made: appended to, and out of a text. -/
namespace Go.Proofs.Ytojobffihlmfgaa
open Go.RowKit
set_option linter.unusedVariables false
/-- A slice of the call's own that holds bytes. (A row that came out of a text bears a mark behind its end.) -/
def OB (w : World) (base : Nat) (v : Value) (l : List UInt8) : Prop :=
 (v = .slice none 0 0 ∧ l = []) ∨ ∃ g cap cur fr, v = .slice (some ⟨g, 0, none⟩) l.length cap ∧ base ≤ g ∧ w.heap[g]? = some (.cells cur 5 fr) ∧ l.length ≤ cap ∧ cap ≤ maxLen ∧ cur.size = cap ∧
  (∀ j, j < l.length → cur[j]? = some (.int .u8 (bf l j : Nat))) ∧ (∀ k, k < cap → ¬ (fr.1 ≤ k ∧ k < fr.2))
theorem ob_nil (w : World) (base : Nat) : OB w base (.slice none 0 0) [] := .inl ⟨rfl, rfl⟩
theorem OB.lt {w : World} {base : Nat} {v : Value} {l : List UInt8} (h : OB w base v l) : ∀ k, v.ownBlock = some k → base ≤ k ∧ k < w.heap.size := by
 intro k hk
 rcases h with ⟨rfl, _⟩ | ⟨g, cap, cur, fr, rfl, hb, hg, _⟩
 ·simp [Value.ownBlock] at hk
 ·simp [Value.ownBlock] at hk
  subst hk
  exact ⟨hb, (Array.getElem?_eq_some_iff.1 hg).1⟩
theorem OB.kept {w w' : World} {base : Nat} {v : Value} {l : List UInt8} (h : OB w base v l) (hk : ∀ k, k < w.heap.size → v.ownBlock = some k → w'.heap[k]? = w.heap[k]?) : OB w' base v l := by
 rcases h with h | ⟨g, cap, cur, fr, rfl, hb, hg, rest⟩
 ·exact .inl h
 ·exact .inr ⟨g, cap, cur, fr, rfl, hb, (hk g (Array.getElem?_eq_some_iff.1 hg).1 rfl).trans hg, rest⟩
theorem OB.below {w w' : World} {base : Nat} {v : Value} {l : List UInt8} (h : OB w base v l) (hb : Below w.heap.size w w') : OB w' base v l := h.kept fun k hk _ => hb.block k hk
theorem OB.belowAll {w w' : World} {base : Nat} {v : Value} {l : List UInt8} (h : OB w base v l) (hb : Below w.heap.size w w') : OB w' base v l := h.below hb
theorem OB.alloc {w : World} {base : Nat} {v : Value} {l : List UInt8} (h : OB w base v l) (o : Obj) : OB (w.alloc o) base v l := h.kept fun k hk _ => Below.heap_alloc w o k hk
theorem OB.on {w w' : World} {S : List Nat} {base : Nat} {v : Value} {l : List UInt8} (h : OB w base v l) (hk : Kept S w w') (hS : ∀ k, v.ownBlock = some k → k ∉ S) : OB w' base v l := h.kept fun k hl hb => hk.block k hl (hS k hb)
/-- A row whatever of it is frozen, behind stores. -/
theorem setCells_fr {g : Nat} {t : TypeId} {fr : Nat × Nat} : ∀ (l : List Value) (w : World) (cs : Array Value) (off : Nat), w.heap[g]? = some (.cells cs t fr) → (w.setCells g off l).heap[g]? = some (.cells (putL cs off l) t fr)
 | [], w, cs, off, h => h
 | v :: l, w, cs, off, h => by
  unfold World.setCells putL
  refine setCells_fr l _ _ (off + 1) ?_
  simp [World.setCell, Array.getElem?_modify, h]
theorem frozen_out {w : World} {g k : Nat} {cs : Array Value} {t : TypeId} {fr : Nat × Nat} (h : w.heap[g]? = some (.cells cs t fr)) (hk : ¬ (fr.1 ≤ k ∧ k < fr.2)) : w.frozen? ⟨g, k, none⟩ = false := by
 obtain ⟨lo, hi⟩ := fr
 simp only [World.frozen?, h, Bool.and_eq_false_iff, decide_eq_false_iff_not]
 simp only at hk
 omega
theorem bf_snoc (l s : List UInt8) (j : Nat) (h : j < (l ++ s).length) : bf (l ++ s) j = if j < l.length then bf l j else bf s (j - l.length) := by
 split
 ·rename_i hj; exact bf_left l s j hj
 ·rename_i hj
  rw [show j = l.length + (j - l.length) by omega, bf_right, Nat.add_sub_cancel_left]
/-- append of bytes. -/
theorem run_app (w : World) (ty : TypeId) (base : Nat) (v : Value) (l new : List UInt8) (hown : OB w base v l) (ad : Addr) (m c : Nat) (hm : new.length = m) (hnew : ∀ j, j < m → w.cell? (ad.add j) = some (.int .u8 (bf new j : Nat)))
  (hlen : l.length + m ≤ 140737488355328) (hbase : base ≤ w.heap.size) :
  ∃ v' w', (Builtin.append_ #[81, 81] ty #[v, .slice (some ad) m c]).run Try.prog w = .ok v' w' ∧ OB w' base v' (l ++ new) ∧ w.grownBy w' v.ownBlock := by
 subst hm
 obtain ⟨i, hi, hz, hs1, hb1⟩ := sinfo_b8
 have hnews : ∀ j u, (b8s new)[j]? = some u → w.cell? (ad.add j) = some u := by
  intro j u hu
  have hj : j < new.length := by
   rcases Nat.lt_or_ge j new.length with h | h
   ·exact h
   ·rw [List.getElem?_eq_none (by rw [b8s_length]; exact h)] at hu; cases hu
  rw [b8s_get _ _ hj] at hu
  rw [hnew j hj]; exact hu
 have hl : (b8s new).length = new.length * i.size := by rw [b8s_length, hs1, Nat.mul_one]
 have hll : (l ++ new).length = l.length + new.length := List.length_append
 have hmax : l.length + new.length ≤ maxLen := by unfold maxLen; omega
 rcases hown with ⟨rfl, rfl⟩ | ⟨g, cap, cur, fr, rfl, hbg, hg, hnc, hcm, hcs, hcell, hfr⟩
 ·obtain ⟨v', w', r1, r2, r3, r4⟩ := run_append_own (P := Try.prog) w base 81 ty 5 i (.int .u8 0) 1 1 Try.underlying81 hi hz hs1 hb1 rfl (by decide) (.slice none 0 0) 0 [] (World.ownsRow_nil _ _ _ _) ad new.length c (b8s new) (by rw [b8s_length, Nat.mul_one]) hnews (b8s_one new) (by simpa using hmax) (by simpa using hlen) hbase
  refine ⟨v', w', r1, ?_, r3⟩
  rw [List.nil_append]
  rcases r2.2 with ⟨rfl, h0⟩ | ⟨g, cap, cur, rfl, hb, hg, hle, hcm, hcs, htk⟩
  ·exact .inl ⟨rfl, List.length_eq_zero_iff.1 (by omega)⟩
  ·rw [Nat.zero_add] at hle
   refine .inr ⟨g, cap, cur, (0, 0), by rw [Nat.zero_add], hb, hg, hle, hcm, by omega, fun j hj => ?_, fun k _ => by simp⟩
   rw [List.nil_append, Nat.zero_add, Nat.mul_one] at htk
   rw [← Array.getElem?_toList, ← List.getElem?_take_of_lt hj, htk, b8s_get _ _ hj]
 ·by_cases hroom : l.length + new.length ≤ cap
  ·have hf := run_firstCells_some (P := Try.prog) w i.size new.length ad new.length c (b8s new) hl hnews
   have hst := run_storeCells_cells (P := Try.prog) g l.length (b8s new) 0 w (fun j hj => by
     rw [b8s_length] at hj
     rw [Nat.add_zero, cell_of_row w g _ cur 5 fr hg, Array.getElem?_eq_getElem (by omega)]; rfl)
    (fun j hj => by rw [b8s_length] at hj; exact frozen_out hg (hfr _ (by omega))) (b8s_one new)
   rw [Nat.add_zero] at hst
   have hadd : (⟨g, 0, none⟩ : Addr).add (l.length * 1) = ⟨g, l.length, none⟩ := by rw [Addr.add_mid]; simp
   refine ⟨.slice (some ⟨g, 0, none⟩) (l.length + new.length) cap, w.setCells g l.length (b8s new), ?_, ?_, ?_⟩
   ·rw [hs1] at hf
    simp [Builtin.append_, run_underlying Try.underlying81, sizeOf, typeInfo, hi, hs1, Builtin.lenOf, hroom, hf]
    rw [show (⟨g, 0, none⟩ : Addr).add l.length = ⟨g, l.length, none⟩ by rw [Addr.add_mid]; simp, hst]
    rfl
   ·refine .inr ⟨g, cap, putL cur l.length (b8s new), fr, by rw [hll], hbg, setCells_fr _ _ _ _ hg, by omega, hcm, by rw [putL_size]; exact hcs, fun j hj => ?_, hfr⟩
    rw [putL_get _ _ _ _ (by rw [b8s_length]; omega), b8s_length, bf_snoc l new j hj]
    by_cases h : j < l.length
    ·rw [if_neg (by omega), if_pos h, hcell j h]
    ·rw [if_pos (by omega), if_neg h, b8s_get _ _ (by omega)]
   ·have ho := only_setCells g (b8s new) w l.length
    exact ⟨ho.os, ho.tape, ho.output, by rw [ho.size]; exact Nat.le_refl _, fun k _ hk => ho.block k fun e => hk (by rw [e]; rfl)⟩
  ·have holds : ∀ j u, (b8s l)[j]? = some u → w.cell? ((⟨g, 0, none⟩ : Addr).add j) = some u := by
    intro j u hu
    have hj : j < l.length := by
     rcases Nat.lt_or_ge j l.length with h | h
     ·exact h
     ·rw [List.getElem?_eq_none (by rw [b8s_length]; exact h)] at hu; cases hu
    rw [b8s_get _ _ hj] at hu
    rw [Addr.add_mid, Nat.zero_add, cell_of_row w g _ cur 5 fr hg, hcell j hj]
    exact hu
   have hr := run_append_grow (P := Try.prog) w 81 ty 5 i (.int .u8 0) Try.underlying81 hi hz ⟨g, 0, none⟩ l.length cap (b8s l) (by rw [b8s_length, hs1, Nat.mul_one]) holds ad new.length c (b8s new) hl hnews (by omega) (by omega) (growslice_fits (by omega) (by rw [hb1]; omega))
   have hge := grownCap_ge w (l.length + new.length) cap 5
   have hcm2 : grownCap w (l.length + new.length) cap 5 ≤ maxLen := grownCap_le_maxLen w _ cap _ hmax
   refine ⟨_, _, hr, .inr ⟨w.heap.size, _, _, (0, 0), by rw [hll], hbase, heap_alloc_new w.drew _, by omega, hcm2, ?_, fun j hj => ?_, fun k _ => by simp⟩, ⟨rfl, rfl, rfl, by simp, fun k hk _ => Below.heap_alloc w.drew _ k hk⟩⟩
   ·simp only [Array.size_append, List.size_toArray, size_zeroCells, b8s_length, show (Value.int IntKind.u8 0).cells.size = 1 from rfl]
    omega
   ·rw [bf_snoc l new j hj]
    rw [hll] at hj
    have hs : ((b8s l).toArray ++ (b8s new).toArray).size = l.length + new.length := by simp [b8s_length]
    rw [Array.getElem?_append_left (by rw [hs]; exact hj)]
    by_cases h : j < l.length
    ·rw [if_pos h, Array.getElem?_append_left (by simp [b8s_length]; exact h), List.getElem?_toArray, b8s_get _ _ h]
    ·rw [if_neg h, Array.getElem?_append_right (by simp [b8s_length]; omega), List.size_toArray, b8s_length, List.getElem?_toArray, b8s_get _ _ (by omega)]
section
variable {ops : Array Oper} {Q : Exit → Act → World → Prop} {rest : List Oper} {o : Oper} {a : Act} {w : World}
theorem pw_app (hw : Region.wanted o (yielded ops a.tmps) = true) (s x : Operand) (ho : o.op = .call { callee := .builtin .append, args := #[s, x], argTypes := #[81, 81] }) (base : Nat) (v : Value) (l new : List UInt8) (hs : a.eval s = v) (hown : OB w base v l)
  (ad : Addr) (m c : Nat) (hx : a.eval x = .slice (some ad) m c) (hm : new.length = m) (hnew : ∀ j, j < m → w.cell? (ad.add j) = some (.int .u8 (bf new j : Nat))) (hlen : l.length + m ≤ 140737488355328) (hbase : base ≤ w.heap.size)
  (h : ∀ v' w', OB w' base v' (l ++ new) → w.grownBy w' v.ownBlock → PW Try.prog ops Q rest (a.put o.dst v') w') : PW Try.prog ops Q (o :: rest) a w := by
 obtain ⟨v', w', hr, h2, h3⟩ := run_app w o.type base v l new hown ad m c hm hnew hlen hbase
 refine pw_run hw v' w' ?_ (h v' w' h2 h3)
 unfold execOp
 simp only [ho, resolve, invoke, builtin, Sem.run_bind, Sem.run_pure, Result.andThen_ok, List.map_toArray, List.map_cons, List.map_nil, hs, hx, hr]
theorem pw_conv (hw : Region.wanted o (yielded ops a.tmps) = true) (x : Operand) (ho : o.op = .convert 9 81 x) (l : List UInt8) (hx : a.eval x = .string ⟨l.toArray⟩) (base : Nat) (hbase : base ≤ w.heap.size) (hl : l.length ≤ maxLen)
  (h : ∀ v' w', OB w' base v' l → Below w.heap.size w w' → PW Try.prog ops Q rest (a.put o.dst v') w') : PW Try.prog ops Q (o :: rest) a w := by
 have hs : (⟨l.toArray⟩ : ByteArray).size = l.length := by simp [ByteArray.size]
 have hr := Lib.run_convert_string_bytes (P := Try.prog) w 9 81 5 ⟨l.toArray⟩ Try.underlying9 Try.underlying81 Try.underlying5
 have hge := grownCap_ge w l.length 0 5
 have hcs : (Lib.bytesCells w 5 ⟨l.toArray⟩).size = grownCap w l.length 0 5 := by
  unfold Lib.bytesCells
  rw [hs]
  simp
  omega
 refine pw_run hw _ _ ?_ (h (.slice (some ⟨w.heap.size, 0, none⟩) l.length (grownCap w l.length 0 5)) (Lib.bytesWorld w 5 ⟨l.toArray⟩) (.inr ⟨w.heap.size, _, _, _, rfl, hbase, Lib.bytesWorld_at_new w _ _, hge, grownCap_le_maxLen w _ _ _ hl, hcs, fun j hj => ?_, fun k hk => ?_⟩) ?_)
 ·unfold execOp
  simp only [ho, hx, Sem.run_bind, hr, Result.andThen_ok, hs]
  rfl
 ·have := Lib.bytesWorld_cell w 5 ⟨l.toArray⟩ j (by rw [hs]; exact hj)
  rw [cell_of_row _ _ _ _ _ _ (Lib.bytesWorld_at_new w _ _)] at this
  exact this
 ·rw [hcs]
  simp only
  omega
 ·refine ⟨rfl, rfl, rfl, by rw [Lib.bytesWorld_size]; omega, fun k hk => Lib.bytesWorld_at_old w _ _ k hk⟩
/-- One byte, or two, as a slice. -/
theorem pw_lit1 (hw : Region.wanted o (yielded ops a.tmps) = true) (x : Operand) (ho : o.op = .buildSlice 81 1 #[(0, x)]) (n : Nat) (hx : a.eval x = .int .u8 (n : Nat))
  (h : PW Try.prog ops Q rest (a.put o.dst (.slice (some ⟨w.heap.size, 0, none⟩) 1 1)) (w.alloc (.cells #[.int .u8 (n : Nat)] 5))) : PW Try.prog ops Q (o :: rest) a w := by
 obtain ⟨i, hi, hz, hs1, hb1⟩ := sinfo_b8
 exact pw_lits hw 81 5 1 _ ho #[.int .u8 (n : Nat)] i (.int .u8 0) Try.underlying81 hi hz (by rw [hs1]; decide) (by rw [hs1]; decide) [(0, .int .u8 (n : Nat))] (by show [(0, a.eval x)] = _; rw [hx]) (by rw [hs1]; kernel_rfl) h
end
end Go.Proofs.Ytojobffihlmfgaa
/- The document's padded. -/
namespace Go.Proofs.Ytojobffihlmfgaa
open Go.RowKit
set_option linter.unusedVariables false
theorem OB.form {w : World} {base : Nat} {v : Value} {l : List UInt8} (h : OB w base v l) : ∃ q c, v = .slice q l.length c := by
 rcases h with ⟨rfl, rfl⟩ | ⟨g, cap, cur, fr, rfl, _⟩
 ·exact ⟨none, 0, rfl⟩
 ·exact ⟨_, _, rfl⟩
theorem bnew_one (w : World) (n : Nat) (b : UInt8) (h : b.toNat = n) (t : TypeId) : ∀ j, j < 1 → (w.alloc (.cells #[.int .u8 (n : Nat)] t)).cell? ((⟨w.heap.size, 0, none⟩ : Addr).add j) = some (.int .u8 (bf [b] j : Nat)) := by
 intro j hj
 obtain rfl : j = 0 := by omega
 subst h
 rw [Addr.add_mid, (Row.new w _ _).cell]
 rfl
theorem OB.grown {B : Nat} {a w w' : World} {base : Nat} {v : Value} {l : List UInt8} (hb : Below B a w) (hown : OB w base v l) (hg : w.grownBy w' v.ownBlock) (hB : B ≤ w.heap.size) (hbb : B ≤ base) : Below B a w' :=
 hb.grown hg hB fun k hk => Nat.le_trans hbb (hown.lt k hk).1
section
variable {P : Program} {o : Oper} {ρ : Operand → Value}
theorem xi_subZ (t : TypeId) (x y : Operand) (u : TypeId) (ho : o.op = .binOp .sub t x y u) (n m r : Int) (hx : ρ x = .int .i64 n) (hy : ρ y = .int .i64 m) (hr : n - m = r) (h1 : -9223372036854775808 ≤ r) (h2 : r < 9223372036854775808) (w : World) :
  (execOp ρ o).run P w = .ok (.value (.int .i64 r)) w := by
 subst hr
 unfold execOp
 simp only [ho, hx, hy]
 simp [go_sem]
 rw [IntKind.wrap_i64]
 omega
end
/-- The bytes so far: zeros, and the count. -/
def pz (l : List UInt8) (k : Nat) : List UInt8 := l ++ 128 :: List.replicate k 0
def pe (l : List UInt8) (i : Nat) : List UInt8 := l ++ 128 :: (List.replicate (zs l.length) 0 ++ (be8 (8 * l.length)).take i)
end Go.Proofs.Ytojobffihlmfgaa
