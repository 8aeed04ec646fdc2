/- Bytes that a call has made: appended to, and out of a text. -/
import Derived.Test.YtnkpfcbcmfhjkaaSI
import Derived.Laws.AppendOwn
import Derived.Lib.ConvBytes
import Derived.Laws.IdiomCopy
namespace Go.Proofs.Ytnkpfcbcmfhjkaa
open Go.RowKit
set_option linter.unusedVariables false
/-- A slice of the call's own that holds bytes. (A row that came out of a text bears a mark behind its end.) -/
def OB (w : World) (base : Nat) (v : Value) (l : List UInt8) : Prop :=
 (v = .slice none 0 0 ∧ l = []) ∨ ∃ g cap cur fr, v = .slice (some ⟨g, 0, none⟩) l.length cap ∧ base ≤ g ∧ w.heap[g]? = some (.cells cur 5 fr) ∧ l.length ≤ cap ∧ cap ≤ maxLen ∧ cur.size = cap ∧
  (∀ j, j < l.length → cur[j]? = some (.int .u8 (bf l j : Nat))) ∧ (∀ k, k < cap → ¬ (fr.1 ≤ k ∧ k < fr.2))
theorem ob_nil (w : World) (base : Nat) : OB w base (.slice none 0 0) [] := .inl ⟨rfl, rfl⟩
theorem OB.lt {w : World} {base : Nat} {v : Value} {l : List UInt8} (h : OB w base v l) : ∀ k, v.ownBlock = some k → base ≤ k ∧ k < w.heap.size := by
 intro k hk
 rcases h with ⟨rfl, _⟩ | ⟨g, cap, cur, fr, rfl, hb, hg, _⟩
 ·simp [Value.ownBlock] at hk
 ·simp [Value.ownBlock] at hk
  subst hk
  exact ⟨hb, (Array.getElem?_eq_some_iff.1 hg).1⟩
theorem OB.kept {w w' : World} {base : Nat} {v : Value} {l : List UInt8} (h : OB w base v l) (hk : ∀ k, k < w.heap.size → v.ownBlock = some k → w'.heap[k]? = w.heap[k]?) : OB w' base v l := by
 rcases h with h | ⟨g, cap, cur, fr, rfl, hb, hg, rest⟩
 ·exact .inl h
 ·exact .inr ⟨g, cap, cur, fr, rfl, hb, (hk g (Array.getElem?_eq_some_iff.1 hg).1 rfl).trans hg, rest⟩
theorem OB.below {w w' : World} {base : Nat} {v : Value} {l : List UInt8} (h : OB w base v l) (hb : Below w.heap.size w w') : OB w' base v l := h.kept fun k hk _ => hb.block k hk
theorem OB.belowAll {w w' : World} {base : Nat} {v : Value} {l : List UInt8} (h : OB w base v l) (hb : Below w.heap.size w w') : OB w' base v l := h.below hb
theorem OB.alloc {w : World} {base : Nat} {v : Value} {l : List UInt8} (h : OB w base v l) (o : Obj) : OB (w.alloc o) base v l := h.kept fun k hk _ => Below.heap_alloc w o k hk
theorem OB.on {w w' : World} {S : List Nat} {base : Nat} {v : Value} {l : List UInt8} (h : OB w base v l) (hk : Kept S w w') (hS : ∀ k, v.ownBlock = some k → k ∉ S) : OB w' base v l := h.kept fun k hl hb => hk.block k hl (hS k hb)
/-- A row whatever of it is frozen, behind stores. -/
theorem setCells_fr {g : Nat} {t : TypeId} {fr : Nat × Nat} : ∀ (l : List Value) (w : World) (cs : Array Value) (off : Nat), w.heap[g]? = some (.cells cs t fr) → (w.setCells g off l).heap[g]? = some (.cells (putL cs off l) t fr)
 | [], w, cs, off, h => h
 | v :: l, w, cs, off, h => by
  unfold World.setCells putL
  refine setCells_fr l _ _ (off + 1) ?_
  simp [World.setCell, Array.getElem?_modify, h]
theorem frozen_out {w : World} {g k : Nat} {cs : Array Value} {t : TypeId} {fr : Nat × Nat} (h : w.heap[g]? = some (.cells cs t fr)) (hk : ¬ (fr.1 ≤ k ∧ k < fr.2)) : w.frozen? ⟨g, k, none⟩ = false := by
 obtain ⟨lo, hi⟩ := fr
 simp only [World.frozen?, h, Bool.and_eq_false_iff, decide_eq_false_iff_not]
 simp only at hk
 omega
theorem bf_snoc (l s : List UInt8) (j : Nat) (h : j < (l ++ s).length) : bf (l ++ s) j = if j < l.length then bf l j else bf s (j - l.length) := by
 split
 ·rename_i hj; exact bf_left l s j hj
 ·rename_i hj
  rw [show j = l.length + (j - l.length) by omega, bf_right, Nat.add_sub_cancel_left]
/-- append of bytes. -/
theorem run_app (w : World) (ty : TypeId) (base : Nat) (v : Value) (l new : List UInt8) (hown : OB w base v l) (ad : Addr) (m c : Nat) (hm : new.length = m) (hnew : ∀ j, j < m → w.cell? (ad.add j) = some (.int .u8 (bf new j : Nat)))
  (hlen : l.length + m ≤ 140737488355328) (hbase : base ≤ w.heap.size) :
  ∃ v' w', (Builtin.append_ #[72, 72] ty #[v, .slice (some ad) m c]).run Try.prog w = .ok v' w' ∧ OB w' base v' (l ++ new) ∧ w.grownBy w' v.ownBlock := by
 subst hm
 obtain ⟨i, hi, hz, hs1, hb1⟩ := sinfo_b8
 have hnews : ∀ j u, (b8s new)[j]? = some u → w.cell? (ad.add j) = some u := by
  intro j u hu
  have hj : j < new.length := by
   rcases Nat.lt_or_ge j new.length with h | h
   ·exact h
   ·rw [List.getElem?_eq_none (by rw [b8s_length]; exact h)] at hu; cases hu
  rw [b8s_get _ _ hj] at hu
  rw [hnew j hj]; exact hu
 have hl : (b8s new).length = new.length * i.size := by rw [b8s_length, hs1, Nat.mul_one]
 have hll : (l ++ new).length = l.length + new.length := List.length_append
 have hmax : l.length + new.length ≤ maxLen := by unfold maxLen; omega
 rcases hown with ⟨rfl, rfl⟩ | ⟨g, cap, cur, fr, rfl, hbg, hg, hnc, hcm, hcs, hcell, hfr⟩
 ·obtain ⟨v', w', r1, r2, r3, r4⟩ := run_append_own (P := Try.prog) w base 72 ty 5 i (.int .u8 0) 1 1 Try.underlying72 hi hz hs1 hb1 rfl (by decide) (.slice none 0 0) 0 [] (World.ownsRow_nil _ _ _ _) ad new.length c (b8s new) (by rw [b8s_length, Nat.mul_one]) hnews (b8s_one new) (by simpa using hmax) (by simpa using hlen) hbase
  refine ⟨v', w', r1, ?_, r3⟩
  rw [List.nil_append]
  rcases r2.2 with ⟨rfl, h0⟩ | ⟨g, cap, cur, rfl, hb, hg, hle, hcm, hcs, htk⟩
  ·exact .inl ⟨rfl, List.length_eq_zero_iff.1 (by omega)⟩
  ·rw [Nat.zero_add] at hle
   refine .inr ⟨g, cap, cur, (0, 0), by rw [Nat.zero_add], hb, hg, hle, hcm, by omega, fun j hj => ?_, fun k _ => by simp⟩
   rw [List.nil_append, Nat.zero_add, Nat.mul_one] at htk
   rw [← Array.getElem?_toList, ← List.getElem?_take_of_lt hj, htk, b8s_get _ _ hj]
 ·by_cases hroom : l.length + new.length ≤ cap
  ·have hf := run_firstCells_some (P := Try.prog) w i.size new.length ad new.length c (b8s new) hl hnews
   have hst := run_storeCells_cells (P := Try.prog) g l.length (b8s new) 0 w (fun j hj => by
     rw [b8s_length] at hj
     rw [Nat.add_zero, cell_of_row w g _ cur 5 fr hg, Array.getElem?_eq_getElem (by omega)]; rfl)
    (fun j hj => by rw [b8s_length] at hj; exact frozen_out hg (hfr _ (by omega))) (b8s_one new)
   rw [Nat.add_zero] at hst
   have hadd : (⟨g, 0, none⟩ : Addr).add (l.length * 1) = ⟨g, l.length, none⟩ := by rw [Addr.add_mid]; simp
   refine ⟨.slice (some ⟨g, 0, none⟩) (l.length + new.length) cap, w.setCells g l.length (b8s new), ?_, ?_, ?_⟩
   ·rw [hs1] at hf
    simp [Builtin.append_, run_underlying Try.underlying72, sizeOf, typeInfo, hi, hs1, Builtin.lenOf, hroom, hf]
    rw [show (⟨g, 0, none⟩ : Addr).add l.length = ⟨g, l.length, none⟩ by rw [Addr.add_mid]; simp, hst]
    rfl
   ·refine .inr ⟨g, cap, putL cur l.length (b8s new), fr, by rw [hll], hbg, setCells_fr _ _ _ _ hg, by omega, hcm, by rw [putL_size]; exact hcs, fun j hj => ?_, hfr⟩
    rw [putL_get _ _ _ _ (by rw [b8s_length]; omega), b8s_length, bf_snoc l new j hj]
    by_cases h : j < l.length
    ·rw [if_neg (by omega), if_pos h, hcell j h]
    ·rw [if_pos (by omega), if_neg h, b8s_get _ _ (by omega)]
   ·have ho := only_setCells g (b8s new) w l.length
    exact ⟨ho.os, ho.tape, ho.output, by rw [ho.size]; exact Nat.le_refl _, fun k _ hk => ho.block k fun e => hk (by rw [e]; rfl)⟩
  ·have holds : ∀ j u, (b8s l)[j]? = some u → w.cell? ((⟨g, 0, none⟩ : Addr).add j) = some u := by
    intro j u hu
    have hj : j < l.length := by
     rcases Nat.lt_or_ge j l.length with h | h
     ·exact h
     ·rw [List.getElem?_eq_none (by rw [b8s_length]; exact h)] at hu; cases hu
    rw [b8s_get _ _ hj] at hu
    rw [Addr.add_mid, Nat.zero_add, cell_of_row w g _ cur 5 fr hg, hcell j hj]
    exact hu
   have hr := run_append_grow (P := Try.prog) w 72 ty 5 i (.int .u8 0) Try.underlying72 hi hz ⟨g, 0, none⟩ l.length cap (b8s l) (by rw [b8s_length, hs1, Nat.mul_one]) holds ad new.length c (b8s new) hl hnews (by omega) (by omega) (growslice_fits (by omega) (by rw [hb1]; omega))
   have hge := grownCap_ge w (l.length + new.length) cap 5
   have hcm2 : grownCap w (l.length + new.length) cap 5 ≤ maxLen := grownCap_le_maxLen w _ cap _ hmax
   refine ⟨_, _, hr, .inr ⟨w.heap.size, _, _, (0, 0), by rw [hll], hbase, heap_alloc_new w.drew _, by omega, hcm2, ?_, fun j hj => ?_, fun k _ => by simp⟩, ⟨rfl, rfl, rfl, by simp, fun k hk _ => Below.heap_alloc w.drew _ k hk⟩⟩
   ·simp only [Array.size_append, List.size_toArray, size_zeroCells, b8s_length, show (Value.int IntKind.u8 0).cells.size = 1 from rfl]
    omega
   ·rw [bf_snoc l new j hj]
    rw [hll] at hj
    have hs : ((b8s l).toArray ++ (b8s new).toArray).size = l.length + new.length := by simp [b8s_length]
    rw [Array.getElem?_append_left (by rw [hs]; exact hj)]
    by_cases h : j < l.length
    ·rw [if_pos h, Array.getElem?_append_left (by simp [b8s_length]; exact h), List.getElem?_toArray, b8s_get _ _ h]
    ·rw [if_neg h, Array.getElem?_append_right (by simp [b8s_length]; omega), List.size_toArray, b8s_length, List.getElem?_toArray, b8s_get _ _ (by omega)]
section
variable {ops : Array Oper} {Q : Exit → Act → World → Prop} {rest : List Oper} {o : Oper} {a : Act} {w : World}
theorem pw_app (hw : Region.wanted o (yielded ops a.tmps) = true) (s x : Operand) (ho : o.op = .call { callee := .builtin .append, args := #[s, x], argTypes := #[72, 72] }) (base : Nat) (v : Value) (l new : List UInt8) (hs : a.eval s = v) (hown : OB w base v l)
  (ad : Addr) (m c : Nat) (hx : a.eval x = .slice (some ad) m c) (hm : new.length = m) (hnew : ∀ j, j < m → w.cell? (ad.add j) = some (.int .u8 (bf new j : Nat))) (hlen : l.length + m ≤ 140737488355328) (hbase : base ≤ w.heap.size)
  (h : ∀ v' w', OB w' base v' (l ++ new) → w.grownBy w' v.ownBlock → PW Try.prog ops Q rest (a.put o.dst v') w') : PW Try.prog ops Q (o :: rest) a w := by
 obtain ⟨v', w', hr, h2, h3⟩ := run_app w o.type base v l new hown ad m c hm hnew hlen hbase
 refine pw_run hw v' w' ?_ (h v' w' h2 h3)
 unfold execOp
 simp only [ho, resolve, invoke, builtin, Sem.run_bind, Sem.run_pure, Result.andThen_ok, List.map_toArray, List.map_cons, List.map_nil, hs, hx, hr]
theorem pw_conv (hw : Region.wanted o (yielded ops a.tmps) = true) (x : Operand) (ho : o.op = .convert 9 72 x) (l : List UInt8) (hx : a.eval x = .string ⟨l.toArray⟩) (base : Nat) (hbase : base ≤ w.heap.size) (hl : l.length ≤ maxLen)
  (h : ∀ v' w', OB w' base v' l → Below w.heap.size w w' → PW Try.prog ops Q rest (a.put o.dst v') w') : PW Try.prog ops Q (o :: rest) a w := by
 have hs : (⟨l.toArray⟩ : ByteArray).size = l.length := by simp [ByteArray.size]
 have hr := Lib.run_convert_string_bytes (P := Try.prog) w 9 72 5 ⟨l.toArray⟩ Try.underlying9 Try.underlying72 Try.underlying5
 have hge := grownCap_ge w l.length 0 5
 have hcs : (Lib.bytesCells w 5 ⟨l.toArray⟩).size = grownCap w l.length 0 5 := by
  unfold Lib.bytesCells
  rw [hs]
  simp
  omega
 refine pw_run hw _ _ ?_ (h (.slice (some ⟨w.heap.size, 0, none⟩) l.length (grownCap w l.length 0 5)) (Lib.bytesWorld w 5 ⟨l.toArray⟩) (.inr ⟨w.heap.size, _, _, _, rfl, hbase, Lib.bytesWorld_at_new w _ _, hge, grownCap_le_maxLen w _ _ _ hl, hcs, fun j hj => ?_, fun k hk => ?_⟩) ?_)
 ·unfold execOp
  simp only [ho, hx, Sem.run_bind, hr, Result.andThen_ok, hs]
  rfl
 ·have := Lib.bytesWorld_cell w 5 ⟨l.toArray⟩ j (by rw [hs]; exact hj)
  rw [cell_of_row _ _ _ _ _ _ (Lib.bytesWorld_at_new w _ _)] at this
  exact this
 ·rw [hcs]
  simp only
  omega
 ·refine ⟨rfl, rfl, rfl, by rw [Lib.bytesWorld_size]; omega, fun k hk => Lib.bytesWorld_at_old w _ _ k hk⟩
/-- One byte, or two, as a slice. -/
theorem pw_lit1 (hw : Region.wanted o (yielded ops a.tmps) = true) (x : Operand) (ho : o.op = .buildSlice 72 1 #[(0, x)]) (n : Nat) (hx : a.eval x = .int .u8 (n : Nat))
  (h : PW Try.prog ops Q rest (a.put o.dst (.slice (some ⟨w.heap.size, 0, none⟩) 1 1)) (w.alloc (.cells #[.int .u8 (n : Nat)] 5))) : PW Try.prog ops Q (o :: rest) a w := by
 obtain ⟨i, hi, hz, hs1, hb1⟩ := sinfo_b8
 exact pw_lits hw 72 5 1 _ ho #[.int .u8 (n : Nat)] i (.int .u8 0) Try.underlying72 hi hz (by rw [hs1]; decide) (by rw [hs1]; decide) [(0, .int .u8 (n : Nat))] (by show [(0, a.eval x)] = _; rw [hx]) (by rw [hs1]; kernel_rfl) h
end
end Go.Proofs.Ytnkpfcbcmfhjkaa
/- The document's padded. -/
namespace Go.Proofs.Ytnkpfcbcmfhjkaa
open Go.RowKit
set_option linter.unusedVariables false
theorem OB.form {w : World} {base : Nat} {v : Value} {l : List UInt8} (h : OB w base v l) : ∃ q c, v = .slice q l.length c := by
 rcases h with ⟨rfl, rfl⟩ | ⟨g, cap, cur, fr, rfl, _⟩
 ·exact ⟨none, 0, rfl⟩
 ·exact ⟨_, _, rfl⟩
theorem bnew_one (w : World) (n : Nat) (b : UInt8) (h : b.toNat = n) (t : TypeId) : ∀ j, j < 1 → (w.alloc (.cells #[.int .u8 (n : Nat)] t)).cell? ((⟨w.heap.size, 0, none⟩ : Addr).add j) = some (.int .u8 (bf [b] j : Nat)) := by
 intro j hj
 obtain rfl : j = 0 := by omega
 subst h
 rw [Addr.add_mid, (Row.new w _ _).cell]
 rfl
theorem OB.grown {B : Nat} {a w w' : World} {base : Nat} {v : Value} {l : List UInt8} (hb : Below B a w) (hown : OB w base v l) (hg : w.grownBy w' v.ownBlock) (hB : B ≤ w.heap.size) (hbb : B ≤ base) : Below B a w' :=
 hb.grown hg hB fun k hk => Nat.le_trans hbb (hown.lt k hk).1
section
variable {P : Program} {o : Oper} {ρ : Operand → Value}
theorem xi_subZ (t : TypeId) (x y : Operand) (u : TypeId) (ho : o.op = .binOp .sub t x y u) (n m r : Int) (hx : ρ x = .int .i64 n) (hy : ρ y = .int .i64 m) (hr : n - m = r) (h1 : -9223372036854775808 ≤ r) (h2 : r < 9223372036854775808) (w : World) :
  (execOp ρ o).run P w = .ok (.value (.int .i64 r)) w := by
 subst hr
 unfold execOp
 simp only [ho, hx, hy]
 simp [go_sem]
 rw [IntKind.wrap_i64]
 omega
end
/-- The bytes so far: zeros, and the count. -/
def pz (l : List UInt8) (k : Nat) : List UInt8 := l ++ 128 :: List.replicate k 0
def pe (l : List UInt8) (i : Nat) : List UInt8 := l ++ 128 :: (List.replicate (zs l.length) 0 ++ (be8 (8 * l.length)).take i)
end Go.Proofs.Ytnkpfcbcmfhjkaa
