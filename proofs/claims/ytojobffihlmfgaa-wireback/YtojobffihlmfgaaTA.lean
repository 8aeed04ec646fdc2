/- Slices that a call makes for itself by append: of any elements, of naturals, of ints. -/
import Derived.Test.YtojobffihlmfgaaGWalk
import Derived.Test.YtojobffihlmfgaaGS
import Derived.Test.YtojobffihlmfgaaGT
import Derived.Laws.AppendOwn
import Derived.Laws.MakeOwn
namespace Go.Proofs.Ytojobffihlmfgaa
open Go.RowKit
set_option linter.unusedVariables false
theorem own_on {w w' : World} {S : List Nat} {base : Nat} {e : TypeId} {k : Nat} {v : Value} {n : Nat} {xs : List Value} (h : w.ownsRow base e k v n xs) (hk : Kept S w w') (hS : ∀ b, v.ownBlock = some b → b ∉ S) : w'.ownsRow base e k v n xs := by
 refine ⟨h.1, ?_⟩
 rcases h.2 with hn | ⟨g, cap, cur, rfl, hb, hgg, rest⟩
 ·exact .inl hn
 ·exact .inr ⟨g, cap, cur, rfl, hb, (hk.block g (Array.getElem?_eq_some_iff.1 hgg).1 (hS g rfl)).trans hgg, rest⟩
theorem own_new {w : World} {base : Nat} {e : TypeId} {k : Nat} {v : Value} {n : Nat} {xs : List Value} (h : w.ownsRow base e k v n xs) {g : Nat} (hg : w.heap.size ≤ g) : v.ownBlock ≠ some g := fun e => by
 have := (h.lt g e).2
 omega
theorem own_base {w : World} {base : Nat} {e : TypeId} {k : Nat} {v : Value} {n : Nat} {xs : List Value} (h : w.ownsRow base e k v n xs) : ∀ g ∈ v.ownBlock.toList, base ≤ g := by
 intro g hg
 cases hv : v.ownBlock with
 | none => rw [hv] at hg; simp at hg
 | some b =>
  rw [hv] at hg
  simp only [Option.toList_some, List.mem_singleton] at hg
  rw [hg]
  exact (h.lt b hv).1
section
variable {P : Program} {ops : Array Oper} {Q : Exit → Act → World → Prop} {rest : List Oper} {o : Oper} {a : Act} {w : World}
end
/-- Naturals that the call appends. -/
def OwnN (w : World) (base : Nat) (v : Value) (n : Nat) (f : Nat → Nat) : Prop := w.ownsRow base 51 4 v n (nsC n f).toList
/-- Ints that the call appends. -/
def OwnI (w : World) (base : Nat) (v : Value) (n : Nat) (u : Nat → Nat) : Prop := w.ownsRow base 3 1 v n (isC n u).toList
section
variable {ops : Array Oper} {Q : Exit → Act → World → Prop} {rest : List Oper} {o : Oper} {a : Act} {w : World}
end
end Go.Proofs.Ytojobffihlmfgaa
/- Single operations on texts, at a seat without sha: parts of a text, texts held against each other, bytes as a text. -/
namespace Go.Proofs.Ytojobffihlmfgaa
open Go.RowKit
set_option linter.unusedVariables false
theorem ybytes_part (l : List UInt8) (a b : Nat) (h : b ≤ l.length) : (⟨l.toArray⟩ : ByteArray).extract a b = ⟨((l.take b).drop a).toArray⟩ := by
 apply ByteArray.ext
 rw [ByteArray.data_extract]
 simp [List.drop_take]
section
variable {P : Program} {o : Oper} {ρ : Operand → Value}
theorem ysize (L : List UInt8) : (⟨L.toArray⟩ : ByteArray).size = L.length := by simp [ByteArray.size]
/-- The rest of a text. -/
theorem y_from (t : TypeId) (x lo : Operand) (hu : P.underlying t = some .string) (ho : o.op = .slice t x (some lo) none none) (L : List UInt8) (l : Nat) (hx : ρ x = .string ⟨L.toArray⟩) (hl : ρ lo = .int .i64 l) (hn : l ≤ L.length) (w : World) :
  (execOp ρ o).run P w = .ok (.value (.string ⟨(L.drop l).toArray⟩)) w := by
 have h1 : (Instr.sliceAt t (.string ⟨L.toArray⟩) (some (.int .i64 l)) none none).run P w = .ok (.string ⟨(L.drop l).toArray⟩) w := by
  rw [run_sliceAt_string w t _ _ _ _ hu, run_slice_string_l w t ⟨L.toArray⟩ hu .i64 l (by omega) (by rw [ysize]; omega), Int.toNat_natCast, ysize, ybytes_part L l L.length (Nat.le_refl _), List.take_length]
 unfold execOp
 simp only [ho, hx, hl, Option.map_some, Option.map_none, Sem.run_bind, h1, Result.andThen_ok]
 rfl
/-- The first bytes of a text. -/
theorem y_upto (t : TypeId) (x hi : Operand) (hu : P.underlying t = some .string) (ho : o.op = .slice t x none (some hi) none) (L : List UInt8) (h : Nat) (hx : ρ x = .string ⟨L.toArray⟩) (hh : ρ hi = .int .i64 h) (hn : h ≤ L.length) (w : World) :
  (execOp ρ o).run P w = .ok (.value (.string ⟨(L.take h).toArray⟩)) w := by
 have h1 : (Instr.sliceAt t (.string ⟨L.toArray⟩) none (some (.int .i64 h)) none).run P w = .ok (.string ⟨(L.take h).toArray⟩) w := by
  rw [run_sliceAt_string w t _ _ _ _ hu, run_slice_string_h w t ⟨L.toArray⟩ hu .i64 h (by omega) (by rw [ysize]; omega), Int.toNat_natCast, ybytes_part L 0 h hn, List.drop_zero]
 unfold execOp
 simp only [ho, hx, hh, Option.map_some, Option.map_none, Sem.run_bind, h1, Result.andThen_ok]
 rfl
/-- Bytes in the middle of a text. -/
theorem y_mid (t : TypeId) (x lo hi : Operand) (hu : P.underlying t = some .string) (ho : o.op = .slice t x (some lo) (some hi) none) (L : List UInt8) (l h : Nat) (hx : ρ x = .string ⟨L.toArray⟩) (hl : ρ lo = .int .i64 l) (hh : ρ hi = .int .i64 h) (hlh : l ≤ h) (hn : h ≤ L.length)
  (R : List UInt8) (hR : (L.take h).drop l = R) (w : World) :
  (execOp ρ o).run P w = .ok (.value (.string ⟨R.toArray⟩)) w := by
 subst hR
 have h1 : (Instr.sliceAt t (.string ⟨L.toArray⟩) (some (.int .i64 l)) (some (.int .i64 h)) none).run P w = .ok (.string ⟨((L.take h).drop l).toArray⟩) w := by
  rw [run_sliceAt_string w t _ _ _ _ hu, run_slice_string w t ⟨L.toArray⟩ .i64 .i64 l h hu (by omega) (by omega) (by rw [ysize]; omega), Int.toNat_natCast, Int.toNat_natCast, ybytes_part L l h hn]
 unfold execOp
 simp only [ho, hx, hl, hh, Option.map_some, Option.map_none, Sem.run_bind, h1, Result.andThen_ok]
 rfl
theorem y_beq (a c : List UInt8) : (a == c) = decide (a = c) := by
 by_cases h : a = c
 ·simp [h]
 ·simp [h]
theorem y_eqS (t : TypeId) (x y : Operand) (u : TypeId) (ho : o.op = .binOp .eql t x y u) (a c : List UInt8) (hx : ρ x = .string ⟨a.toArray⟩) (hy : ρ y = .string ⟨c.toArray⟩) (b : Bool) (hb : decide (a = c) = b) (w : World) :
  (execOp ρ o).run P w = .ok (.value (.bool b)) w := by
 subst hb
 unfold execOp
 simp only [ho, hx, hy]
 simp [eqGuard, go_sem]
 exact y_beq a c
theorem y_neS (t : TypeId) (x y : Operand) (u : TypeId) (ho : o.op = .binOp .neq t x y u) (a c : List UInt8) (hx : ρ x = .string ⟨a.toArray⟩) (hy : ρ y = .string ⟨c.toArray⟩) (b : Bool) (hb : decide (a = c) = !b) (w : World) :
  (execOp ρ o).run P w = .ok (.value (.bool b)) w := by
 have e : (a == c) = !b := (y_beq a c).trans hb
 unfold execOp
 simp only [ho, hx, hy]
 simp [eqGuard, go_sem, e]
end
end Go.Proofs.Ytojobffihlmfgaa
/- Own slices carried on by a walk. -/
namespace Go.Proofs.Ytojobffihlmfgaa
open Go.RowKit
set_option linter.unusedVariables false
theorem own_low {w : World} {base : Nat} {e : TypeId} {k : Nat} {v : Value} {n : Nat} {xs : List Value} (h : w.ownsRow base e k v n xs) {g : Nat} (hg : g < base) : v.ownBlock ≠ some g := fun e => by
 have := (h.lt g e).1
 omega
theorem OwnN.on {w w' : World} {S : List Nat} {base : Nat} {v : Value} {n : Nat} {f : Nat → Nat} (h : OwnN w base v n f) (hk : Kept S w w') (hS : ∀ b, v.ownBlock = some b → b ∉ S) : OwnN w' base v n f := own_on h hk hS
theorem OwnN.new {w : World} {base : Nat} {v : Value} {n : Nat} {f : Nat → Nat} (h : OwnN w base v n f) {g : Nat} (hg : w.heap.size ≤ g) : v.ownBlock ≠ some g := own_new h hg
theorem OwnN.low {w : World} {base : Nat} {v : Value} {n : Nat} {f : Nat → Nat} (h : OwnN w base v n f) {g : Nat} (hg : g < base) : v.ownBlock ≠ some g := own_low h hg
theorem OwnN.base {w : World} {base : Nat} {v : Value} {n : Nat} {f : Nat → Nat} (h : OwnN w base v n f) : ∀ g ∈ v.ownBlock.toList, base ≤ g := own_base h
theorem OwnI.on {w w' : World} {S : List Nat} {base : Nat} {v : Value} {n : Nat} {f : Nat → Nat} (h : OwnI w base v n f) (hk : Kept S w w') (hS : ∀ b, v.ownBlock = some b → b ∉ S) : OwnI w' base v n f := own_on h hk hS
theorem OwnI.new {w : World} {base : Nat} {v : Value} {n : Nat} {f : Nat → Nat} (h : OwnI w base v n f) {g : Nat} (hg : w.heap.size ≤ g) : v.ownBlock ≠ some g := own_new h hg
theorem OwnI.low {w : World} {base : Nat} {v : Value} {n : Nat} {f : Nat → Nat} (h : OwnI w base v n f) {g : Nat} (hg : g < base) : v.ownBlock ≠ some g := own_low h hg
theorem OwnI.base {w : World} {base : Nat} {v : Value} {n : Nat} {f : Nat → Nat} (h : OwnI w base v n f) : ∀ g ∈ v.ownBlock.toList, base ≤ g := own_base h
/-- What is not seen from a later beginning is not seen. -/
theorem OwnN.from {w : World} {b b' : Nat} {v : Value} {n : Nat} {f : Nat → Nat} (h : OwnN w b v n f) (hb : b' ≤ b) : OwnN w b' v n f := by
 refine ⟨h.1, ?_⟩
 rcases h.2 with hn | ⟨g, cap, cur, e, hg, rest⟩
 ·exact .inl hn
 ·exact .inr ⟨g, cap, cur, e, Nat.le_trans hb hg, rest⟩
end Go.Proofs.Ytojobffihlmfgaa
/- Slices of ints that are numbers from 0 on, and of naturals: as arguments, made ones, own ones, the first ones of them. -/
namespace Go.Proofs.Ytojobffihlmfgaa
open Go.RowKit
set_option linter.unusedVariables false
/-- The numbers that a slice of ints tells. -/
structure NumsAt (w : World) (ab : Option Addr) (n : Nat) (u : Nat → Nat) (gb ob : Nat) (bcs : Array Value) (tb : TypeId) : Prop where
 at' : n = 0 ∨ (ab = some ⟨gb, ob, none⟩ ∧ RowR w gb bcs tb ∧ ∀ i, i < n → bcs[ob + i * 1]? = some (.int .i64 (u i : Nat)))
theorem NumsAt.below {w w2 : World} {ab : Option Addr} {n : Nat} {u : Nat → Nat} {gb ob : Nat} {bcs : Array Value} {tb : TypeId} (h : NumsAt w ab n u gb ob bcs tb) (hb : Below w.heap.size w w2) : NumsAt w2 ab n u gb ob bcs tb :=
 ⟨h.at'.imp id fun ⟨h1, h2, h3⟩ => ⟨h1, h2.belowAll hb, h3⟩⟩
theorem NumsAt.belowAll {w w2 : World} {ab : Option Addr} {n : Nat} {u : Nat → Nat} {gb ob : Nat} {bcs : Array Value} {tb : TypeId} (h : NumsAt w ab n u gb ob bcs tb) (hb : Below w.heap.size w w2) : NumsAt w2 ab n u gb ob bcs tb := h.below hb
theorem NumsAt.take {w : World} {ab : Option Addr} {n : Nat} {u : Nat → Nat} {gb ob : Nat} {bcs : Array Value} {tb : TypeId} (h : NumsAt w ab n u gb ob bcs tb) {m : Nat} (hm : m ≤ n) : NumsAt w ab m u gb ob bcs tb := by
 refine ⟨?_⟩
 rcases h.at' with h0 | ⟨h1, h2, h3⟩
 ·exact .inl (by omega)
 ·exact .inr ⟨h1, h2, fun i hi => h3 i (by omega)⟩
theorem NumsAt.congr {w : World} {ab : Option Addr} {n : Nat} {u v : Nat → Nat} {gb ob : Nat} {bcs : Array Value} {tb : TypeId} (h : NumsAt w ab n u gb ob bcs tb) (he : ∀ i, i < n → u i = v i) : NumsAt w ab n v gb ob bcs tb :=
 ⟨h.at'.imp id fun ⟨h1, h2, h3⟩ => ⟨h1, h2, fun i hi => by rw [← he i hi]; exact h3 i hi⟩⟩
theorem NatsAt.take {w : World} {ab : Option Addr} {n : Nat} {f : Nat → Nat} {gb ob : Nat} {bcs : Array Value} {tb : TypeId} (h : NatsAt w ab n f gb ob bcs tb) {m : Nat} (hm : m ≤ n) : NatsAt w ab m f gb ob bcs tb := by
 refine ⟨?_, fun i hi => h.lt i (by omega)⟩
 rcases h.at' with h0 | ⟨h1, h2, h3⟩
 ·exact .inl (by omega)
 ·exact .inr ⟨h1, h2, fun i hi => h3 i (by omega)⟩
theorem NatsAt.congr {w : World} {ab : Option Addr} {n : Nat} {f h : Nat → Nat} {gb ob : Nat} {bcs : Array Value} {tb : TypeId} (hn : NatsAt w ab n f gb ob bcs tb) (he : ∀ i, i < n → f i = h i) : NatsAt w ab n h gb ob bcs tb :=
 ⟨hn.at'.imp id fun ⟨h1, h2, h3⟩ => ⟨h1, h2, fun i hi j v hv => h3 i hi j v (by rw [he i hi]; exact hv)⟩, fun i hi => by rw [← he i hi]; exact hn.lt i hi⟩
end Go.Proofs.Ytojobffihlmfgaa
/- Slices of naturals: made ones as arguments; max of two ints. -/
namespace Go.Proofs.Ytojobffihlmfgaa
open Go.RowKit
set_option linter.unusedVariables false
theorem sbmk (w : World) : Below w.heap.size w w := Below.refl _ _
theorem sl_natsX : Try.prog.underlying 27 = some (.slice (Try.prog.elem 27)) := by kernel_rfl
theorem made_nats (n : Nat) : madeCells (Value.agg #[.int .u64 0, .int .u64 0, .int .u64 0, .int .u64 0]).cells (n * 4) = nsC n (fun _ => 0) := by
 apply Array.ext_getElem?
 intro i
 by_cases hi : i < n * 4
 ·rw [nsC_get n _ i (by omega)]
  have h0 : lm 0 (i % 4) = 0 := by simp [lm]
  rw [h0]
  unfold madeCells
  have hm : i % 4 = 0 ∨ i % 4 = 1 ∨ i % 4 = 2 ∨ i % 4 = 3 := by omega
  rcases hm with h | h | h | h <;> simp [hi, Value.cells, h]
 ·rw [Array.getElem?_eq_none (by rw [size_madeCells]; omega), Array.getElem?_eq_none (by rw [nsC_size]; omega)]
theorem nats_row {w : World} {g n : Nat} {f : Nat → Nat} (h : Row w g (nsC n f) 51) (hf : ∀ i, i < n → f i < 2 ^ 256) : NatsAt w (some ⟨g, 0, none⟩) n f g 0 (nsC n f) 51 :=
 ⟨.inr ⟨rfl, h.r, fun i hi => nsC_part n f i hi _ (by omega)⟩, hf⟩
end Go.Proofs.Ytojobffihlmfgaa
/- Two slices that a call appends to. -/
namespace Go.Proofs.Ytojobffihlmfgaa
open Go.RowKit
end Go.Proofs.Ytojobffihlmfgaa
