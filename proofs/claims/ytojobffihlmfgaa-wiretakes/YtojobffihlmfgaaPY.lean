/- What poly's functions answer, as lists of numbers below Q: of a group that New has made. -/
import Derived.Test.YtojobffihlmfgaaPyFun
import Derived.OwnWalk
import Derived.Test.YtojobffihlmfgaaTA
import Derived.Test.YtojobffihlmfgaaGWalk
import Derived.Test.YtojobffihlmfgaaGV
namespace Go.Proofs.Ytojobffihlmfgaa
open Go.RowKit
set_option linter.unusedVariables false
set_option linter.unusedSectionVars false
section
variable {Q : Nat} [NeZero Q]
/-- An argument: naturals that by Q are a list's numbers. -/
def PlA (w : World) (v : Value) (L : List (Fin Q)) : Prop := ∃ ab n c F gb ob bcs tb, v = .slice ab n c ∧ n ≤ 1000 ∧ NatsAt w ab n F gb ob bcs tb ∧ fl n F = L
/-- A result: a list's numbers themselves. -/
def PlAt (w : World) (v : Value) (L : List (Fin Q)) : Prop := ∃ ab c gb ob bcs tb, v = .slice ab L.length c ∧ NatsAt w ab L.length (fun i => (pco L i).val) gb ob bcs tb
theorem PlA.below {w w' : World} {v : Value} {L : List (Fin Q)} (h : PlA w v L) (hb : Below w.heap.size w w') : PlA w' v L := by
 obtain ⟨ab, n, c, F, gb, ob, bcs, tb, h1, h2, h3, h4⟩ := h
 exact ⟨ab, n, c, F, gb, ob, bcs, tb, h1, h2, h3.below hb, h4⟩
theorem PlAt.below {w w' : World} {v : Value} {L : List (Fin Q)} (h : PlAt w v L) (hb : Below w.heap.size w w') : PlAt w' v L := by
 obtain ⟨ab, c, gb, ob, bcs, tb, h1, h3⟩ := h
 exact ⟨ab, c, gb, ob, bcs, tb, h1, h3.below hb⟩
theorem NatsAt.pl {w : World} {ab : Option Addr} {n c : Nat} {F : Nat → Nat} {gb ob : Nat} {bcs : Array Value} {tb : TypeId} (h : NatsAt w ab n F gb ob bcs tb) (hn : n ≤ 1000) : PlA w (.slice ab n c) (fl n F : List (Fin Q)) :=
 ⟨ab, n, c, F, gb, ob, bcs, tb, rfl, hn, h, rfl⟩
section
variable {g gr gf P G : Nat} {w : World}
end
end
end Go.Proofs.Ytojobffihlmfgaa
/- poly's takeOff and Div. -/
namespace Go.Proofs.Ytojobffihlmfgaa
open Go.RowKit
set_option linter.unusedVariables false
/-- What takeOff leaves behind k steps. -/
def yTk (q : Nat) (lo : Nat) (B : Nat → Nat) (c : Nat) (R : Nat → Nat) (k i : Nat) : Nat := if lo ≤ i ∧ i < lo + k then sbN (R i) (B (i - lo) * c % q) q else R i
end Go.Proofs.Ytojobffihlmfgaa
/- What poly's Div answers, as lists: a is q times b, and r. -/
namespace Go.Proofs.Ytojobffihlmfgaa
open Go.RowKit
set_option linter.unusedVariables false
set_option linter.unusedSectionVars false
section
variable {Q : Nat} [NeZero Q]
end
end Go.Proofs.Ytojobffihlmfgaa
/- poly's Through. -/
namespace Go.Proofs.Ytojobffihlmfgaa
open Go.RowKit
set_option linter.unusedVariables false
set_option linter.unusedSectionVars false
/-- The inverse by Q. -/
def ivF {Q : Nat} [NeZero Q] (x : Fin Q) : Fin Q := fi (invZ x.val Q)
end Go.Proofs.Ytojobffihlmfgaa
/- Rows of elements of k cells each: as arguments, made ones, own ones (appended to), the first ones of them. -/
namespace Go.Proofs.Ytojobffihlmfgaa
open Go.RowKit
set_option linter.unusedVariables false
/-- n elements, one behind the other; each has k cells. -/
def esC (k n : Nat) (C : Nat → Array Value) : Array Value := Array.ofFn (n := n * k) fun i => ((C (i / k))[i.val % k]?).getD undef
theorem esC_size (k n : Nat) (C : Nat → Array Value) : (esC k n C).size = n * k := by simp [esC]
theorem esC_get {k n : Nat} {C : Nat → Array Value} (hC : ∀ i, (C i).size = k) (i j : Nat) (hi : i < n) (hj : j < k) : (esC k n C)[i * k + j]? = (C i)[j]? := by
 have h1 : i * k + j < n * k := Nat.lt_of_lt_of_le (Nat.add_lt_add_left hj _) (by rw [← Nat.succ_mul]; exact Nat.mul_le_mul_right k hi)
 have h2 : (i * k + j) / k = i := by rw [Nat.mul_comm, Nat.mul_add_div (by omega), Nat.div_eq_of_lt hj, Nat.add_zero]
 have h3 : (i * k + j) % k = j := by rw [Nat.mul_comm, Nat.mul_add_mod, Nat.mod_eq_of_lt hj]
 have h4 : j < (C i).size := by rw [hC]; exact hj
 simp [esC, h1, h2, h3, h4]
theorem esC_part {k n : Nat} {C : Nat → Array Value} (hC : ∀ i, (C i).size = k) (i : Nat) (hi : i < n) (off : Nat) (ho : off = i * k) : ∀ j v, (C i).toList[j]? = some v → (esC k n C)[off + j]? = some v := by
 intro j v hv
 subst ho
 rw [Array.getElem?_toList] at hv
 have hj : j < k := by
  have := (Array.getElem?_eq_some_iff.1 hv).1
  rw [hC] at this
  exact this
 rw [esC_get hC i j hi hj, hv]
theorem div_lt_n {k n i : Nat} (h : i < n * k) : i / k < n := Nat.div_lt_of_lt_mul (by rw [Nat.mul_comm]; exact h)
theorem esC_at {k n : Nat} {C : Nat → Array Value} (hC : ∀ i, (C i).size = k) (i : Nat) (h : i < n * k) : (esC k n C)[i]? = (C (i / k))[i % k]? := by
 have hk : 0 < k := by
  rcases Nat.eq_zero_or_pos k with e | e
  ·rw [e, Nat.mul_zero] at h; omega
  ·exact e
 have e : i / k * k + i % k = i := by rw [Nat.mul_comm]; exact Nat.div_add_mod i k
 have := esC_get hC (i / k) (i % k) (div_lt_n h) (Nat.mod_lt _ hk)
 rw [e] at this
 exact this
theorem esC_congr {k n : Nat} {C D : Nat → Array Value} (h : ∀ i, i < n → C i = D i) : esC k n C = esC k n D := by
 apply Array.ext_getElem?
 intro i
 by_cases hi : i < n * k
 ·have := h (i / k) (div_lt_n hi)
  simp [esC, hi, this]
 ·rw [Array.getElem?_eq_none (by rw [esC_size]; omega), Array.getElem?_eq_none (by rw [esC_size]; omega)]
theorem esC_snoc {k : Nat} {C : Nat → Array Value} (hC : ∀ i, (C i).size = k) (n : Nat) : (esC k n C).toList ++ (C n).toList = (esC k (n + 1) C).toList := by
 refine List.ext_getElem? fun j => ?_
 rw [List.getElem?_append, Array.length_toList, esC_size, Array.getElem?_toList, Array.getElem?_toList, Array.getElem?_toList]
 have hs : (n + 1) * k = n * k + k := Nat.succ_mul n k
 by_cases h : j < n * k
 ·rw [if_pos h, esC_at hC j h, esC_at hC j (by omega)]
 ·rw [if_neg h]
  by_cases h2 : j < n * k + k
  ·obtain ⟨d, rfl⟩ : ∃ d, j = n * k + d := ⟨j - n * k, by omega⟩
   rw [esC_get hC n d (by omega) (by omega), Nat.add_sub_cancel_left]
  ·rw [Array.getElem?_eq_none (by rw [hC]; omega), Array.getElem?_eq_none (by rw [esC_size]; omega)]
/-- What a slice of such elements tells. -/
structure ElsAt (k : Nat) (w : World) (ab : Option Addr) (n : Nat) (C : Nat → Array Value) (gb ob : Nat) (bcs : Array Value) (tb : TypeId) : Prop where
 at' : n = 0 ∨ (ab = some ⟨gb, ob, none⟩ ∧ RowR w gb bcs tb ∧ ∀ i, i < n → ∀ j v, (C i).toList[j]? = some v → bcs[ob + i * k + j]? = some v)
section
variable {k : Nat} {w w2 : World} {ab : Option Addr} {n : Nat} {C D : Nat → Array Value} {gb ob : Nat} {bcs : Array Value} {tb : TypeId}
theorem ElsAt.below (h : ElsAt k w ab n C gb ob bcs tb) (hb : Below w.heap.size w w2) : ElsAt k w2 ab n C gb ob bcs tb :=
 ⟨h.at'.imp id fun ⟨h1, h2, h3⟩ => ⟨h1, h2.belowAll hb, h3⟩⟩
theorem ElsAt.belowAll (h : ElsAt k w ab n C gb ob bcs tb) (hb : Below w.heap.size w w2) : ElsAt k w2 ab n C gb ob bcs tb := h.below hb
theorem ElsAt.take (h : ElsAt k w ab n C gb ob bcs tb) {m : Nat} (hm : m ≤ n) : ElsAt k w ab m C gb ob bcs tb := by
 refine ⟨?_⟩
 rcases h.at' with h0 | ⟨h1, h2, h3⟩
 ·exact .inl (by omega)
 ·exact .inr ⟨h1, h2, fun i hi => h3 i (by omega)⟩
theorem ElsAt.congr (h : ElsAt k w ab n C gb ob bcs tb) (he : ∀ i, i < n → C i = D i) : ElsAt k w ab n D gb ob bcs tb :=
 ⟨h.at'.imp id fun ⟨h1, h2, h3⟩ => ⟨h1, h2, fun i hi => by rw [← he i hi]; exact h3 i hi⟩⟩
/-- Those from the m-th on (l[m:]), where there is one. -/
theorem ElsAt.drop (h : ElsAt k w (some ⟨gb, ob, none⟩) n C gb ob bcs tb) {m : Nat} (hm : m ≤ n) : ElsAt k w (some ⟨gb, ob + m * k, none⟩) (n - m) (fun i => C (m + i)) gb (ob + m * k) bcs tb := by
 refine ⟨?_⟩
 rcases h.at' with h0 | ⟨h1, h2, h3⟩
 ·exact .inl (by omega)
 ·refine .inr ⟨rfl, h2, fun i hi j v hv => ?_⟩
  have := h3 (m + i) (by omega) j v hv
  rw [Nat.add_mul] at this
  rw [show ob + m * k + i * k + j = ob + (m * k + i * k) + j by omega]
  exact this
/-- Elements that the call appends. -/
def OwnE (k : Nat) (e : TypeId) (w : World) (base : Nat) (v : Value) (n : Nat) (C : Nat → Array Value) : Prop := w.ownsRow base e k v n (esC k n C).toList
theorem ownE_nil (e : TypeId) (w : World) (base : Nat) (C : Nat → Array Value) : OwnE k e w base (.slice none 0 0) 0 C := by
 have h : (esC k 0 C).toList = [] := by
  apply List.eq_nil_of_length_eq_zero
  rw [Array.length_toList, esC_size, Nat.zero_mul]
 unfold OwnE
 rw [h]
 exact World.ownsRow_nil w base _ _
variable {e : TypeId} {S : List Nat} {bs : Nat} {v : Value}
theorem OwnE.on (h : OwnE k e w bs v n C) (hk : Kept S w w2) (hS : ∀ b, v.ownBlock = some b → b ∉ S) : OwnE k e w2 bs v n C := own_on h hk hS
theorem OwnE.new (h : OwnE k e w bs v n C) {g : Nat} (hg : w.heap.size ≤ g) : v.ownBlock ≠ some g := own_new h hg
theorem OwnE.low (h : OwnE k e w bs v n C) {g : Nat} (hg : g < bs) : v.ownBlock ≠ some g := own_low h hg
theorem OwnE.base (h : OwnE k e w bs v n C) : ∀ g ∈ v.ownBlock.toList, bs ≤ g := own_base h
/-- An own one, as one that is handed on. -/
theorem ownE_els (hC : ∀ i, (C i).size = k) (h : OwnE k e w bs v n C) : ∃ ab c gb cur, v = .slice ab n c ∧ n ≤ c ∧ ElsAt k w ab n C gb 0 cur e := by
 rcases h.2 with ⟨rfl, rfl⟩ | ⟨g, cap, cur, rfl, _, hg, hnc, _, hcs, htk⟩
 ·exact ⟨none, 0, 0, #[], rfl, Nat.le_refl _, ⟨.inl rfl⟩⟩
 ·refine ⟨_, cap, g, cur, rfl, hnc, ⟨.inr ⟨rfl, Row.r hg, fun i hi j v hv => ?_⟩⟩⟩
  have hj : j < k := by
   rw [Array.getElem?_toList] at hv
   have := (Array.getElem?_eq_some_iff.1 hv).1
   rw [hC] at this
   exact this
  have hl : i * k + j < n * k := Nat.lt_of_lt_of_le (Nat.add_lt_add_left hj _) (by rw [← Nat.succ_mul]; exact Nat.mul_le_mul_right k hi)
  refine take_part htk (0 + i * k + j) v (by omega) ?_
  have := esC_part hC i hi (i * k) rfl j v hv
  rw [Nat.zero_add]
  exact this
end
section
variable {P : Program} {ops : Array Oper} {Q : Exit → Act → World → Prop} {rest : List Oper} {o : Oper} {a : Act} {w : World}
/-- append of one element. -/
theorem pw_appE (hw : Region.wanted o (yielded ops a.tmps) = true) (s x : Operand) (t : TypeId) (ho : o.op = .call { callee := .builtin .append, args := #[s, x], argTypes := #[t, t] })
  (base : Nat) (e : TypeId) (i : TypeInfo) (z : Value) (k bytes : Nat) (ht : P.underlying t = some (.slice e)) (hi : P.info? e = some i) (hz : i.zero = some z) (hsize : i.size = k) (hby : i.bytes = bytes) (hzs : z.cells.size = k) (hk : 0 < k) (hby2 : bytes ≤ 1000)
  (v : Value) (n : Nat) (C : Nat → Array Value) (hC : ∀ i, (C i).size = k) (hs : a.eval s = v) (hown : OwnE k e w base v n C) (gx c : Nat) (hx : a.eval x = .slice (some ⟨gx, 0, none⟩) 1 c) {tx : TypeId} (rx : Row w gx (C n) tx) (h1 : (C n).all (·.oneCell') = true)
  (hn : n ≤ 1000000) (hbase : base ≤ w.heap.size)
  (h : ∀ v' w', OwnE k e w' base v' (n + 1) C → Kept v.ownBlock.toList w w' → (v'.ownBlock = v.ownBlock ∨ v'.ownBlock = some w.heap.size) → PW P ops Q rest (a.put o.dst v') w') : PW P ops Q (o :: rest) a w := by
 refine pw_app1 hw s x t ho base e i z k bytes ht hi hz hsize hby hzs hk v n _ hs hown gx c hx rx (hC n) h1 (by unfold maxLen; omega) ?_ hbase fun v' w' h1 h2 h3 => h v' w' ?_ h2 h3
 ·exact Nat.le_trans (Nat.mul_le_mul (show n + 1 ≤ 1000001 by omega) hby2) (by decide)
 ·rw [esC_snoc hC] at h1
  exact h1
end
end Go.Proofs.Ytojobffihlmfgaa
/- Numbers that are apart; shares' cells. Plain mathematics. -/
namespace Go.Proofs.Ytojobffihlmfgaa
set_option linter.unusedVariables false
/-- A share's cells. -/
def shC (i : Int) (y : Nat) : Array Value := #[.int .i64 i] ++ natC y
/-- Was a number met among the first k? -/
def snB (Z : Nat → Int) : Nat → Int → Bool
 | 0, _ => false
 | k + 1, v => snB Z k v || decide (Z k = v)
/-- Are the first so many from a least one to 7, and none is there twice? -/
def apB (least : Int) (Z : Nat → Int) : Nat → Bool
 | 0 => true
 | k + 1 => apB least Z k && (decide (least ≤ Z k) && (decide (Z k ≤ 7) && !(snB Z k (Z k))))
/-- How many of the first m are told. -/
def cnB (f : Nat → Bool) : Nat → Nat
 | 0 => 0
 | m + 1 => cnB f m + if f m then 1 else 0
end Go.Proofs.Ytojobffihlmfgaa
/- Rows of values of one cell each; rows of naturals as many as one likes, each at a place of its own. -/
namespace Go.Proofs.Ytojobffihlmfgaa
open Go.RowKit
set_option linter.unusedVariables false
/-- n values of one cell each. -/
def vsC (n : Nat) (S : Nat → Value) : Array Value := Array.ofFn (n := n) fun i => S i
theorem vsC_size (n : Nat) (S : Nat → Value) : (vsC n S).size = n := by simp [vsC]
theorem vsC_get {n : Nat} (S : Nat → Value) {i : Nat} (h : i < n) : (vsC n S)[i]? = some (S i) := by simp [vsC, h]
theorem vsC_congr {n : Nat} {S T : Nat → Value} (h : ∀ i, i < n → S i = T i) : vsC n S = vsC n T := by
 apply Array.ext_getElem?
 intro i
 by_cases hi : i < n
 ·rw [vsC_get S hi, vsC_get T hi, h i hi]
 ·rw [Array.getElem?_eq_none (by rw [vsC_size]; omega), Array.getElem?_eq_none (by rw [vsC_size]; omega)]
theorem vsC_put {n : Nat} {S T : Nat → Value} {i : Nat} {v : Value} (hi : i < n) (hv : T i = v) (h : ∀ j, j < n → j ≠ i → T j = S j) : (vsC n S).setIfInBounds i v = vsC n T := by
 apply Array.ext_getElem?
 intro j
 rw [Array.getElem?_setIfInBounds]
 by_cases hj : j < n
 ·rw [vsC_get S hj, vsC_get T hj]
  by_cases e : i = j
  ·subst e
   rw [if_pos rfl, if_pos (by rw [vsC_size]; exact hj), hv]
  ·rw [if_neg e, h j hj (fun x => e x.symm)]
 ·rw [Array.getElem?_eq_none (show (vsC n T).size ≤ j by rw [vsC_size]; omega)]
  by_cases e : i = j
  ·omega
  ·rw [if_neg e, Array.getElem?_eq_none (by rw [vsC_size]; omega)]
theorem made_vs (n : Nat) (v : Value) (hv : v.cells = #[v]) : madeCells v.cells (n * 1) = vsC n (fun _ => v) := by
 apply Array.ext_getElem?
 intro i
 by_cases hi : i < n
 ·rw [vsC_get _ hi, hv]
  unfold madeCells
  simp [hi, Nat.mod_one]
 ·rw [Array.getElem?_eq_none (by rw [size_madeCells]; omega), Array.getElem?_eq_none (by rw [vsC_size]; omega)]
/-- m rows of n naturals each, at places of their own from a base on. -/
structure FamAt (w : World) (base n : Nat) (R : Nat → Nat) (V : Nat → Nat → Nat) (m : Nat) : Prop where
 row : ∀ j, j < m → Row w (R j) (nsC n (V j)) 51
 dis : ∀ i j, i < m → j < m → R i = R j → i = j
 low : ∀ j, j < m → base ≤ R j
section
variable {w w2 : World} {base n m : Nat} {R : Nat → Nat} {V V' : Nat → Nat → Nat}
theorem FamAt.below (h : FamAt w base n R V m) (hb : Below w.heap.size w w2) : FamAt w2 base n R V m :=
 ⟨fun j hj => (h.row j hj).belowAll hb, h.dis, h.low⟩
theorem FamAt.on (h : FamAt w base n R V m) {S : List Nat} (k : Kept S w w2) (hS : ∀ j, j < m → R j ∉ S) : FamAt w2 base n R V m :=
 ⟨fun j hj => k.row (h.row j hj) (hS j hj), h.dis, h.low⟩
theorem FamAt.congr (h : FamAt w base n R V m) (he : ∀ j, j < m → ∀ k, k < n → V j k = V' j k) : FamAt w base n R V' m :=
 ⟨fun j hj => by rw [← nsC_congr n (V j) (V' j) (he j hj)]; exact h.row j hj, h.dis, h.low⟩
theorem FamAt.lt (h : FamAt w base n R V m) {j : Nat} (hj : j < m) : R j < w.heap.size := (h.row j hj).lt
/-- One row is written. -/
theorem FamAt.put (h : FamAt w base n R V m) {j : Nat} (hj : j < m) (k : Kept [R j] w w2) (r : Row w2 (R j) (nsC n (V' j)) 51) (he : ∀ i, i < m → i ≠ j → V' i = V i) : FamAt w2 base n R V' m := by
 refine ⟨fun i hi => ?_, h.dis, h.low⟩
 by_cases e : i = j
 ·rw [e]; exact r
 ·rw [he i hi e]
  exact k.row (h.row i hi) (by
   intro hm
   exact e (h.dis i j hi hj (by simpa using hm)))
/-- A place of its own more. -/
def upR (R : Nat → Nat) (m g : Nat) : Nat → Nat := fun j => if j = m then g else R j
theorem upR_at (R : Nat → Nat) (m g : Nat) : upR R m g m = g := if_pos rfl
theorem upR_lt (R : Nat → Nat) {m g j : Nat} (h : j < m) : upR R m g j = R j := if_neg (by omega)
theorem FamAt.add (h : FamAt w base n R V m) {g : Nat} (hg : ∀ j, j < m → R j ≠ g) (hb : base ≤ g) (r : Row w g (nsC n (V m)) 51) : FamAt w base n (upR R m g) V (m + 1) := by
 refine ⟨fun j hj => ?_, fun i j hi hj e => ?_, fun j hj => ?_⟩
 ·by_cases e : j = m
  ·subst e
   rw [upR_at]; exact r
  ·rw [upR_lt R (show j < m by omega)]
   exact h.row j (by omega)
 ·by_cases e1 : i = m
  ·by_cases e2 : j = m
   ·omega
   ·rw [e1, upR_at, upR_lt R (show j < m by omega)] at e
    exact absurd e.symm (hg j (by omega))
  ·by_cases e2 : j = m
   ·rw [e2, upR_at, upR_lt R (show i < m by omega)] at e
    exact absurd e (hg i (by omega))
   ·rw [upR_lt R (show i < m by omega), upR_lt R (show j < m by omega)] at e
    exact h.dis i j (by omega) (by omega) e
 ·by_cases e : j = m
  ·subst e
   rw [upR_at]; exact hb
  ·rw [upR_lt R (show j < m by omega)]
   exact h.low j (by omega)
theorem fam_nil (w : World) (base n : Nat) (R : Nat → Nat) (V : Nat → Nat → Nat) : FamAt w base n R V 0 :=
 ⟨fun j hj => absurd hj (by omega), fun i j hi => absurd hi (by omega), fun j hj => absurd hj (by omega)⟩
end
end Go.Proofs.Ytojobffihlmfgaa
/- Shares in memory: their cells, when two are the same. -/
namespace Go.Proofs.Ytojobffihlmfgaa
open Go.RowKit
set_option linter.unusedVariables false
theorem size1tbool : (Try.prog.info? 4).map (·.size) = some 1 := by kernel_rfl
end Go.Proofs.Ytojobffihlmfgaa
