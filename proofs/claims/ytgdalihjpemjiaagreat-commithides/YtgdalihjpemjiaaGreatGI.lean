import Derived.Test.YtgdalihjpemjiaaGreatGH
import Derived.Test.YtgdalihjpemjiaaGreatGF
import Derived.Test.YtgdalihjpemjiaaGreatGE
import Derived.Test.YtgdalihjpemjiaaGreatGA
namespace Go.Proofs.YtgdalihjpemjiaaGreat
set_option linter.unusedVariables false
open Go.RowKit
def sg (neg : Bool) : Int := if neg = true then -1 else 1
structure Iv (A M L S b f : Nat) (neg : Bool) : Prop where
 det : L * f + S * b = M
 lt : S < L
 ne : L ≠ 1
 pos : 1 ≤ f
 gcd : Nat.gcd L S = Nat.gcd A M
 low : (M : Int) ∣ (f : Int) * A - sg neg * S
 high : (M : Int) ∣ (b : Int) * A + sg neg * L
theorem sg_not (neg : Bool) : sg (!neg) = - sg neg := by cases neg <;> rfl
theorem iv_first (A M : Nat) (hM : 2 ≤ M) : Iv A M M (A % M) 0 1 false where
 det := by omega
 lt := Nat.mod_lt _ (by omega)
 ne := by omega
 pos := Nat.le_refl _
 gcd := by rw [gcd_turn]
 low := by
  have h := Nat.div_add_mod A M
  refine ⟨((A / M : Nat) : Int), ?_⟩
  show ((1 : Nat) : Int) * (A : Int) - 1 * ((A % M : Nat) : Int) = _
  have : (A : Int) = (M : Int) * ((A / M : Nat) : Int) + ((A % M : Nat) : Int) := by exact_mod_cast h.symm
  omega
 high := ⟨1, by show ((0 : Nat) : Int) * (A : Int) + 1 * (M : Int) = _; omega⟩
theorem iv_next (A M L S b f : Nat) (neg : Bool) (h : Iv A M L S b f neg) (h0 : 0 < S) (h1 : S ≠ 1) : Iv A M S (L % S) f (b + L / S * f) (!neg) where
 det := by
  have h2 := Nat.div_add_mod L S
  have h3 := h.det
  have e : S * (b + L / S * f) + L % S * f = (S * (L / S) + L % S) * f + S * b := by
   rw [Nat.mul_add, Nat.add_mul, Nat.mul_assoc]; omega
  rw [e, h2]; exact h3
 lt := Nat.mod_lt _ h0
 ne := h1
 pos := by
  have h2 : 1 ≤ L / S := (Nat.le_div_iff_mul_le h0).2 (by have := h.lt; omega)
  have h3 : 1 * 1 ≤ L / S * f := Nat.mul_le_mul h2 h.pos
  omega
 gcd := by rw [gcd_turn]; exact h.gcd
 low := by
  have e : ((b + L / S * f : Nat) : Int) * A - sg (!neg) * ((L % S : Nat) : Int) = ((b : Int) * A + sg neg * L) + ((L / S : Nat) : Int) * ((f : Int) * A - sg neg * S) := by
   have h2 : (L : Int) = (S : Int) * ((L / S : Nat) : Int) + ((L % S : Nat) : Int) := by exact_mod_cast (Nat.div_add_mod L S).symm
   rw [sg_not]
   generalize ((L % S : Nat) : Int) = r at *
   rw [h2]
   push_cast
   generalize ((L : Int) / (S : Int)) = q
   simp only [Int.add_mul, Int.mul_sub, Int.mul_add, Int.neg_mul, Int.sub_neg]
   have e1 : q * (sg neg * (S : Int)) = sg neg * ((S : Int) * q) := by rw [Int.mul_left_comm, Int.mul_comm q]
   have e2 : q * (f : Int) * (A : Int) = q * ((f : Int) * (A : Int)) := Int.mul_assoc _ _ _
   rw [e1, e2]
   omega
  rw [e]
  exact Int.dvd_add h.high (Int.dvd_mul_of_dvd_right h.low)
 high := by
  have e : (f : Int) * A + sg (!neg) * (S : Int) = (f : Int) * A - sg neg * S := by rw [sg_not, Int.neg_mul]; omega
  rw [e]
  exact h.low
def invV (A M : Nat) : Nat := ((List.range M).find? fun x => x * A % M == 1).getD 0
theorem inv_unique (A M x : Nat) (hx : x < M) (h : x * A % M = 1) : invV A M = x := by
 unfold invV
 cases hf : (List.range M).find? fun x => x * A % M == 1 with
 | none =>
  have := List.find?_eq_none.1 hf x (List.mem_range.2 hx)
  simp [h] at this
 | some y =>
  have h1 := List.find?_some hf
  have h2 : y < M := List.mem_range.1 (List.mem_of_find?_eq_some hf)
  have h3 : y * A % M = 1 := by simpa using h1
  show y = x
  have e1 : y * (x * A) % M = y := by rw [Nat.mul_mod, h, Nat.mul_one, Nat.mod_mod, Nat.mod_eq_of_lt h2]
  have e2 : x * (y * A) % M = x := by rw [Nat.mul_mod, h3, Nat.mul_one, Nat.mod_mod, Nat.mod_eq_of_lt hx]
  exact e1.symm.trans ((show y * (x * A) % M = x * (y * A) % M by rw [Nat.mul_left_comm]).trans e2)
theorem iv_last (A M L b f : Nat) (neg : Bool) (hM : 2 ≤ M) (h : Iv A M L 1 b f neg) : f < M ∧ invV A M = if neg = true then M - f else f := by
 have hd := h.det
 have hl := h.lt
 have hp := h.pos
 have h2 : 2 * f ≤ L * f := Nat.mul_le_mul_right _ hl
 have hf : f < M := by omega
 refine ⟨hf, ?_⟩
 obtain ⟨k, hk⟩ := h.low
 cases neg
 ·rw [if_neg (by decide)]
  refine inv_unique A M f hf ?_
  have e : ((f * A : Nat) : Int) = 1 + (M : Int) * k := by
   push_cast
   have : (f : Int) * A - 1 * ((1 : Nat) : Int) = (M : Int) * k := hk
   omega
  have : ((f * A % M : Nat) : Int) = 1 := by
   rw [Int.natCast_emod, e, Int.add_mul_emod_self_left]
   exact Int.emod_eq_of_lt (by omega) (by omega)
  exact_mod_cast this
 ·rw [if_pos rfl]
  refine inv_unique A M (M - f) (by omega) ?_
  have e : (((M - f) * A : Nat) : Int) = 1 + (M : Int) * (A - k) := by
   push_cast [Nat.le_of_lt hf]
   have : (f : Int) * A - -1 * ((1 : Nat) : Int) = (M : Int) * k := hk
   rw [Int.sub_mul, Int.mul_sub]
   omega
  have : (((M - f) * A % M : Nat) : Int) = 1 := by
   rw [Int.natCast_emod, e, Int.add_mul_emod_self_left]
   exact Int.emod_eq_of_lt (by omega) (by omega)
  exact_mod_cast this
theorem exec_build0 {P : Program} {o : Oper} {ρ : Operand → Value} (t : TypeId) (ho : o.op = .build t #[]) (c : Array Value) (hb : P.built t [] = some c) (w : World) : (execOp ρ o).run P w = .ok (.value (.agg c)) w := by
 unfold execOp
 simp only [ho, Sem.run_bind, run_build w t #[] c hb, Array.map_empty, Result.andThen_ok]
 rfl
theorem wpList_wanted {P : Program} {ops : Array Oper} {rest : List Oper} {o : Oper} {a : Act} {w : World} {Q : Exit → Act → World → Prop} (hw : Region.wanted o (yielded ops a.tmps) = true)
  (h : ∀ K : Act → World → Prop, (∀ a w, wpList P ops Q rest a w → K a w) → o.wp P a w K Q) : wpList P ops Q (o :: rest) a w :=
 wpList_step fun K hK => by simp only [hw, if_true]; exact h K hK
theorem wpList_loadRg {P : Program} {ops : Array Oper} {rest : List Oper} {o : Oper} {a : Act} {w : World} {Q : Exit → Act → World → Prop} (hw : Region.wanted o (yielded ops a.tmps) = true) (ty : TypeId) (x : Operand) (ho : o.op = .load ty x)
  (g : Nat) (hx : a.eval x = .pointer (some ⟨g, 0, none⟩)) {t : TypeId} {cs : Array Value} (hg : Row w g cs t) (n : Nat) (e : TypeId)
  (hu : P.underlying ty = some (.array n e)) (hi : (P.info? ty).map (·.size) = some cs.size)
  (h : wpList P ops Q rest (a.put o.dst (.agg cs)) w) : wpList P ops Q (o :: rest) a w :=
 wpList_wanted hw fun _ hK => wp_load_row ty x ho g hx t cs (0, 0) _ hg hu rfl hi (hK _ _ h)
theorem wpList_valueg {P : Program} {ops : Array Oper} {rest : List Oper} {o : Oper} {a : Act} {w : World} {Q : Exit → Act → World → Prop} (hw : Region.wanted o (yielded ops a.tmps) = true) (v : Value)
  (hr : (execOp a.eval o).run P w = .ok (.value v) w) (h : wpList P ops Q rest (a.put o.dst v) w) : wpList P ops Q (o :: rest) a w :=
 wpList_wanted hw fun _ hK => by unfold Oper.wp; rw [hr]; exact hK _ _ h
def invZ (A M : Nat) : Nat := if M < 2 then 0 else if Nat.gcd A M = 1 then invV A M else 0
def errV (A M : Nat) : Int := if M < 2 then 1 else if Nat.gcd A M = 1 then 0 else 3
theorem natC_one' : natC ((1 : Int).toNat) = natC 1 := rfl
theorem sub_far (M f : Nat) (h : f ≤ M) (hM : M < 2 ^ 256) : natC (less M f) = natC (M - f) := by
 refine (natC_eq _ _).2 ?_
 unfold less
 rw [show M + (2 ^ 256 - f) = M - f + 2 ^ 256 * 1 by omega, Nat.add_mul_mod_self_left]
set_option maxRecDepth 100000 in
set_option maxHeartbeats 2000000 in
theorem winv_arg (A M : Nat) (w : World) (hM : M < 2) :
  Calls Tryz.prog 154 #[.agg (natC A), .agg (natC M)] w fun e w' => e = .returned (.tuple #[.agg (natC 0), .int .i64 1]) ∧ Below w.heap.size w w' := by
 have rM : Row (((w.alloc (.cells (natC A) 40)).alloc (.cells (natC M) 40)).alloc (.cells (natC 0) 40)) (w.heap.size + 1) (natC M) 40 := (by repeat (first | (refine Row.here ?_; first | (with_reducible rfl) | (simp; done)) | refine Row.alloc ?_ _))
 have rZ : Row (((w.alloc (.cells (natC A) 40)).alloc (.cells (natC M) 40)).alloc (.cells (natC 0) 40)) (w.heap.size + 1 + 1) (natC 0) 40 := (by repeat (first | (refine Row.here ?_; first | (with_reducible rfl) | (simp; done)) | refine Row.alloc ?_ _))
 have bW := below_alloc3 (w := w) (.cells (natC A) 40) (.cells (natC M) 40) (.cells (natC 0) 40)
 have hof := fun w' => nof_any 1 w' (by omega)
 rw [natC_one'] at hof
 have hm : M = 0 ∨ M = 1 := by omega
 clear hM
 rcases hm with rfl | rfl
 ·go_enter Tryz.func154, Tryz.ntmps154
  go_wp2_with (first
   | refine wpList_box_row rfl 40 _ rfl _ rfl ?_
   | refine wpList_alloc_row rfl 40 rfl _ zero_nat ?_)
  refine (hof _).mono ?_
  rintro e w1 ⟨rfl, hb1⟩
  have qM := (rM.belowAll hb1).alloc (.cells (natC 1) 40)
  have qZ := (rZ.belowAll hb1).alloc (.cells (natC 1) 40)
  have b1 := below_on bW (Nat.le_refl _) hb1
  have b2 := b1.alloc b1.size (.cells (natC 1) 40)
  clear rM rZ bW hb1 b1 hof
  go_wp2_with (first
   | refine wpList_alloc_row rfl 40 rfl _ zero_nat ?_
   | refine wpList_build_zero rfl 40 rfl _ built_nat ?_
   | refine wpList_store_new rfl 40 _ _ rfl _ rfl rfl _ _ (by exact size_nat) (by simp only [natC_size]) (natC_one _) ?_
   | refine wpList_loadR rfl 40 _ rfl _ rfl qM 4 _ Tryz.underlying40 (by exact size_nat) ?_
   | refine wpList_value rfl (.bool true) ((exec_eql_nat _ _ _ rfl 0 0 rfl rfl _).trans (by simp)) ?_
   | refine wpList_storeR rfl 40 _ _ rfl _ _ rfl rfl qZ (by exact size_nat) (by simp only [natC_size]) (natC_one _) ?_)
  exact ret_row2 rfl _ rfl (qZ.setRow (natC 0)) 4 _ Tryz.underlying40 (by exact size_nat) rfl _ rfl ⟨rfl, below_setRow b2 (by omega) _⟩
 ·go_enter Tryz.func154, Tryz.ntmps154
  go_wp2_with (first
   | refine wpList_box_row rfl 40 _ rfl _ rfl ?_
   | refine wpList_alloc_row rfl 40 rfl _ zero_nat ?_)
  refine (hof _).mono ?_
  rintro e w1 ⟨rfl, hb1⟩
  have qM := (rM.belowAll hb1).alloc (.cells (natC 1) 40)
  have qZ := (rZ.belowAll hb1).alloc (.cells (natC 1) 40)
  have q1 := Row.new w1 (natC 1) 40
  have b1 := below_on bW (Nat.le_refl _) hb1
  have b2 := b1.alloc b1.size (.cells (natC 1) 40)
  clear rM rZ bW hb1 b1 hof
  go_wp2_with (first
   | refine wpList_alloc_row rfl 40 rfl _ zero_nat ?_
   | refine wpList_build_zero rfl 40 rfl _ built_nat ?_
   | refine wpList_store_new rfl 40 _ _ rfl _ rfl rfl _ _ (by exact size_nat) (by simp only [natC_size]) (natC_one _) ?_
   | refine wpList_loadR rfl 40 _ rfl _ rfl qM 4 _ Tryz.underlying40 (by exact size_nat) ?_
   | refine wpList_value rfl (.bool false) ((exec_eql_nat _ _ _ rfl 1 0 rfl rfl _).trans (by simp)) ?_
   | refine wpList_loadRg (by rfl) 40 _ rfl _ rfl qM 4 _ Tryz.underlying40 (by exact size_nat) ?_
   | refine wpList_loadRg (by rfl) 40 _ rfl _ rfl q1 4 _ Tryz.underlying40 (by exact size_nat) ?_
   | refine wpList_valueg (by rfl) (.bool true) ((exec_eql_nat _ _ _ rfl 1 1 rfl rfl _).trans (by simp)) ?_
   | refine wpList_storeR rfl 40 _ _ rfl _ _ rfl rfl qZ (by exact size_nat) (by simp only [natC_size]) (natC_one _) ?_)
  exact ret_row2 rfl _ rfl (qZ.setRow (natC 0)) 4 _ Tryz.underlying40 (by exact size_nat) rfl _ rfl ⟨rfl, below_setRow b2 (by omega) _⟩
theorem inv_there (A M : Nat) (h2 : 2 ≤ M) (hg : Nat.gcd A M = 1) : ∃ x, x < M ∧ x * A % M = 1 := by
 suffices h : ∀ (n L S b f : Nat) (neg : Bool), S ≤ n → Iv A M L S b f neg → ∃ x, x < M ∧ x * A % M = 1 from h (A % M) M (A % M) 0 1 false (Nat.le_refl _) (iv_first A M h2)
 intro n
 induction n with
 | zero =>
  intro L S b f neg hS hI
  exfalso
  have h0 : S = 0 := by omega
  have := hI.gcd
  rw [h0, Nat.gcd_zero_right, hg] at this
  exact hI.ne this
 | succ n ih =>
  intro L S b f neg hS hI
  by_cases h0 : S = 0
  ·exact ih L S b f neg (by omega) hI
  ·by_cases h1 : S = 1
   ·subst h1
    obtain ⟨hf, _⟩ := iv_last A M L b f neg h2 hI
    obtain ⟨k, hk⟩ := hI.low
    have hp := hI.pos
    cases neg
    ·refine ⟨f, hf, ?_⟩
     have e : ((f * A : Nat) : Int) = 1 + (M : Int) * k := by
      push_cast
      have : (f : Int) * A - 1 * ((1 : Nat) : Int) = (M : Int) * k := hk
      omega
     have : ((f * A % M : Nat) : Int) = 1 := by
      rw [Int.natCast_emod, e, Int.add_mul_emod_self_left]
      exact Int.emod_eq_of_lt (by omega) (by omega)
     exact_mod_cast this
    ·refine ⟨M - f, by omega, ?_⟩
     have e : (((M - f) * A : Nat) : Int) = 1 + (M : Int) * (A - k) := by
      push_cast [Nat.le_of_lt hf]
      have : (f : Int) * A - -1 * ((1 : Nat) : Int) = (M : Int) * k := hk
      rw [Int.sub_mul, Int.mul_sub]
      omega
     have : (((M - f) * A % M : Nat) : Int) = 1 := by
      rw [Int.natCast_emod, e, Int.add_mul_emod_self_left]
      exact Int.emod_eq_of_lt (by omega) (by omega)
     exact_mod_cast this
   ·have hlt := Nat.mod_lt L (show 0 < S by omega)
    exact ih S (L % S) f (b + L / S * f) (!neg) (by omega) (iv_next A M L S b f neg hI (by omega) h1)
theorem inv_is (A M : Nat) (h2 : 2 ≤ M) (hg : Nat.gcd A M = 1) : invZ A M < M ∧ invZ A M * A % M = 1 := by
 unfold invZ
 rw [if_neg (by omega), if_pos hg]
 obtain ⟨x, hx, h⟩ := inv_there A M h2 hg
 rw [inv_unique A M x hx h]
 exact ⟨hx, h⟩
section
variable {P : Program} {o : Oper} {ρ : Operand → Value}
theorem exec_quo_i (t : TypeId) (x y : Operand) (u : TypeId) (ho : o.op = .binOp .quo t x y u) (n m : Nat) (hx : ρ x = .int .i64 n) (hy : ρ y = .int .i64 m) (hm : 0 < m) (hn : n < 9223372036854775808) (w : World) :
  (execOp ρ o).run P w = .ok (.value (.int .i64 ((n / m : Nat) : Int))) w := by
 have h0 : ¬ (m = 0) := by omega
 have h2 : n / m ≤ n := Nat.div_le_self _ _
 have h3 := wrap_i64 (n / m) (by omega)
 rw [Int.natCast_ediv] at h3 ⊢
 unfold execOp
 simp only [ho, hx, hy]
 simp [go_sem]
 rw [if_neg h0, h3]
theorem exec_rem_i (t : TypeId) (x y : Operand) (u : TypeId) (ho : o.op = .binOp .rem t x y u) (n m : Nat) (hx : ρ x = .int .i64 n) (hy : ρ y = .int .i64 m) (hm : 0 < m) (w : World) :
  (execOp ρ o).run P w = .ok (.value (.int .i64 ((n % m : Nat) : Int))) w := by
 have h0 : ¬ (m = 0) := by omega
 unfold execOp
 simp only [ho, hx, hy]
 simp [go_sem]
 rw [if_neg h0, Int.tmod_eq_emod_of_nonneg (by omega)]
theorem exec_shr_i (t : TypeId) (x y : Operand) (u : TypeId) (ho : o.op = .binOp .shr t x y u) (n s : Nat) (hx : ρ x = .int .i64 n) (hy : ρ y = .int .i64 s) (hs : s < 64) (w : World) :
  (execOp ρ o).run P w = .ok (.value (.int .i64 ((n / 2 ^ s : Nat) : Int))) w := by
 unfold execOp
 simp only [ho, hx, hy]
 simp [go_sem]
theorem exec_bits_i (b : BinOp) (t : TypeId) (x y : Operand) (u : TypeId) (hb : b = .and ∨ b = .or) (ho : o.op = .binOp b t x y u) (n m : Int) (hx : ρ x = .int .i64 n) (hy : ρ y = .int .i64 m) (w : World) :
  (execOp ρ o).run P w = .ok (.value (.int .i64 (bits b .i64 n m))) w := by
 unfold execOp
 simp only [ho, hx, hy]
 rcases hb with rfl | rfl
 ·simp [go_sem]
 ·simp [go_sem]
theorem exec_shl_i (t : TypeId) (x y : Operand) (u : TypeId) (ho : o.op = .binOp .shl t x y u) (n s : Nat) (hx : ρ x = .int .i64 n) (hy : ρ y = .int .i64 s) (hs : s < 64) (w : World) :
  (execOp ρ o).run P w = .ok (.value (.int .i64 (IntKind.i64.wrap ((n : Int) * 2 ^ s)))) w := by
 unfold execOp
 simp only [ho, hx, hy]
 simp [go_sem]
theorem exec_add_i (t : TypeId) (x y : Operand) (u : TypeId) (ho : o.op = .binOp .add t x y u) (n m : Int) (hx : ρ x = .int .i64 n) (hy : ρ y = .int .i64 m) (w : World) :
  (execOp ρ o).run P w = .ok (.value (.int .i64 (IntKind.i64.wrap (n + m)))) w := by
 unfold execOp
 simp only [ho, hx, hy]
 simp [go_sem]
theorem exec_mul_i (t : TypeId) (x y : Operand) (u : TypeId) (ho : o.op = .binOp .mul t x y u) (n m : Int) (hx : ρ x = .int .i64 n) (hy : ρ y = .int .i64 m) (w : World) :
  (execOp ρ o).run P w = .ok (.value (.int .i64 (IntKind.i64.wrap (n * m)))) w := by
 unfold execOp
 simp only [ho, hx, hy]
 simp [go_sem]
theorem exec_not (t : TypeId) (x : Operand) (ho : o.op = .unOp .not t x) (b : Bool) (hx : ρ x = .bool b) (w : World) : (execOp ρ o).run P w = .ok (.value (.bool (!b))) w := by
 unfold execOp
 simp only [ho, hx]
 simp [go_sem]
end
end Go.Proofs.YtgdalihjpemjiaaGreat
