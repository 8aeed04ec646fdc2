/- wide.Gcd. -/
import Derived.Test.YtmmjjohnejimdaaWRem
import Derived.Test.YtmmjjohnejimdaaWMul
namespace Go.Proofs.Ytmmjjohnejimdaa
open Go.RowKit

theorem gcd_turn (x y : Nat) : Nat.gcd y (x % y) = Nat.gcd x y := by
  rw [Nat.gcd_comm x y, Nat.gcd_rec y x, Nat.gcd_comm]
set_option maxRecDepth 100000 in
set_option maxHeartbeats 1000000 in
theorem wgcd_any (A B : Nat) (w : World) (hA : A < 2 ^ 256) (hB : B < 2 ^ 256) :
    Calls Try.prog 24 #[.agg (natC A), .agg (natC B)] w fun e w' => e = .returned (.agg (natC (Nat.gcd A B))) ∧ Below w.heap.size w w' := by
  have H : Hid (A < 2 ^ 256 ∧ B < 2 ^ 256) := ⟨hA, hB⟩
  clear hA hB
  go_enter Try.func24, Try.ntmps24
  go_wp2_with (first
    | refine wpList_box_row rfl 24 _ rfl _ rfl ?_
    | refine wpList_alloc_row rfl 24 rfl _ zero_nat ?_)
  simp only [Act.put, List.setIfInBounds_toArray, List.set_cons_zero, List.set_cons_succ, alloc_size]
  go_loopg [] B (fun g wr => ∃ x y : Nat, y ≤ g ∧ x < 2 ^ 256 ∧ y < 2 ^ 256 ∧ Nat.gcd x y = Nat.gcd A B ∧ Row wr w.heap.size (natC x) 24 ∧ Row wr (w.heap.size + 1) (natC y) 24 ∧ Row wr (w.heap.size + 1 + 1) (natC 0) 24 ∧ Below w.heap.size w wr)
  case atStart =>
    exact ⟨A, B, Nat.le_refl _, H.out.1, H.out.2, rfl, (by repeat (first | (refine Row.here ?_; first | (with_reducible rfl) | (simp; done)) | refine Row.alloc ?_ _)), (by repeat (first | (refine Row.here ?_; first | (with_reducible rfl) | (simp; done)) | refine Row.alloc ?_ _)), (by repeat (first | (refine Row.here ?_; first | (with_reducible rfl) | (simp; done)) | refine Row.alloc ?_ _)), (by repeat (first | exact Below.refl _ _ | refine Below.alloc ?_ (by simp <;> omega) _))⟩
  case round =>
    obtain ⟨x, y, hy, hx2, hy2, hg, r2, r3, r4, hb⟩ := hrel
    rcases Nat.eq_zero_or_pos y with rfl | h0
    · have HV : Hid ((!decide (0 % 2 ^ 256 = 0 % 2 ^ 256)) = false) := rfl
      have HG : Hid (Nat.gcd A B = x) := by show _ = _; rw [← hg, Nat.gcd_zero_right]
      clear hy hx2 hy2 hg H
      go_wp2_with (first
        | refine wpList_build_zero rfl 24 rfl _ built_nat ?_
        | refine wpList_loadR rfl 24 _ rfl _ rfl r3 4 _ Try.underlying24 (by exact size_nat) ?_
        | refine wpList_loadR rfl 24 _ rfl _ rfl r2 4 _ Try.underlying24 (by exact size_nat) ?_
        | refine wpList_value rfl (.bool false) ((exec_neq_nat _ _ _ rfl 0 0 rfl rfl _).trans (by rw [HV.out])) ?_
        | refine wpList_storeR rfl 24 _ _ rfl _ _ rfl rfl r4 (by exact size_nat) (by simp only [natC_size]) (natC_one _) ?_)
      exact ret_row rfl _ rfl (r4.setRow (natC x)) 4 _ Try.underlying24 (by exact size_nat) rfl ⟨by rw [HG.out], below_setRow hb (by omega) _⟩
    · cases gk with
      | zero => omega
      | succ g =>
        have HV : Hid ((!decide (y % 2 ^ 256 = 0 % 2 ^ 256)) = true) := by
          show _ = _
          rw [Nat.mod_eq_of_lt hy2, decide_eq_false (by simp; omega)]
          rfl
        have hre := fun w' => remains_any x y w' hx2 h0 hy2
        have hlt := Nat.mod_lt x h0
        have HX : Hid (x % y ≤ g ∧ y < 2 ^ 256 ∧ x % y < 2 ^ 256 ∧ Nat.gcd y (x % y) = Nat.gcd A B) := ⟨by omega, hy2, by omega, by rw [gcd_turn]; exact hg⟩
        clear hy hx2 hy2 hg H h0 hlt
        generalize x % y = z at *
        go_wp2_with (first
          | refine wpList_build_zero rfl 24 rfl _ built_nat ?_
          | refine wpList_loadR rfl 24 _ rfl _ rfl r3 4 _ Try.underlying24 (by exact size_nat) ?_
          | refine wpList_value rfl (.bool true) ((exec_neq_nat _ _ _ rfl y 0 rfl rfl _).trans (by rw [HV.out])) ?_)
        apply wp_region_mix (by kernel_rfl) [(w.heap.size, 24, natC x), (w.heap.size + 1, 24, natC y)] [_, _, _, _, _, _] ⟨r2, r3, trivial⟩ (by simp <;> omega)
        · intro p
          refine mx_loadT 2 24 _ rfl rfl rfl 4 _ Try.underlying24 size_nat ?_
          simp only [Act.put, List.setIfInBounds_toArray, List.set_cons_zero, List.set_cons_succ]
          refine mx_loadT 0 24 _ rfl rfl rfl 4 _ Try.underlying24 size_nat ?_
          simp only [Act.put, List.setIfInBounds_toArray, List.set_cons_zero, List.set_cons_succ]
          refine mx_loadT 2 24 _ rfl rfl rfl 4 _ Try.underlying24 size_nat ?_
          simp only [Act.put, List.setIfInBounds_toArray, List.set_cons_zero, List.set_cons_succ]
          refine mx_call 42 _ _ rfl Try.func42 (by kernel_rfl) #[.agg (natC x), .agg (natC y)] rfl _ hre ?_
          simp only [Act.put, List.setIfInBounds_toArray, List.set_cons_zero, List.set_cons_succ]
          refine mx_put 0 24 _ _ rfl rfl rfl (natC y) rfl (by exact size_nat) (by simp only [natC_size]) (natC_one _) ?_
          simp only [Act.put]
          refine mx_put 2 24 _ _ rfl rfl rfl (natC z) rfl (by exact size_nat) (by simp only [natC_size]) (natC_one _) ?_
          simp only [Act.put]
          refine mx_end ?_
          intro w7 hkw hrw _ _
          have r2' : Row w7 w.heap.size (natC y) 24 := hrw 0 _ rfl
          have r3' : Row w7 (w.heap.size + 1) (natC z) 24 := hrw 2 _ rfl
          have r4' := hkw.row r4 (by simp <;> omega)
          have hb1 := hb.trans (hkw.below w.heap.size hb.size (by simp <;> omega))
          clear r2 r3 r4 hb hkw hrw hre
          go_wp2
          go_roundg g
          case measure => omega
          case rel =>
            obtain ⟨h1, h2, h3, h4⟩ := HX.out
            exact ⟨y, z, h1, h2, h3, h4, r2', r3', r4', hb1⟩
        · kernel_rfl
end Go.Proofs.Ytmmjjohnejimdaa
/- Plain mathematics: Euclid's way with factors; and the laws for guarded operations of a plain region. -/
namespace Go.Proofs.Ytmmjjohnejimdaa
open Go.RowKit

/-- The sign, as a number. -/
def sg (neg : Bool) : Int := if neg = true then -1 else 1
/-- What is held at each turn: large, small, before, factor, below. -/
structure Iv (A M L S b f : Nat) (neg : Bool) : Prop where
  det : L * f + S * b = M
  lt : S < L
  ne : L ≠ 1
  pos : 1 ≤ f
  gcd : Nat.gcd L S = Nat.gcd A M
  low : (M : Int) ∣ (f : Int) * A - sg neg * S
  high : (M : Int) ∣ (b : Int) * A + sg neg * L
theorem sg_not (neg : Bool) : sg (!neg) = - sg neg := by cases neg <;> rfl
theorem iv_first (A M : Nat) (hM : 2 ≤ M) : Iv A M M (A % M) 0 1 false where
  det := by omega
  lt := Nat.mod_lt _ (by omega)
  ne := by omega
  pos := Nat.le_refl _
  gcd := by rw [gcd_turn]
  low := by
    have h := Nat.div_add_mod A M
    refine ⟨((A / M : Nat) : Int), ?_⟩
    show ((1 : Nat) : Int) * (A : Int) - 1 * ((A % M : Nat) : Int) = _
    have : (A : Int) = (M : Int) * ((A / M : Nat) : Int) + ((A % M : Nat) : Int) := by exact_mod_cast h.symm
    omega
  high := ⟨1, by show ((0 : Nat) : Int) * (A : Int) + 1 * (M : Int) = _; omega⟩
theorem iv_next (A M L S b f : Nat) (neg : Bool) (h : Iv A M L S b f neg) (h0 : 0 < S) (h1 : S ≠ 1) : Iv A M S (L % S) f (b + L / S * f) (!neg) where
  det := by
    have h2 := Nat.div_add_mod L S
    have h3 := h.det
    have e : S * (b + L / S * f) + L % S * f = (S * (L / S) + L % S) * f + S * b := by
      rw [Nat.mul_add, Nat.add_mul, Nat.mul_assoc]; omega
    rw [e, h2]; exact h3
  lt := Nat.mod_lt _ h0
  ne := h1
  pos := by
    have h2 : 1 ≤ L / S := (Nat.le_div_iff_mul_le h0).2 (by have := h.lt; omega)
    have h3 : 1 * 1 ≤ L / S * f := Nat.mul_le_mul h2 h.pos
    omega
  gcd := by rw [gcd_turn]; exact h.gcd
  low := by
    have e : ((b + L / S * f : Nat) : Int) * A - sg (!neg) * ((L % S : Nat) : Int) = ((b : Int) * A + sg neg * L) + ((L / S : Nat) : Int) * ((f : Int) * A - sg neg * S) := by
      have h2 : (L : Int) = (S : Int) * ((L / S : Nat) : Int) + ((L % S : Nat) : Int) := by exact_mod_cast (Nat.div_add_mod L S).symm
      rw [sg_not]
      generalize ((L % S : Nat) : Int) = r at *
      rw [h2]
      push_cast
      generalize ((L : Int) / (S : Int)) = q
      simp only [Int.add_mul, Int.mul_sub, Int.mul_add, Int.neg_mul, Int.sub_neg]
      have e1 : q * (sg neg * (S : Int)) = sg neg * ((S : Int) * q) := by rw [Int.mul_left_comm, Int.mul_comm q]
      have e2 : q * (f : Int) * (A : Int) = q * ((f : Int) * (A : Int)) := Int.mul_assoc _ _ _
      rw [e1, e2]
      omega
    rw [e]
    exact Int.dvd_add h.high (Int.dvd_mul_of_dvd_right h.low)
  high := by
    have e : (f : Int) * A + sg (!neg) * (S : Int) = (f : Int) * A - sg neg * S := by rw [sg_not, Int.neg_mul]; omega
    rw [e]
    exact h.low
/-- The inverse, if there is one. -/
def invV (A M : Nat) : Nat := ((List.range M).find? fun x => x * A % M == 1).getD 0
theorem inv_unique (A M x : Nat) (hx : x < M) (h : x * A % M = 1) : invV A M = x := by
  unfold invV
  cases hf : (List.range M).find? fun x => x * A % M == 1 with
  | none =>
    have := List.find?_eq_none.1 hf x (List.mem_range.2 hx)
    simp [h] at this
  | some y =>
    have h1 := List.find?_some hf
    have h2 : y < M := List.mem_range.1 (List.mem_of_find?_eq_some hf)
    have h3 : y * A % M = 1 := by simpa using h1
    show y = x
    have e1 : y * (x * A) % M = y := by rw [Nat.mul_mod, h, Nat.mul_one, Nat.mod_mod, Nat.mod_eq_of_lt h2]
    have e2 : x * (y * A) % M = x := by rw [Nat.mul_mod, h3, Nat.mul_one, Nat.mod_mod, Nat.mod_eq_of_lt hx]
    exact e1.symm.trans ((show y * (x * A) % M = x * (y * A) % M by rw [Nat.mul_left_comm]).trans e2)
theorem iv_last (A M L b f : Nat) (neg : Bool) (hM : 2 ≤ M) (h : Iv A M L 1 b f neg) : f < M ∧ invV A M = if neg = true then M - f else f := by
  have hd := h.det
  have hl := h.lt
  have hp := h.pos
  have h2 : 2 * f ≤ L * f := Nat.mul_le_mul_right _ hl
  have hf : f < M := by omega
  refine ⟨hf, ?_⟩
  obtain ⟨k, hk⟩ := h.low
  cases neg
  · rw [if_neg (by decide)]
    refine inv_unique A M f hf ?_
    have e : ((f * A : Nat) : Int) = 1 + (M : Int) * k := by
      push_cast
      have : (f : Int) * A - 1 * ((1 : Nat) : Int) = (M : Int) * k := hk
      omega
    have : ((f * A % M : Nat) : Int) = 1 := by
      rw [Int.natCast_emod, e, Int.add_mul_emod_self_left]
      exact Int.emod_eq_of_lt (by omega) (by omega)
    exact_mod_cast this
  · rw [if_pos rfl]
    refine inv_unique A M (M - f) (by omega) ?_
    have e : (((M - f) * A : Nat) : Int) = 1 + (M : Int) * (A - k) := by
      push_cast [Nat.le_of_lt hf]
      have : (f : Int) * A - -1 * ((1 : Nat) : Int) = (M : Int) * k := hk
      rw [Int.sub_mul, Int.mul_sub]
      omega
    have : (((M - f) * A % M : Nat) : Int) = 1 := by
      rw [Int.natCast_emod, e, Int.add_mul_emod_self_left]
      exact Int.emod_eq_of_lt (by omega) (by omega)
    exact_mod_cast this
/-- An empty literal. -/
theorem exec_build0 {P : Program} {o : Oper} {ρ : Operand → Value} (t : TypeId) (ho : o.op = .build t #[]) (c : Array Value) (hb : P.built t [] = some c) (w : World) : (execOp ρ o).run P w = .ok (.value (.agg c)) w := by
  unfold execOp
  simp only [ho, Sem.run_bind, run_build w t #[] c hb, Array.map_empty, Result.andThen_ok]
  rfl
/-- An operation that is carried out, guarded or not. -/
theorem wpList_wanted {P : Program} {ops : Array Oper} {rest : List Oper} {o : Oper} {a : Act} {w : World} {Q : Exit → Act → World → Prop} (hw : Region.wanted o (yielded ops a.tmps) = true)
    (h : ∀ K : Act → World → Prop, (∀ a w, wpList P ops Q rest a w → K a w) → o.wp P a w K Q) : wpList P ops Q (o :: rest) a w :=
  wpList_step fun K hK => by simp only [hw, if_true]; exact h K hK
theorem wpList_loadRg {P : Program} {ops : Array Oper} {rest : List Oper} {o : Oper} {a : Act} {w : World} {Q : Exit → Act → World → Prop} (hw : Region.wanted o (yielded ops a.tmps) = true) (ty : TypeId) (x : Operand) (ho : o.op = .load ty x)
    (g : Nat) (hx : a.eval x = .pointer (some ⟨g, 0, none⟩)) {t : TypeId} {cs : Array Value} (hg : Row w g cs t) (n : Nat) (e : TypeId)
    (hu : P.underlying ty = some (.array n e)) (hi : (P.info? ty).map (·.size) = some cs.size)
    (h : wpList P ops Q rest (a.put o.dst (.agg cs)) w) : wpList P ops Q (o :: rest) a w :=
  wpList_wanted hw fun _ hK => wp_load_row ty x ho g hx t cs (0, 0) _ hg hu rfl hi (hK _ _ h)
theorem wpList_valueg {P : Program} {ops : Array Oper} {rest : List Oper} {o : Oper} {a : Act} {w : World} {Q : Exit → Act → World → Prop} (hw : Region.wanted o (yielded ops a.tmps) = true) (v : Value)
    (hr : (execOp a.eval o).run P w = .ok (.value v) w) (h : wpList P ops Q rest (a.put o.dst v) w) : wpList P ops Q (o :: rest) a w :=
  wpList_wanted hw fun _ hK => by unfold Oper.wp; rw [hr]; exact hK _ _ h
end Go.Proofs.Ytmmjjohnejimdaa
