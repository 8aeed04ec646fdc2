/- The document's twice, less and below: digits twice, digits less others, whether digits are below others. -/
import Derived.Test.YtmmjjohnejimdaaDTypes
import Derived.Test.YtmmjjohnejimdaaQuiet
namespace Go.Proofs.Ytmmjjohnejimdaa
open Go.RowKit

/-- What goes over into digit k when A is taken twice, and c added. -/
def tw (A c k : Nat) : Nat := (2 * (A % 2 ^ (16 * k)) + c) / 2 ^ (16 * k)
theorem tw_zero (A c : Nat) : tw A c 0 = c := by unfold tw; rw [Nat.mul_zero, Nat.pow_zero, Nat.mod_one, Nat.div_one]; omega
theorem tw_le (A c k : Nat) (hc : c ≤ 1) : tw A c k ≤ 1 := by
  unfold tw
  have hP := Nat.two_pow_pos (16 * k)
  have h := Nat.mod_lt A hP
  generalize 2 ^ (16 * k) = P at *
  have : (2 * (A % P) + c) / P < 2 := (Nat.div_lt_iff_lt_mul hP).2 (by omega)
  omega
theorem tw_core (A c P : Nat) (hP : 0 < P) : (2 * A + c) / P = 2 * (A / P) + (2 * (A % P) + c) / P := by
  have h := Nat.div_add_mod A P
  have e : 2 * A + c = P * (2 * (A / P)) + (2 * (A % P) + c) := by
    rw [← Nat.mul_assoc, Nat.mul_comm P 2, Nat.mul_assoc]; omega
  rw [e, Nat.mul_add_div hP]
theorem tw_digit (A c k : Nat) : dg (2 * A + c) k = (2 * dg A k + tw A c k) % 65536 := by
  unfold dg tw
  rw [tw_core A c _ (Nat.two_pow_pos _)]
  omega
theorem tw_next (A c k : Nat) : tw A c (k + 1) = (2 * dg A k + tw A c k) / 65536 := by
  unfold tw
  rw [mod_digit, pow_digit, ← Nat.div_div_eq_div_mul]
  have hP := Nat.two_pow_pos (16 * k)
  generalize 2 ^ (16 * k) = P at *
  generalize A % P = a at *
  generalize dg A k = d at *
  rw [show 2 * (a + P * d) + c = P * (2 * d) + (2 * a + c) by rw [← Nat.mul_assoc, Nat.mul_comm P 2, Nat.mul_assoc]; omega, Nat.mul_add_div hP]

set_option maxRecDepth 100000 in
set_option maxHeartbeats 400000 in
theorem twice_any (A c : Nat) (w : World) (hc : c ≤ 1) :
    Calls Try.prog 65 #[.agg (digC A), .int .i64 c] w fun e w' => e = .returned (.agg (digC (2 * A + c))) ∧ Below w.heap.size w w' := by
  go_enter Try.func65, Try.ntmps65
  go_wp2_with (first
    | refine wpList_box_row rfl 50 _ rfl _ rfl ?_
    | refine wpList_alloc_row rfl 50 rfl _ zero_dig ?_
    | refine wpList_build_zero rfl 50 rfl _ built_dig ?_
    | refine wpList_store_new rfl 50 _ _ rfl _ rfl rfl _ _ (by rw [digC_size]; exact size_dig) (by simp only [digC_size]) (digC_one _) ?_)
  have s0 : Row (((w.alloc (.cells (digC A) 50)).alloc (.cells (digC 0) 50)).alloc (.cells (digC 0) 50)) w.heap.size (digC A) 50 := (((Row.here (by first | rfl | simp only [alloc_size])).alloc _).alloc _)
  have s1 : Row (((w.alloc (.cells (digC A) 50)).alloc (.cells (digC 0) 50)).alloc (.cells (digC 0) 50)) (w.heap.size + 1) (digC 0) 50 := ((Row.here (by first | rfl | simp only [alloc_size])).alloc _)
  have s2 : Row (((w.alloc (.cells (digC A) 50)).alloc (.cells (digC 0) 50)).alloc (.cells (digC 0) 50)) (w.heap.size + 1 + 1) (digC 0) 50 := (Row.here (by first | rfl | simp only [alloc_size]))
  have s3 := below_alloc3 (w := w) (.cells (digC A) 50) (.cells (digC 0) 50) (.cells (digC 0) 50)
  generalize (((w.alloc (.cells (digC A) 50)).alloc (.cells (digC 0) 50)).alloc (.cells (digC 0) 50)) = W at *
  go_loopg [6, 7] 32 (fun g s6 s7 wr => ∃ k : Nat, k + g = 32 ∧ s6 = .int .i64 (tw A c k : Nat) ∧ s7 = .int .i64 k ∧ Row wr w.heap.size (digC A) 50 ∧ Row wr (w.heap.size + 1) (digC 0) 50 ∧ Row wr (w.heap.size + 1 + 1) (digC ((2 * A + c) % 2 ^ (16 * k))) 50 ∧ Below w.heap.size w wr)
  case atStart => exact ⟨0, by omega, by rw [tw_zero], rfl, s0, s1, by rw [Nat.mul_zero, Nat.pow_zero, Nat.mod_one]; exact s2, s3⟩
  case round =>
    obtain ⟨k, hk, rfl, rfl, r0, r1, r2, hb⟩ := hrel
    clear s0 s1 s2 s3
    cases gk with
    | zero =>
      obtain rfl : k = 32 := by omega
      rw [digC_full] at r2
      clear hk
      have hx : ¬ ((32 : Int) < 32) := by omega
      go_wp2_with (first
        | refine wpList_loadR rfl 50 _ rfl _ rfl r2 32 _ Try.underlying50 (by rw [digC_size]; exact size_dig) ?_
        | refine wpList_storeR rfl 50 _ _ rfl _ _ rfl rfl r1 (by rw [digC_size]; exact size_dig) (by simp only [digC_size]) (digC_one _) ?_)
      exact ret_row rfl _ rfl (r1.setRow _) 32 _ Try.underlying50 (by rw [digC_size]; exact size_dig) rfl ⟨rfl, below_setRow hb (by omega) _⟩
    | succ g =>
      have hlt : (k : Int) < 32 := by omega
      have hc0 := cell_dig r0 k (by omega)
      have hc2 := cell_dig r2 k (by omega)
      have hf2 := r2.frozen k
      have R : Aside (Row wr w.heap.size (digC A) 50 ∧ Row wr (w.heap.size + 1) (digC 0) 50 ∧ Row wr (w.heap.size + 1 + 1) (digC ((2 * A + c) % 2 ^ (16 * k))) 50 ∧ Below w.heap.size w wr) := ⟨r0, r1, r2, hb⟩
      have D : Aside (dg (2 * A + c) k = (2 * dg A k + tw A c k) % 65536 ∧ tw A c (k + 1) = (2 * dg A k + tw A c k) / 65536) := ⟨tw_digit A c k, tw_next A c k⟩
      have d0 := dg_lt A k
      have d1 := tw_le A c k hc
      clear r0 r1 r2 hb
      generalize dg A k = d at *
      generalize tw A c k = t at *
      have e1 := and_digit_i (2 * d + t) (by omega)
      rw [show ((2 * d + t : Nat) : Int) = 2 * (d : Int) + t by omega] at e1
      go_wp2
      obtain ⟨r0, r1, r2, hb⟩ := R.out
      obtain ⟨h1, h2⟩ := D.out
      go_roundg g
      case measure => omega
      case rel =>
        refine ⟨k + 1, by omega, ?_, by go_num, r0.setCell_far _ _ _ (by omega), r1.setCell_far _ _ _ (by omega), ?_, below_setCell hb (by omega) _ _⟩
        · rw [h2]; go_num
        · have := r2.setCell k (.int .i64 ((2 * d + t) % 65536 : Nat))
          rw [digC_snoc (2 * A + c) k _ h1.symm] at this
          exact this

theorem less_core (A B P : Nat) (hP : 0 < P) (h : B ≤ A) : (A - B) / P = A / P - B / P - if A % P < B % P then 1 else 0 := by
  have ha := Nat.div_add_mod A P
  have hb := Nat.div_add_mod B P
  have ma := Nat.mod_lt A hP
  have mb := Nat.mod_lt B hP
  have hle : B / P ≤ A / P := Nat.div_le_div_right h
  generalize A / P = x at *
  generalize B / P = y at *
  generalize A % P = a at *
  generalize B % P = b at *
  obtain ⟨z, rfl⟩ : ∃ z, x = y + z := ⟨x - y, by omega⟩
  have e : P * (y + z) = P * y + P * z := Nat.mul_add _ _ _
  split
  · cases z with
    | zero => rw [Nat.mul_zero] at e; omega
    | succ z =>
      have e2 : P * (z + 1) = P * z + P := by rw [Nat.mul_add, Nat.mul_one]
      rw [show A - B = P * z + (P + a - b) by omega, Nat.mul_add_div hP, Nat.div_eq_of_lt (by omega)]
      omega
  · rw [show A - B = P * z + (a - b) by omega, Nat.mul_add_div hP, Nat.div_eq_of_lt (by omega)]
    omega
theorem ls_digit (A B k : Nat) (h : B ≤ A) : dg (A - B) k = (dg A k + 65536 - dg B k - bN A B (16 * k)) % 65536 := by
  unfold dg bN
  rw [less_core A B _ (Nat.two_pow_pos _) h]
  have hle : B / 2 ^ (16 * k) ≤ A / 2 ^ (16 * k) := Nat.div_le_div_right h
  have hs : A % 2 ^ (16 * k) < B % 2 ^ (16 * k) → B / 2 ^ (16 * k) < A / 2 ^ (16 * k) := fun hm => by
    have ha := Nat.div_add_mod A (2 ^ (16 * k))
    have hb := Nat.div_add_mod B (2 ^ (16 * k))
    rcases Nat.lt_or_eq_of_le hle with h1 | h1
    · exact h1
    · rw [h1] at hb; omega
  generalize A / 2 ^ (16 * k) = x at *
  generalize B / 2 ^ (16 * k) = y at *
  split
  · have := hs (by assumption); omega
  · omega
theorem ls_borrow (A B k : Nat) : bN A B (16 * (k + 1)) = if dg A k < dg B k + bN A B (16 * k) then 1 else 0 := by
  have hP := Nat.two_pow_pos (16 * k)
  have ha := Nat.mod_lt A hP
  have hb := Nat.mod_lt B hP
  unfold bN
  rw [mod_digit, mod_digit]
  generalize dg A k = x at *
  generalize dg B k = y at *
  generalize 2 ^ (16 * k) = P at *
  generalize A % P = a at *
  generalize B % P = b at *
  have key : ∀ u v : Nat, u ≤ v → P * u ≤ P * v := fun u v h => Nat.mul_le_mul_left P h
  obtain ⟨c, hc, e⟩ : ∃ c, (if a < b then 1 else 0) = c ∧ ((a < b ∧ c = 1) ∨ (¬ a < b ∧ c = 0)) := ⟨_, rfl, by
    by_cases hc : a < b
    · exact .inl ⟨hc, if_pos hc⟩
    · exact .inr ⟨hc, if_neg hc⟩⟩
  rw [hc]
  rcases Nat.lt_trichotomy x y with h | h | h
  · have := key (x + 1) y h
    rw [Nat.mul_add, Nat.mul_one] at this
    rw [if_pos (by omega), if_pos (by omega)]
  · subst h
    rcases e with ⟨e1, e2⟩ | ⟨e1, e2⟩
    · rw [if_pos (by omega), if_pos (by omega)]
    · rw [if_neg (by omega), if_neg (by omega)]
  · have := key (y + 1) x h
    rw [Nat.mul_add, Nat.mul_one] at this
    rw [if_neg (by omega), if_neg (by omega)]

set_option maxRecDepth 100000 in
set_option maxHeartbeats 400000 in
theorem less_any (A B : Nat) (w : World) (h : B ≤ A) :
    Calls Try.prog 67 #[.agg (digC A), .agg (digC B)] w fun e w' => e = .returned (.agg (digC (A - B))) ∧ Below w.heap.size w w' := by
  have HL : Hid (B ≤ A) := h
  clear h
  go_enter Try.func67, Try.ntmps67
  go_wp2_with (first
    | refine wpList_box_row rfl 50 _ rfl _ rfl ?_
    | refine wpList_alloc_row rfl 50 rfl _ zero_dig ?_
    | refine wpList_build_zero rfl 50 rfl _ built_dig ?_
    | refine wpList_store_new rfl 50 _ _ rfl _ rfl rfl _ _ (by rw [digC_size]; exact size_dig) (by simp only [digC_size]) (digC_one _) ?_)
  have s0 : Row ((((w.alloc (.cells (digC A) 50)).alloc (.cells (digC B) 50)).alloc (.cells (digC 0) 50)).alloc (.cells (digC 0) 50)) w.heap.size (digC A) 50 := ((((Row.here (by first | rfl | simp only [alloc_size])).alloc _).alloc _).alloc _)
  have s1 : Row ((((w.alloc (.cells (digC A) 50)).alloc (.cells (digC B) 50)).alloc (.cells (digC 0) 50)).alloc (.cells (digC 0) 50)) (w.heap.size + 1) (digC B) 50 := (((Row.here (by first | rfl | simp only [alloc_size])).alloc _).alloc _)
  have s2 : Row ((((w.alloc (.cells (digC A) 50)).alloc (.cells (digC B) 50)).alloc (.cells (digC 0) 50)).alloc (.cells (digC 0) 50)) (w.heap.size + 1 + 1) (digC 0) 50 := ((Row.here (by first | rfl | simp only [alloc_size])).alloc _)
  have s3 : Row ((((w.alloc (.cells (digC A) 50)).alloc (.cells (digC B) 50)).alloc (.cells (digC 0) 50)).alloc (.cells (digC 0) 50)) (w.heap.size + 1 + 1 + 1) (digC 0) 50 := (Row.here (by first | rfl | simp only [alloc_size]))
  have s4 : Below w.heap.size w ((((w.alloc (.cells (digC A) 50)).alloc (.cells (digC B) 50)).alloc (.cells (digC 0) 50)).alloc (.cells (digC 0) 50)) := (by repeat (first | exact Below.refl _ _ | refine Below.alloc ?_ (by simp <;> omega) _))
  generalize ((((w.alloc (.cells (digC A) 50)).alloc (.cells (digC B) 50)).alloc (.cells (digC 0) 50)).alloc (.cells (digC 0) 50)) = W at *
  go_loopg [5, 7] 32 (fun g s5 s7 wr => ∃ k : Nat, k + g = 32 ∧ s5 = .int .i64 (bN A B (16 * k) : Nat) ∧ s7 = .int .i64 k ∧ Row wr w.heap.size (digC A) 50 ∧ Row wr (w.heap.size + 1) (digC B) 50 ∧ Row wr (w.heap.size + 1 + 1) (digC 0) 50 ∧ Row wr (w.heap.size + 1 + 1 + 1) (digC ((A - B) % 2 ^ (16 * k))) 50 ∧ Below w.heap.size w wr)
  case atStart => exact ⟨0, by omega, by simp [bN, Nat.mod_one], rfl, s0, s1, s2, by rw [Nat.mul_zero, Nat.pow_zero, Nat.mod_one]; exact s3, s4⟩
  case round =>
    obtain ⟨k, hk, rfl, rfl, r0, r1, r2, r3, hb⟩ := hrel
    clear s0 s1 s2 s3 s4
    cases gk with
    | zero =>
      obtain rfl : k = 32 := by omega
      rw [digC_full] at r3
      clear hk
      have hx : ¬ ((32 : Int) < 32) := by omega
      go_wp2_with (first
        | refine wpList_loadR rfl 50 _ rfl _ rfl r3 32 _ Try.underlying50 (by rw [digC_size]; exact size_dig) ?_
        | refine wpList_storeR rfl 50 _ _ rfl _ _ rfl rfl r2 (by rw [digC_size]; exact size_dig) (by simp only [digC_size]) (digC_one _) ?_)
      exact ret_row rfl _ rfl (r2.setRow _) 32 _ Try.underlying50 (by rw [digC_size]; exact size_dig) rfl ⟨rfl, below_setRow hb (by omega) _⟩
    | succ g =>
      have hlt : (k : Int) < 32 := by omega
      have hc0 := cell_dig r0 k (by omega)
      have hc1 := cell_dig r1 k (by omega)
      have hc3 := cell_dig r3 k (by omega)
      have hf3 := r3.frozen k
      have R : Aside (Row wr w.heap.size (digC A) 50 ∧ Row wr (w.heap.size + 1) (digC B) 50 ∧ Row wr (w.heap.size + 1 + 1) (digC 0) 50 ∧ Row wr (w.heap.size + 1 + 1 + 1) (digC ((A - B) % 2 ^ (16 * k))) 50 ∧ Below w.heap.size w wr) := ⟨r0, r1, r2, r3, hb⟩
      have D : Aside (dg (A - B) k = (dg A k + 65536 - dg B k - bN A B (16 * k)) % 65536 ∧ bN A B (16 * (k + 1)) = if dg A k < dg B k + bN A B (16 * k) then 1 else 0) := ⟨ls_digit A B k HL.out, ls_borrow A B k⟩
      have d0 := dg_lt A k
      have d1 := dg_lt B k
      have d2 := bN_le A B (16 * k)
      clear r0 r1 r2 r3 hb
      generalize dg A k = x at *
      generalize dg B k = y at *
      generalize bN A B (16 * k) = b at *
      by_cases hneg : (x : Int) - y - b < 0
      · go_wp2
        go_quiet (fail)
        go_wp2
        obtain ⟨r0, r1, r2, r3, hb⟩ := R.out
        obtain ⟨h1, h2⟩ := D.out
        go_roundg g
        case measure => omega
        case rel =>
          refine ⟨k + 1, by omega, ?_, by go_num, r0.setCell_far _ _ _ (by omega), r1.setCell_far _ _ _ (by omega), r2.setCell_far _ _ _ (by omega), ?_, below_setCell (below_dn hb nq) (by omega) _ _⟩
          · rw [h2, if_pos (by omega)]; rfl
          · have := r3.setCell k (.int .i64 ((x + 65536 - y - b) % 65536 : Nat))
            rw [digC_snoc (A - B) k _ h1.symm] at this
            rw [show (x : Int) - y - b + 65536 = (((x + 65536 - y - b) % 65536 : Nat) : Int) by omega]
            exact this
      · go_wp2
        go_quiet (fail)
        go_wp2
        obtain ⟨r0, r1, r2, r3, hb⟩ := R.out
        obtain ⟨h1, h2⟩ := D.out
        go_roundg g
        case measure => omega
        case rel =>
          refine ⟨k + 1, by omega, ?_, by go_num, r0.setCell_far _ _ _ (by omega), r1.setCell_far _ _ _ (by omega), r2.setCell_far _ _ _ (by omega), ?_, below_setCell (below_dn hb nq) (by omega) _ _⟩
          · rw [h2, if_neg (by omega)]; rfl
          · have := r3.setCell k (.int .i64 ((x + 65536 - y - b) % 65536 : Nat))
            rw [digC_snoc (A - B) k _ h1.symm] at this
            rw [show (x : Int) - y - b = (((x + 65536 - y - b) % 65536 : Nat) : Int) by omega]
            exact this
end Go.Proofs.Ytmmjjohnejimdaa
