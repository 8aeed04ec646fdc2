/- The document's Mul: the product, digit by digit. -/
import Derived.Test.YtmmjjohnejimdaaDMulMath
import Derived.Test.YtmmjjohnejimdaaWInvMath
namespace Go.Proofs.Ytmmjjohnejimdaa
open Go.RowKit

theorem cast_quo (u p c : Nat) : (((u + p + c) / 65536 : Nat) : Int) = ((u : Int) + (p : Int) + c) / 65536 := by omega
theorem cast_rem (u p c : Nat) : (((u + p + c) % 65536 : Nat) : Int) = ((u : Int) + (p : Int) + c) % 65536 := by omega
/-- The rows that Mul holds on to. -/
structure MulH (wr w : World) (g6 g7 g8 A B V : Nat) : Prop where
  r4 : Row wr (w.heap.size + 1 + 1) (natC 0) 24
  r5 : Row wr (w.heap.size + 1 + 1 + 1) (natC 0) 24
  x : Row wr g6 (digC A) 50
  y : Row wr g7 (digC B) 50
  o : Row wr g8 (digC V) 50
  below : Below w.heap.size w wr
theorem MulH.set {wr w : World} {g6 g7 g8 A B V V' : Nat} (h : MulH wr w g6 g7 g8 A B V) (i : Nat) (v : Value) (hv : (digC V).setIfInBounds i v = digC V') (h6 : g6 ≠ g8) (h7 : g7 ≠ g8) (h8 : w.heap.size + 1 + 1 + 1 < g8) :
    MulH (wr.setCell ⟨g8, i, none⟩ v) w g6 g7 g8 A B V' :=
  ⟨h.r4.setCell_far _ _ _ (by omega), h.r5.setCell_far _ _ _ (by omega), h.x.setCell_far _ _ _ h6, h.y.setCell_far _ _ _ h7, hv ▸ h.o.setCell i v, below_setCell h.below (by omega) _ _⟩
theorem MulH.dn {wr w : World} {g6 g7 g8 A B V : Nat} (h : MulH wr w g6 g7 g8 A B V) (n : Nat) : MulH (wr.drewN n) w g6 g7 g8 A B V := ⟨h.r4, h.r5, h.x, h.y, h.o, below_dn h.below n⟩

set_option maxRecDepth 100000 in
set_option maxHeartbeats 2000000 in
theorem rmul_core (A B S T : Nat) (w : World) (hA : A < 2 ^ 256) (hB : B < 2 ^ 256)
    (hN : ∀ w', Calls Try.prog 40 #[.agg (digC (A * B))] w' fun e w2 => e = .returned (.tuple #[.agg (natC S), .agg (natC T)]) ∧ Below w'.heap.size w' w2) :
    Calls Try.prog 10 #[.agg (natC A), .agg (natC B)] w fun e w' => e = .returned (.tuple #[.agg (natC S), .agg (natC T)]) ∧ Below w.heap.size w w' := by
  have s0 : Row ((((w.alloc (.cells (natC A) 24)).alloc (.cells (natC B) 24)).alloc (.cells (natC 0) 24)).alloc (.cells (natC 0) 24)) w.heap.size (natC A) 24 := ((((Row.here (by first | rfl | simp only [alloc_size])).alloc _).alloc _).alloc _)
  have s1 : Row ((((w.alloc (.cells (natC A) 24)).alloc (.cells (natC B) 24)).alloc (.cells (natC 0) 24)).alloc (.cells (natC 0) 24)) (w.heap.size + 1) (natC B) 24 := (((Row.here (by first | rfl | simp only [alloc_size])).alloc _).alloc _)
  have s2 : Row ((((w.alloc (.cells (natC A) 24)).alloc (.cells (natC B) 24)).alloc (.cells (natC 0) 24)).alloc (.cells (natC 0) 24)) (w.heap.size + 1 + 1) (natC 0) 24 := ((Row.here (by first | rfl | simp only [alloc_size])).alloc _)
  have s3 : Row ((((w.alloc (.cells (natC A) 24)).alloc (.cells (natC B) 24)).alloc (.cells (natC 0) 24)).alloc (.cells (natC 0) 24)) (w.heap.size + 1 + 1 + 1) (natC 0) 24 := (Row.here (by first | rfl | simp only [alloc_size]))
  have sb : Below w.heap.size w ((((w.alloc (.cells (natC A) 24)).alloc (.cells (natC B) 24)).alloc (.cells (natC 0) 24)).alloc (.cells (natC 0) 24)) := (by repeat (first | exact Below.refl _ _ | refine Below.alloc ?_ (by simp <;> omega) _))
  have hoA := fun w' => dof_any A 0 w' hA
  have hoB := fun w' => dof_any B 0 w' hB
  rw [Nat.mul_zero, Nat.add_zero] at hoA hoB
  have HH : Hid (A < 2 ^ 256 ∧ B < 2 ^ (16 * 16)) := ⟨hA, hB⟩
  clear hA hB
  go_enter Try.func10, Try.ntmps10
  go_wp2_with (first
    | refine wpList_box_row rfl 24 _ rfl _ rfl ?_
    | refine wpList_alloc_row rfl 24 rfl _ zero_nat ?_)
  simp only [alloc_size]
  generalize ((((w.alloc (.cells (natC A) 24)).alloc (.cells (natC B) 24)).alloc (.cells (natC 0) 24)).alloc (.cells (natC 0) 24)) = W at *
  apply wp_region_mix (by kernel_rfl) [] [_, _, _, _, _, _, _, _, _, _] trivial List.nodup_nil
  · intro p
    refine mx_load 24 _ rfl _ rfl s0 (by simp <;> omega) 4 _ Try.underlying24 size_nat ?_
    simp only [Act.put, List.setIfInBounds_toArray, List.set_cons_zero, List.set_cons_succ]
    refine mx_val (.agg (natC 0)) (exec_build0 24 rfl _ built_nat) ?_
    simp only [Act.put, List.setIfInBounds_toArray, List.set_cons_zero, List.set_cons_succ]
    refine mx_call 39 _ _ rfl Try.func39 (by kernel_rfl) #[.agg (natC A), .agg (natC 0)] rfl _ hoA ?_
    simp only [Act.put, List.setIfInBounds_toArray, List.set_cons_zero, List.set_cons_succ]
    refine mx_load 24 _ rfl _ rfl s1 (by simp <;> omega) 4 _ Try.underlying24 size_nat ?_
    simp only [Act.put, List.setIfInBounds_toArray, List.set_cons_zero, List.set_cons_succ]
    refine mx_val (.agg (natC 0)) (exec_build0 24 rfl _ built_nat) ?_
    simp only [Act.put, List.setIfInBounds_toArray, List.set_cons_zero, List.set_cons_succ]
    refine mx_call 39 _ _ rfl Try.func39 (by kernel_rfl) #[.agg (natC B), .agg (natC 0)] rfl _ hoB ?_
    simp only [Act.put, List.setIfInBounds_toArray, List.set_cons_zero, List.set_cons_succ]
    refine mx_new 50 rfl _ zero_dig ?_
    simp only [Act.put, List.setIfInBounds_toArray, List.set_cons_zero, List.set_cons_succ]
    refine mx_new 50 rfl _ zero_dig ?_
    simp only [Act.put, List.setIfInBounds_toArray, List.set_cons_zero, List.set_cons_succ]
    refine mx_put 13 50 _ _ rfl rfl rfl (digC A) rfl (by rw [digC_size]; exact size_dig) (by simp only [digC_size]) (digC_one _) ?_
    simp only [Act.put]
    refine mx_put 15 50 _ _ rfl rfl rfl (digC B) rfl (by rw [digC_size]; exact size_dig) (by simp only [digC_size]) (digC_one _) ?_
    simp only [Act.put]
    refine mx_end ?_
    intro w2 hkw hrw hnew hdis
    have t6 : Row w2 (p 6) (digC A) 50 := hrw 13 (50, digC A) rfl
    have t7 : Row w2 (p 7) (digC B) 50 := hrw 15 (50, digC B) rfl
    have t4 := hkw.row s2 (by simp)
    have t5 := hkw.row s3 (by simp)
    have tb := sb.trans (hkw.below w.heap.size sb.size (by simp))
    have l5 := t5.lt
    have l6 := t6.lt
    have l7 := t7.lt
    clear hkw hrw hnew hdis s0 s1 s2 s3 sb hoA hoB
    generalize p 6 = g6 at *
    generalize p 7 = g7 at *
    go_wp2_with (first
      | refine wpList_build_zero rfl 50 rfl _ built_dig ?_
      | refine wpList_alloc_row rfl 50 rfl _ zero_dig ?_
      | refine wpList_store_new rfl 50 _ _ rfl _ rfl rfl _ _ (by rw [digC_size]; exact size_dig) (by simp only [digC_size]) (digC_one _) ?_)
    have H0 : MulH (w2.alloc (.cells (digC 0) 50)) w g6 g7 w2.heap.size A B 0 := ⟨t4.alloc _, t5.alloc _, t6.alloc _, t7.alloc _, Row.new _ _ _, tb.alloc tb.size _⟩
    clear t4 t5 t6 t7 tb
    generalize w2.alloc (.cells (digC 0) 50) = w3 at *
    generalize w2.heap.size = g8 at *
    have HX : Hid (w.heap.size + 1 + 1 + 1 < g8 ∧ g6 ≠ g8 ∧ g7 ≠ g8) := ⟨l5, by omega, by omega⟩
    clear l5 l6 l7
    go_loopg [9] 16 (fun g s9 wr => ∃ i : Nat, i + g = 16 ∧ s9 = .int .i64 i ∧ MulH wr w g6 g7 g8 A B (A % 2 ^ (16 * i) * B))
    case atStart => exact ⟨0, by omega, rfl, by rw [Nat.mul_zero, Nat.pow_zero, Nat.mod_one, Nat.zero_mul]; exact H0⟩
    case round =>
      obtain ⟨i, hi, rfl, hH⟩ := hrel
      clear H0
      cases gk with
      | zero =>
        obtain rfl : i = 16 := by omega
        rw [show A % 2 ^ (16 * 16) = A from Nat.mod_eq_of_lt HH.out.1] at hH
        clear hi HH
        have ho := hH.o
        have hx : ¬ ((16 : Int) < 16) := by omega
        have h4 := hH.r4
        have h5 := hH.r5
        have hbe := hH.below
        clear hH
        go_wp2_with (first
          | refine wpList_loadR rfl 50 _ rfl _ rfl ho 32 _ Try.underlying50 (by rw [digC_size]; exact size_dig) ?_)
        refine (hN _).mono ?_
        rintro e w5 ⟨rfl, hb5⟩
        have k4 := h4.belowAll hb5
        have k5 := h5.belowAll hb5
        have k5' := k5.setRow_far (w.heap.size + 1 + 1) (natC S) (by omega)
        have kb := below_setRow (below_setRow (below_on hbe (Nat.le_refl _) hb5) (g := w.heap.size + 1 + 1) (by omega) (natC S)) (g := w.heap.size + 1 + 1 + 1) (by omega) (natC T)
        clear ho h4 h5 hbe hb5 hN HX
        go_wp2_with (first
          | refine wpList_storeR rfl 24 _ _ rfl (w.heap.size + 1 + 1) _ (by first | rfl | (unfold Act.eval Act.put; simp; done) | (unfold Act.eval; simp; done)) rfl k4 (by exact size_nat) (by simp only [natC_size]) (natC_one _) ?_
          | refine wpList_storeR rfl 24 _ _ rfl (w.heap.size + 1 + 1 + 1) _ (by first | rfl | (unfold Act.eval Act.put; simp; done) | (unfold Act.eval; simp; done)) rfl k5' (by exact size_nat) (by simp only [natC_size]) (natC_one _) ?_)
        exact ret_rows2 rfl _ rfl ((k4.setRow (natC S)).setRow_far _ _ (by omega)) _ rfl (k5'.setRow (natC T)) 4 _ Try.underlying24 (by exact size_nat) (by exact size_nat) rfl ⟨rfl, kb⟩
      | succ g =>
        have hlt : (i : Int) < 16 := by omega
        have HI : Hid (Sm A B i 0 (A % 2 ^ (16 * i) * B) 0) := sm_first A B i _ rfl HH.out.2
        generalize A % 2 ^ (16 * i) * B = V0 at *
        go_wp2
        go_loopg [10, 11] 16 (fun g s10 s11 wr => ∃ (k U c : Nat), k + g = 16 ∧ s10 = .int .i64 c ∧ s11 = .int .i64 k ∧ Sm A B i k U c ∧ MulH wr w g6 g7 g8 A B U)
        case atStart => exact ⟨0, V0, 0, by omega, rfl, rfl, HI.out, hH⟩
        case round =>
          obtain ⟨k, U, c, hk, rfl, rfl, hS, hU⟩ := hrel
          clear hH HI
          cases gk with
          | zero =>
            obtain rfl : k = 16 := by omega
            have hset := sm_last A B i U c HH.out.2 hS
            have hc8 := cell_dig hU.o (i + 16) (by omega)
            have hf8 := hU.o.frozen (i + 16)
            have hcl : c < 65536 := hS.2.2
            have HS : Aside ((digC U).setIfInBounds (i + 16) (.int .i64 (c : Nat)) = digC (A % 2 ^ (16 * (i + 1)) * B) ∧ MulH wr w g6 g7 g8 A B U) := ⟨hset, hU⟩
            have hx : ¬ ((16 : Int) < 16) := by omega
            clear hset hU hS hk
            go_wp2
            obtain ⟨hset, hU⟩ := HS.out
            obtain ⟨x1, x2, x3⟩ := HX.out
            go_roundg g
            case measure => omega
            case rel =>
              exact ⟨i + 1, by omega, by go_num, hU.set _ _ hset x2 x3 x1⟩
          | succ g' =>
            have hkl : (k : Int) < 16 := by omega
            obtain ⟨ht, hnx⟩ := sm_next A B i k U c _ (by omega) hS rfl
            have hc6 := cell_dig hU.x i (by omega)
            have hc7 := cell_dig hU.y k (by omega)
            have hc8 := cell_dig hU.o (i + k) (by omega)
            have hf8 := hU.o.frozen (i + k)
            have hset := putD_cells U (i + k) ((dg U (i + k) + dg A i * dg B k + c) % 65536) (by omega)
            have HS : Aside ((digC U).setIfInBounds (i + k) (.int .i64 ((dg U (i + k) + dg A i * dg B k + c) % 65536 : Nat)) = digC (putD U (i + k) ((dg U (i + k) + dg A i * dg B k + c) % 65536)) ∧ Sm A B i (k + 1) (putD U (i + k) ((dg U (i + k) + dg A i * dg B k + c) % 65536)) ((dg U (i + k) + dg A i * dg B k + c) / 65536) ∧ MulH wr w g6 g7 g8 A B U) := ⟨hset, hnx, hU⟩
            have ha := dg_lt A i
            have hb := dg_lt B k
            have hu := dg_lt U (i + k)
            have hcl : c < 65536 := hS.2.2
            have hp : dg A i * dg B k ≤ 4294836225 := Nat.mul_le_mul (show dg A i ≤ 65535 by omega) (show dg B k ≤ 65535 by omega)
            clear hset hU hS hnx
            generalize dg A i = a at *
            generalize dg B k = b at *
            generalize dg U (i + k) = u at *
            have e1 := and_digit_i (u + a * b + c) (by omega)
            rw [show ((u + a * b + c : Nat) : Int) = (u : Int) + (a : Int) * b + c by push_cast; rfl] at e1
            go_wp2
            go_quiet (fail)
            go_wp2
            obtain ⟨hset, hnx, hU⟩ := HS.out
            obtain ⟨x1, x2, x3⟩ := HX.out
            go_roundg g'
            case measure => omega
            case rel =>
              refine ⟨k + 1, _, _, by omega, ?_, by go_num, hnx, ?_⟩
              · rw [cast_quo, Int.natCast_mul]
              · have := (hU.dn nq).set (i + k) _ hset x2 x3 x1
                rw [cast_rem, Int.natCast_mul] at this
                exact this
  · kernel_rfl
theorem rmul_any (A B : Nat) (w : World) (hA : A < 2 ^ 256) (hB : B < 2 ^ 256) :
    Calls Try.prog 10 #[.agg (natC A), .agg (natC B)] w fun e w' => e = .returned (.tuple #[.agg (natC (A * B)), .agg (natC (A * B / 2 ^ 256))]) ∧ Below w.heap.size w w' :=
  rmul_core A B (A * B) (A * B / 2 ^ 256) w hA hB fun w' => nats_any (A * B) w'
end Go.Proofs.Ytmmjjohnejimdaa
