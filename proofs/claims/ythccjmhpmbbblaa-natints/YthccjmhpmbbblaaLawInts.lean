/- The law NatInts of layer 1 holds for every input: nat.Of and nat.Int answer as the document's bits do, for any int and any natural. No condition. -/
import Derived.Test.YthccjmhpmbbblaaOpen
namespace Go.Proofs.Ythccjmhpmbbblaa.natIntsP
open Go.ChangeShapes Go.WideShapes Go.ChangeAt Go.RowKit
set_option linter.unusedVariables false

theorem call4 (n m : Int) (hm : max n 0 = m) (hn : n ≤ 9223372036854775807) (w : World) : Calls Try.prog 15 #[.agg (natC n.toNat)] w fun e w' => e = .returned (.tuple #[.int .i64 m, .bool true]) ∧ Below w.heap.size w w' := by
  have h := nint_any n.toNat w (Nat.lt_of_le_of_lt (show n.toNat ≤ 9223372036854775807 by omega) (by decide))
  rw [show lowI n.toNat = m by unfold lowI; rw [if_pos (by omega)]; omega, show lowB n.toNat = true from decide_eq_true (by omega)] at h
  exact h

set_option maxRecDepth 100000 in
set_option maxHeartbeats 4000000 in
theorem walk (n : Int) (A : Nat) (w : World) (hn : -9223372036854775808 ≤ n ∧ n ≤ 9223372036854775807) (hA : A < 2 ^ 256) :
    Calls Try.prog 4 #[.int .i64 n, .agg (natC A)] w fun e w' => e = .returned (.bool true) ∧ Below w.heap.size w w' := by
  have HA : Hid (A < 2 ^ 256) := hA
  have HN : Hid (n ≤ 9223372036854775807) := hn.2
  obtain ⟨m, hm⟩ : ∃ m, max n 0 = m := ⟨_, rfl⟩
  have HM : Hid (max n 0 = m) := hm
  clear hA hn
  have rA := Row.new w (natC A) 24
  have b0 := below_alloc (w := w) (.cells (natC A) 24)
  go_enter Try.func4, Try.ntmps4
  go_wp2_with (first
    | refine wpList_box_row rfl 24 _ rfl _ rfl ?_
    | refine wpList_loadR rfl 24 _ rfl _ rfl rA 4 _ Try.underlying24 (by exact size_nat) ?_)
  refine (nint_any _ _ HA.out).mono ?_
  rintro e u1 ⟨rfl, hb⟩
  replace rA := rA.belowAll hb
  have b1 := below_on b0 (Nat.le_refl _) hb
  clear hb b0
  go_wp2_with (first
    | refine wpList_loadR rfl 24 _ rfl _ rfl rA 4 _ Try.underlying24 (by exact size_nat) ?_)
  refine (rlow_any _ _ HA.out).mono ?_
  rintro e u2 ⟨rfl, hb⟩
  have b2 := below_on b1 (Nat.le_refl _) hb
  clear hb b1 rA
  go_wp2_with fail
  refine (nof_any n _ (by have := HN.out; omega)).mono ?_
  rintro e u3 ⟨rfl, hb⟩
  have b3 := below_on b2 (Nat.le_refl _) hb
  clear hb b2
  go_wp2_with fail
  refine (call4 n m HM.out HN.out _).mono ?_
  rintro e u4 ⟨rfl, hb⟩
  have b4 := below_on b3 (Nat.le_refl _) hb
  clear hb b3
  go_wp2_with fail
  refine (nof_any n _ (by have := HN.out; omega)).mono ?_
  rintro e u5 ⟨rfl, hb⟩
  have b5 := below_on b4 (Nat.le_refl _) hb
  clear hb b4
  go_wp2_with fail
  refine (rint_any n _ (by have := HN.out; omega)).mono ?_
  rintro e u6 ⟨rfl, hb⟩
  have b6 := below_on b5 (Nat.le_refl _) hb
  clear hb b5
  generalize lowI A = la at *
  generalize lowB A = lb at *
  go_wp2_with (first
    | refine wpList_value rfl (.bool true) ((exec_eql_nat _ _ _ rfl n.toNat n.toNat rfl rfl _).trans (by rw [decide_eq_true rfl])) ?_
    | (go_at_call 14; refine (awake_any _).mono ?_; rintro e u7 ⟨rfl, hb⟩; have b7 := below_on b6 (Nat.le_refl _) hb))
  all_goals
    go_ret
    exact ⟨rfl, b7⟩

set_option maxRecDepth 100000 in
theorem lifted (os : Os) (started : os.Started) (H : Type) (enc : TypeId × Value → H) :
    ReturnsInHanded {} Try.checked os 4 .any (Rows.natIntsSpec.pre6 enc Try.prog Try.f4 Rows.natIntsRow.domain false) (Rows.natIntsSpec.post enc Try.prog Try.f4 false true false false) := by
  refine returnsInHanded_of_change (C := Try.checked) own started (by kernel_rfl) Try.func4
    (ChangeSpec.witness6 (enc := enc) (C := Try.checked) false ⟨#[], #[.int .i64 0, .agg #[.int .u64 0, .int .u64 0, .int .u64 0, .int .u64 0]], []⟩ 8 (by kernel_rfl) (by kernel_rfl) (by kernel_rfl) (by kernel_rfl)) ?_
  intro W base args ds gs before hval0 hW hcnd _
  have hval : ∀ (j : Nat) t v, Try.f4.params[j]? = some t → args[j]? = some v → Value.okWide Try.prog W .any base t v := hval0
  have hW' := hW
  obtain ⟨p, q, hA0, hV, rfl, hfz, hnd⟩ := hW
  have hA : DataW.TrodAll enc Try.prog W 0 (fun _ => true) true Try.f4.params.toList args.toList ds p := hA0
  rw [Try.params4] at hA hval
  obtain ⟨v0, vs0, d0, ds0, p0, q0, hargs, rfl, rfl, h0, r0⟩ := trodAll_cons hA
  obtain ⟨v1, vs1, d1, ds1, p1, q1, rfl, rfl, rfl, h1, r1⟩ := trodAll_cons r0
  obtain ⟨rfl, rfl, rfl⟩ := trodAll_nil r1
  obtain rfl : args = #[v0, v1] := by cases args; simp_all
  obtain ⟨rfl, rfl⟩ := trodVars_none hV
  have k0 := h0
  have lt0 := lt_of_trod h0
  obtain ⟨a0, rfl, rfl, rfl, w0⟩ := open_int Try.underlying3 (hval 0 3 v0 rfl rfl) h0
  have k1 := h1
  have lt1 := lt_of_trod h1
  obtain ⟨N1, hN1, rfl⟩ := open_nat (hval 1 24 v1 rfl rfl) h1
  clear hA0 hval0
  refine (walk a0 N1 W (bounds_i64 w0) hN1).mono fun e W' ⟨he, bel⟩ => ?_
  subst he
  exact ⟨_, rfl, _, _, _, [], _, [], hW', trodAll_mk1 (shut_bool Try.underlying4 _), (trodAll_cons_mk (Below.trod laidOut (by kernel_rfl) (of_decide_eq_true (by kernel_rfl)) k0 bel lt0) (trodAll_cons_mk (Below.trod laidOut (by kernel_rfl) (of_decide_eq_true (by kernel_rfl)) k1 bel lt1) trodAll_mk0)), rfl, bel.frame _, fun h => by cases h⟩

theorem over : Rows.natIntsRow.holds Try.pinned (OpenSpec.ofChange Rows.natIntsSpec) :=
  OpenClaim.holds_of_wide 4 Try.f4 rfl rfl rfl rfl rfl rfl rfl ⟨rfl, rfl, rfl, rfl, rfl⟩ rfl rfl rfl rfl rfl (by kernel_rfl) Try.func4 (by kernel_rfl)
    (of_decide_eq_true (by kernel_rfl)) (by unfold Func.isWrapper; first | (rw [if_pos (by decide +kernel)]; kernel_rfl) | (rw [if_neg (by decide +kernel)]; exact ⟨rfl, rfl⟩))
    (fun os started H enc _ => lifted os started H enc)
end Go.Proofs.Ythccjmhpmbbblaa.natIntsP
namespace Go.Proofs.Ythccjmhpmbbblaa
theorem natInts_holds : Rows.NatIntsSaid := natIntsP.over
end Go.Proofs.Ythccjmhpmbbblaa
