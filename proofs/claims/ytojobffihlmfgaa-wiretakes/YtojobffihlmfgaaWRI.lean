/- The document's reader of layer 18, as plain functions of what is left; matrices that the document takes. -/
import Derived.Test.YtojobffihlmfgaaWRF
import Derived.Test.YtojobffihlmfgaaMXR
import Derived.Test.YtojobffihlmfgaaSI
import Derived.Test.YtojobffihlmfgaaWRD
import Derived.Test.YtojobffihlmfgaaWRG
namespace Go.Proofs.Ytojobffihlmfgaa
open Go.RowKit
set_option linter.unusedVariables false
set_option linter.unusedSimpArgs false
set_option linter.unusedSectionVars false
/-- A matrix that stays so, whatever is written elsewhere than between two places. -/
def MtR (L U : Nat) (w : World) (a1 : Option Addr) (n : Nat) (N : Nat → Nat) (M : Nat → Nat → Nat) : Prop := ∀ (w3 : World) (T : List Nat), Kept T w w3 → (∀ g ∈ T, g < L ∨ U ≤ g) → MtA w3 a1 n N M
theorem MtR.self {L U : Nat} {w : World} {a1 : Option Addr} {n : Nat} {N : Nat → Nat} {M : Nat → Nat → Nat} (h : MtR L U w a1 n N M) : MtA w a1 n N M := h w [] (Kept.refl _ _) (by simp)
theorem MtR.on {L U : Nat} {w w2 : World} {a1 : Option Addr} {n : Nat} {N : Nat → Nat} {M : Nat → Nat → Nat} (h : MtR L U w a1 n N M) {S : List Nat} (k : Kept S w w2) (hS : ∀ g ∈ S, g < L ∨ U ≤ g) : MtR L U w2 a1 n N M := fun w3 T k3 hT =>
 h w3 (S ++ T) ((k.more (T := S ++ T) (fun g hg => List.mem_append_left _ hg)).trans k3 (fun g hg => .inl (List.mem_append_right _ hg))) (fun g hg => (List.mem_append.1 hg).elim (hS g) (hT g))
/-- The document's Take of a matrix: it stays whatever is written elsewhere. -/
theorem rmtk_yes (X : List UInt8) (w : World) (hl : X.length ≤ 100000) (h : XOk X) :
  Calls Try.prog 18 #[.string ⟨X.toArray⟩] w fun e w' => ∃ ao co, e = .returned (.tuple #[.slice ao (nX X) co, .int .i64 0]) ∧ MtR w.heap.size w'.heap.size w' ao (nX X) (NX X) (MZ X) ∧ Below w.heap.size w w' := by
 refine (rxtk_in X w hl).mono ?_
 rintro e w' ⟨h1 | h1, hb⟩
 ·obtain ⟨n, k, G, ao, co, S, gO, oO, ocs, tO, hv, he, rfl, hV⟩ := h1
  obtain ⟨a, b, c⟩ := nX_is hv he
  refine ⟨ao, co, by rw [a], fun w3 T kk hT => ⟨S, gO, oO, ocs, tO, by rw [a]; exact (hV w3 T kk hT).1, fun i hi => ?_⟩, hb⟩
  rw [a] at hi
  show NrAt w3 (S i) (kX X) fun j => GX X (i * kX X + j)
  rw [b]
  exact nrAt_congr ((hV w3 T kk hT).2 i hi) fun j hj => (c _ (ixw_lt hi hj)).symm
 ·exact absurd h (fun ⟨n, k, G, hv, he⟩ => h1.1 n k G hv he)
theorem rmtk_no (X : List UInt8) (w : World) (hl : X.length ≤ 100000) (h : ¬ XOk X) :
  Calls Try.prog 18 #[.string ⟨X.toArray⟩] w fun e w' => e = .returned (.tuple #[.slice none 0 0, .int .i64 4]) ∧ Below w.heap.size w w' := by
 refine (rxtk_in X w hl).mono ?_
 rintro e w' ⟨h1 | h1, hb⟩
 ·obtain ⟨n, k, G, ao, co, S, gO, oO, ocs, tO, hv, he, _⟩ := h1
  exact absurd ⟨n, k, G, hv, he⟩ h
 ·exact ⟨h1.2, hb⟩
/-- The cells of the document's reader. -/
def rdC (s : List UInt8) (at' : Nat) (b : Bool) : Array Value := #[.string ⟨s.toArray⟩, .int .i64 (at' : Nat), .bool b]
theorem built_rd (l : List UInt8) : Try.prog.built 44 [(0, .string ⟨l.toArray⟩)] = some (rdC l 0 false) := by unfold rdC; kernel_rfl
/-- What is left, if it is not bad. -/
def RdS (s : List UInt8) (at' : Nat) (b : Bool) : Option (List UInt8) → Prop
 | some l => b = false ∧ at' ≤ s.length ∧ s.drop at' = l
 | none => b = true
/-- The next bytes, the next number, the next text. -/
def oN : Option (List UInt8) → Nat → List UInt8 × Option (List UInt8)
 | none, _ => ([], none)
 | some l, n => if n ≤ l.length then (l.take n, some (l.drop n)) else ([], none)
def oM (st : Option (List UInt8)) (k : Nat) : Nat × Option (List UInt8) := (nuV (oN st k).1 (oN st k).1.length, (oN st k).2)
def oT (st : Option (List UInt8)) (k : Nat) : List UInt8 × Option (List UInt8) := oN (oM st k).2 (oM st k).1
theorem oN_le (st : Option (List UInt8)) (n : Nat) : (oN st n).1.length ≤ n := by
 unfold oN
 split
 ·exact Nat.zero_le _
 ·split
  ·rw [List.length_take]; omega
  ·exact Nat.zero_le _
theorem oM_is {l : List UInt8} {k n : Nat} {R : List UInt8} : oM (some l) k = (n, some R) ↔ gN l k = some (n, R) := by
 unfold oM oN gN
 by_cases h : k ≤ l.length
 ·simp only [h, if_true]
  have e : (l.take k).length = k := by rw [List.length_take]; omega
  rw [e]
  constructor
  ·intro q
   simp only [Prod.mk.injEq, Option.some.injEq] at q
   rw [q.1, q.2]
  ·intro q
   simp only [Option.some.injEq, Prod.mk.injEq] at q
   rw [q.1, q.2]
 ·simp only [h, if_false]
  constructor
  ·intro q
   simp only [Prod.mk.injEq, reduceCtorEq, and_false] at q
  ·intro q
   cases q
theorem oM_some {st : Option (List UInt8)} {k : Nat} {R : List UInt8} (h : (oM st k).2 = some R) : ∃ l, st = some l ∧ gN l k = some ((oM st k).1, R) := by
 cases st with
 | none => cases h
 | some l =>
  refine ⟨l, rfl, oM_is.1 ?_⟩
  rw [← h]
theorem oT_some {st : Option (List UInt8)} {k : Nat} {R : List UInt8} (h : (oT st k).2 = some R) : ∃ l, st = some l ∧ gT l k = some ((oT st k).1, R) := by
 cases hm : (oM st k).2 with
 | none => unfold oT at h; rw [hm] at h; cases h
 | some L =>
  obtain ⟨l, rfl, hg⟩ := oM_some hm
  refine ⟨l, rfl, ?_⟩
  unfold gT
  rw [hg]
  show (if (oM (some l) k).1 ≤ L.length then some (L.take (oM (some l) k).1, L.drop (oM (some l) k).1) else none) = _
  unfold oT at h ⊢
  rw [hm] at h ⊢
  unfold oN at h ⊢
  by_cases hc : (oM (some l) k).1 ≤ L.length
  ·simp only [hc, if_true] at h ⊢
   simp only [Option.some.injEq] at h
   rw [h]
  ·simp only [hc, if_false] at h
   cases h
theorem oT_none {l : List UInt8} {k : Nat} (h : (oT (some l) k).2 = none) : gT l k = none := by
 cases hg : gT l k with
 | none => rfl
 | some p =>
  exfalso
  obtain ⟨x, R⟩ := p
  unfold gT at hg
  cases hn : gN l k with
  | none => rw [hn] at hg; cases hg
  | some q =>
   obtain ⟨c, r⟩ := q
   rw [hn] at hg
   have hm := oM_is.2 hn
   unfold oT at h
   rw [hm] at h
   unfold oN at h
   by_cases hc : c ≤ r.length
   ·simp only [hc, if_true] at h; cases h
   ·simp only [hc, if_false] at hg; cases hg
theorem oM_none {l : List UInt8} {k : Nat} (h : (oM (some l) k).2 = none) : gN l k = none := by
 cases hg : gN l k with
 | none => rfl
 | some p =>
  obtain ⟨n, R⟩ := p
  rw [oM_is.2 hg] at h
  cases h
theorem oT_empty {st : Option (List UInt8)} {k : Nat} (h : (oT st k).2 = none) : (oT st k).1 = [] := by
 unfold oT oN at *
 split
 ·rfl
 ·rename_i l n e1 e2
  rw [e2] at h
  simp only at h
  split at h
  ·cases h
  ·rename_i hc
   simp only [hc, if_false]
set_option maxRecDepth 100000 in
set_option maxHeartbeats 2000000 in
theorem rnx_any (s : List UInt8) (n g0 at' : Nat) (b : Bool) (st : Option (List UInt8)) (w : World) (hs : s.length ≤ 8192) (hn : n < 4611686018427387904) (r0 : Row w g0 (rdC s at' b) 44) (h : RdS s at' b st) :
  Calls Try.prog 17 #[.pointer (some ⟨g0, 0, none⟩), .int .i64 (n : Nat)] w fun e w' => ∃ a2 b2, e = .returned (.string ⟨(oN st n).1.toArray⟩) ∧ Row w' g0 (rdC s a2 b2) 44 ∧ RdS s a2 b2 (oN st n).2 ∧ Kept [g0] w w' := by
 have sk := Kept.refl [g0] w
 have l0 := r0.lt
 cases st with
 | none =>
  obtain rfl : b = true := h
  go_enter Try.func17, Try.ntmps17
  (repeat ((fail_if_success with_reducible refine rg ?_); go_step))
  refine wp_region_pw ?_
  refine pw_value (by rfl) (.string ⟨#[]⟩) ((fun _ => rfl)) ?_
  simp only [Act.put, pu]
  refine pw_nil ?_
  (repeat ((fail_if_success with_reducible refine rg ?_); go_step))
  refine wp_region_qw (by kernel_rfl) (by kernel_rfl) ?_
  refine qw_move (by rfl) rfl rfl ?_
  simp only [Act.put, pu]
  refine qw_value (by rfl) (.pointer (some ⟨g0, 0, none⟩)) (exec_nil _ rfl g0 0 rfl) ?_
  simp only [Act.put, pu]
  refine qw_value (by rfl) (.pointer (some ⟨g0, 2, none⟩)) (exec_field 44 _ 2 rfl g0 0 rfl _ Try.underlying44 _ rfl 0 Try.sizeOf4) ?_
  simp only [Act.put, pu]
  refine qw_loadc (by rfl) 4 _ rfl _ (2) rfl r0 (.bool true) rfl Try.isAgg4 ?_
  simp only [Act.put, pu]
  refine qw_move (by rfl) rfl rfl ?_
  simp only [Act.put, pu]
  refine qw_skip (by rfl) ?_
  simp only [Act.put, pu]
  refine qw_skip (by rfl) ?_
  simp only [Act.put, pu]
  refine qw_skip (by rfl) ?_
  simp only [Act.put, pu]
  refine qw_skip (by rfl) ?_
  simp only [Act.put, pu]
  refine qw_skip (by rfl) ?_
  simp only [Act.put, pu]
  refine qw_skip (by rfl) ?_
  simp only [Act.put, pu]
  refine qw_skip (by rfl) ?_
  simp only [Act.put, pu]
  refine qw_skip (by rfl) ?_
  simp only [Act.put, pu]
  refine qw_skip (by rfl) ?_
  simp only [Act.put, pu]
  refine qw_skip (by rfl) ?_
  simp only [Act.put, pu]
  refine qw_skip (by rfl) ?_
  simp only [Act.put, pu]
  refine qw_skip (by rfl) ?_
  simp only [Act.put, pu]
  refine qw_pick true (v := .bool true) (by rfl) rfl rfl rfl ?_
  simp only [Act.put, pu]
  refine qw_nil ?_
  intro w5 hqb
  replace r0 := r0.belowAll hqb
  replace sk := sk.on hqb
  clear hqb
  (repeat ((fail_if_success with_reducible refine rg ?_); go_step))
  refine wp_region_pw ?_
  refine pw_mv (by rfl) rfl rfl ?_
  simp only [Act.put, pu]
  refine pw_value (by rfl) (.pointer (some ⟨g0, 0, none⟩)) (exec_nil _ rfl g0 0 rfl) ?_
  simp only [Act.put, pu]
  refine pw_value (by rfl) (.pointer (some ⟨g0, 2, none⟩)) (exec_field 44 _ 2 rfl g0 0 rfl _ Try.underlying44 _ rfl 0 Try.sizeOf4) ?_
  simp only [Act.put, pu]
  refine pw_putv (by rfl) 4 _ _ rfl _ (2) rfl r0 (.bool true) rfl rfl rfl size1tbool (by exact (by decide : 2 < 3)) (rdC s at' true) rfl ?_
  clear r0
  intro z2003 r0 k
  simp only [Act.put]
  replace sk := sk.trans k (by simp <;> omega)
  clear k
  refine pw_nil ?_
  (repeat ((fail_if_success with_reducible refine rg ?_); go_step))
  refine wp_region_pw ?_
  refine pw_value (by rfl) (.string ⟨#[]⟩) ((fun _ => rfl)) ?_
  simp only [Act.put, pu]
  refine pw_nil ?_
  go_wp2
  go_ret
  exact ⟨_, _, rfl, r0, rfl, sk⟩
 | some l =>
  obtain ⟨rfl, h1, h2⟩ := h
  have hll : l.length = s.length - at' := by rw [← h2, List.length_drop]
  by_cases hc : n ≤ l.length
  rotate_left
  ·rw [show oN (some l) n = ([], none) by unfold oN; simp only [hc, if_false]]
   go_enter Try.func17, Try.ntmps17
   (repeat ((fail_if_success with_reducible refine rg ?_); go_step))
   refine wp_region_pw ?_
   refine pw_value (by rfl) (.string ⟨#[]⟩) ((fun _ => rfl)) ?_
   simp only [Act.put, pu]
   refine pw_nil ?_
   (repeat ((fail_if_success with_reducible refine rg ?_); go_step))
   refine wp_region_qw (by kernel_rfl) (by kernel_rfl) ?_
   refine qw_move (by rfl) rfl rfl ?_
   simp only [Act.put, pu]
   refine qw_value (by rfl) (.pointer (some ⟨g0, 0, none⟩)) (exec_nil _ rfl g0 0 rfl) ?_
   simp only [Act.put, pu]
   refine qw_value (by rfl) (.pointer (some ⟨g0, 2, none⟩)) (exec_field 44 _ 2 rfl g0 0 rfl _ Try.underlying44 _ rfl 0 Try.sizeOf4) ?_
   simp only [Act.put, pu]
   refine qw_loadc (by rfl) 4 _ rfl _ (2) rfl r0 (.bool false) rfl Try.isAgg4 ?_
   simp only [Act.put, pu]
   refine qw_move (by rfl) rfl rfl ?_
   simp only [Act.put, pu]
   refine qw_move (by rfl) rfl rfl ?_
   simp only [Act.put, pu]
   refine qw_move (by rfl) rfl rfl ?_
   simp only [Act.put, pu]
   refine qw_value (by rfl) (.pointer (some ⟨g0, 0, none⟩)) (exec_nil _ rfl g0 0 rfl) ?_
   simp only [Act.put, pu]
   refine qw_value (by rfl) (.pointer (some ⟨g0, 0, none⟩)) (exec_field 44 _ 0 rfl g0 0 rfl _ Try.underlying44 _ rfl 0 Try.sizeOf9) ?_
   simp only [Act.put, pu]
   refine qw_loadc (by rfl) 9 _ rfl _ (0) rfl r0 (.string ⟨s.toArray⟩) rfl Try.isAgg9 ?_
   simp only [Act.put, pu]
   refine qw_value (by rfl) (.int .i64 (s.length : Nat)) (y_lenS _ _ rfl s rfl Try.underlying9) ?_
   simp only [Act.put, pu]
   refine qw_move (by rfl) rfl rfl ?_
   simp only [Act.put, pu]
   refine qw_value (by rfl) (.pointer (some ⟨g0, 0, none⟩)) (exec_nil _ rfl g0 0 rfl) ?_
   simp only [Act.put, pu]
   refine qw_value (by rfl) (.pointer (some ⟨g0, 1, none⟩)) (exec_field 44 _ 1 rfl g0 0 rfl _ Try.underlying44 _ rfl 0 Try.sizeOf3) ?_
   simp only [Act.put, pu]
   refine qw_loadc (by rfl) 3 _ rfl _ (1) rfl r0 (.int .i64 (at' : Nat)) rfl Try.isAgg3 ?_
   simp only [Act.put, pu]
   refine qw_value (by rfl) (.int .i64 ((s.length - at' : Nat) : Int)) (exec_sub_in _ _ _ _ rfl s.length at' rfl rfl (by omega) (by omega)) ?_
   simp only [Act.put, pu]
   refine qw_value (by rfl) (.bool true) (x_gt _ _ _ _ rfl (n : Nat) (s.length - at' : Nat) rfl rfl true (decide_eq_true (by omega))) ?_
   simp only [Act.put, pu]
   refine qw_pick false (v := .bool true) (by rfl) rfl rfl rfl ?_
   simp only [Act.put, pu]
   refine qw_nil ?_
   intro w5 hqb
   replace r0 := r0.belowAll hqb
   replace sk := sk.on hqb
   clear hqb
   (repeat ((fail_if_success with_reducible refine rg ?_); go_step))
   refine wp_region_pw ?_
   refine pw_mv (by rfl) rfl rfl ?_
   simp only [Act.put, pu]
   refine pw_value (by rfl) (.pointer (some ⟨g0, 0, none⟩)) (exec_nil _ rfl g0 0 rfl) ?_
   simp only [Act.put, pu]
   refine pw_value (by rfl) (.pointer (some ⟨g0, 2, none⟩)) (exec_field 44 _ 2 rfl g0 0 rfl _ Try.underlying44 _ rfl 0 Try.sizeOf4) ?_
   simp only [Act.put, pu]
   refine pw_putv (by rfl) 4 _ _ rfl _ (2) rfl r0 (.bool true) rfl rfl rfl size1tbool (by exact (by decide : 2 < 3)) (rdC s at' true) rfl ?_
   clear r0
   intro z2003 r0 k
   simp only [Act.put]
   replace sk := sk.trans k (by simp <;> omega)
   clear k
   refine pw_nil ?_
   (repeat ((fail_if_success with_reducible refine rg ?_); go_step))
   refine wp_region_pw ?_
   refine pw_value (by rfl) (.string ⟨#[]⟩) ((fun _ => rfl)) ?_
   simp only [Act.put, pu]
   refine pw_nil ?_
   go_wp2
   go_ret
   exact ⟨_, _, rfl, r0, rfl, sk⟩
  ·rw [show oN (some l) n = (l.take n, some (l.drop n)) by unfold oN; simp only [hc, if_true]]
   have hmid : (s.take (at' + n)).drop at' = l.take n := by rw [← h2, List.drop_take, Nat.add_sub_cancel_left]
   have hdr : s.drop (at' + n) = l.drop n := by rw [← h2, List.drop_drop]
   have hsub : at' + n - n = at' := Nat.add_sub_cancel ..
   clear h2
   go_enter Try.func17, Try.ntmps17
   (repeat ((fail_if_success with_reducible refine rg ?_); go_step))
   refine wp_region_pw ?_
   refine pw_value (by rfl) (.string ⟨#[]⟩) ((fun _ => rfl)) ?_
   simp only [Act.put, pu]
   refine pw_nil ?_
   (repeat ((fail_if_success with_reducible refine rg ?_); go_step))
   refine wp_region_qw (by kernel_rfl) (by kernel_rfl) ?_
   refine qw_move (by rfl) rfl rfl ?_
   simp only [Act.put, pu]
   refine qw_value (by rfl) (.pointer (some ⟨g0, 0, none⟩)) (exec_nil _ rfl g0 0 rfl) ?_
   simp only [Act.put, pu]
   refine qw_value (by rfl) (.pointer (some ⟨g0, 2, none⟩)) (exec_field 44 _ 2 rfl g0 0 rfl _ Try.underlying44 _ rfl 0 Try.sizeOf4) ?_
   simp only [Act.put, pu]
   refine qw_loadc (by rfl) 4 _ rfl _ (2) rfl r0 (.bool false) rfl Try.isAgg4 ?_
   simp only [Act.put, pu]
   refine qw_move (by rfl) rfl rfl ?_
   simp only [Act.put, pu]
   refine qw_move (by rfl) rfl rfl ?_
   simp only [Act.put, pu]
   refine qw_move (by rfl) rfl rfl ?_
   simp only [Act.put, pu]
   refine qw_value (by rfl) (.pointer (some ⟨g0, 0, none⟩)) (exec_nil _ rfl g0 0 rfl) ?_
   simp only [Act.put, pu]
   refine qw_value (by rfl) (.pointer (some ⟨g0, 0, none⟩)) (exec_field 44 _ 0 rfl g0 0 rfl _ Try.underlying44 _ rfl 0 Try.sizeOf9) ?_
   simp only [Act.put, pu]
   refine qw_loadc (by rfl) 9 _ rfl _ (0) rfl r0 (.string ⟨s.toArray⟩) rfl Try.isAgg9 ?_
   simp only [Act.put, pu]
   refine qw_value (by rfl) (.int .i64 (s.length : Nat)) (y_lenS _ _ rfl s rfl Try.underlying9) ?_
   simp only [Act.put, pu]
   refine qw_move (by rfl) rfl rfl ?_
   simp only [Act.put, pu]
   refine qw_value (by rfl) (.pointer (some ⟨g0, 0, none⟩)) (exec_nil _ rfl g0 0 rfl) ?_
   simp only [Act.put, pu]
   refine qw_value (by rfl) (.pointer (some ⟨g0, 1, none⟩)) (exec_field 44 _ 1 rfl g0 0 rfl _ Try.underlying44 _ rfl 0 Try.sizeOf3) ?_
   simp only [Act.put, pu]
   refine qw_loadc (by rfl) 3 _ rfl _ (1) rfl r0 (.int .i64 (at' : Nat)) rfl Try.isAgg3 ?_
   simp only [Act.put, pu]
   refine qw_value (by rfl) (.int .i64 ((s.length - at' : Nat) : Int)) (exec_sub_in _ _ _ _ rfl s.length at' rfl rfl (by omega) (by omega)) ?_
   simp only [Act.put, pu]
   refine qw_value (by rfl) (.bool false) (x_gt _ _ _ _ rfl (n : Nat) (s.length - at' : Nat) rfl rfl false (decide_eq_false (by omega))) ?_
   simp only [Act.put, pu]
   refine qw_pick false (v := .bool false) (by rfl) rfl rfl rfl ?_
   simp only [Act.put, pu]
   refine qw_nil ?_
   intro w5 hqb
   replace r0 := r0.belowAll hqb
   replace sk := sk.on hqb
   clear hqb
   (repeat ((fail_if_success with_reducible refine rg ?_); go_step))
   refine wp_region_pw ?_
   refine pw_mv (by rfl) rfl rfl ?_
   simp only [Act.put, pu]
   refine pw_mv (by rfl) rfl rfl ?_
   simp only [Act.put, pu]
   refine pw_value (by rfl) (.pointer (some ⟨g0, 0, none⟩)) (exec_nil _ rfl g0 0 rfl) ?_
   simp only [Act.put, pu]
   refine pw_value (by rfl) (.pointer (some ⟨g0, 1, none⟩)) (exec_field 44 _ 1 rfl g0 0 rfl _ Try.underlying44 _ rfl 0 Try.sizeOf3) ?_
   simp only [Act.put, pu]
   refine pw_loadk (by rfl) 3 _ rfl _ (1) rfl r0.r (.int .i64 (at' : Nat)) rfl Try.isAgg3 ?_
   simp only [Act.put, pu]
   refine pw_mv (by rfl) rfl rfl ?_
   simp only [Act.put, pu]
   refine pw_value (by rfl) (.int .i64 (at' + n : Nat)) (exec_add_in _ _ _ _ rfl at' n rfl rfl (by omega)) ?_
   simp only [Act.put, pu]
   refine pw_value (by rfl) (.pointer (some ⟨g0, 0, none⟩)) (exec_nil _ rfl g0 0 rfl) ?_
   simp only [Act.put, pu]
   refine pw_value (by rfl) (.pointer (some ⟨g0, 1, none⟩)) (exec_field 44 _ 1 rfl g0 0 rfl _ Try.underlying44 _ rfl 0 Try.sizeOf3) ?_
   simp only [Act.put, pu]
   refine pw_putv (by rfl) 3 _ _ rfl _ (1) rfl r0 (.int .i64 (at' + n : Nat)) rfl rfl rfl size1tint (by exact (by decide : 1 < 3)) (rdC s (at' + n) false) rfl ?_
   clear r0
   intro z4009 r0 k
   simp only [Act.put]
   replace sk := sk.trans k (by simp <;> omega)
   clear k
   refine pw_nil ?_
   (repeat ((fail_if_success with_reducible refine rg ?_); go_step))
   refine wp_region_qw (by kernel_rfl) (by kernel_rfl) ?_
   refine qw_move (by rfl) rfl rfl ?_
   simp only [Act.put, pu]
   refine qw_value (by rfl) (.pointer (some ⟨g0, 0, none⟩)) (exec_nil _ rfl g0 0 rfl) ?_
   simp only [Act.put, pu]
   refine qw_value (by rfl) (.pointer (some ⟨g0, 0, none⟩)) (exec_field 44 _ 0 rfl g0 0 rfl _ Try.underlying44 _ rfl 0 Try.sizeOf9) ?_
   simp only [Act.put, pu]
   refine qw_loadc (by rfl) 9 _ rfl _ (0) rfl r0 (.string ⟨s.toArray⟩) rfl Try.isAgg9 ?_
   simp only [Act.put, pu]
   refine qw_move (by rfl) rfl rfl ?_
   simp only [Act.put, pu]
   refine qw_value (by rfl) (.pointer (some ⟨g0, 0, none⟩)) (exec_nil _ rfl g0 0 rfl) ?_
   simp only [Act.put, pu]
   refine qw_value (by rfl) (.pointer (some ⟨g0, 1, none⟩)) (exec_field 44 _ 1 rfl g0 0 rfl _ Try.underlying44 _ rfl 0 Try.sizeOf3) ?_
   simp only [Act.put, pu]
   refine qw_loadc (by rfl) 3 _ rfl _ (1) rfl r0 (.int .i64 (at' + n : Nat)) rfl Try.isAgg3 ?_
   simp only [Act.put, pu]
   refine qw_move (by rfl) rfl rfl ?_
   simp only [Act.put, pu]
   refine qw_value (by rfl) (.int .i64 (at' : Nat)) (fun w' => (exec_sub_in _ _ _ _ rfl (at' + n) n rfl rfl (by omega) (by omega) w').trans (by rw [hsub])) ?_
   simp only [Act.put, pu]
   refine qw_move (by rfl) rfl rfl ?_
   simp only [Act.put, pu]
   refine qw_value (by rfl) (.pointer (some ⟨g0, 0, none⟩)) (exec_nil _ rfl g0 0 rfl) ?_
   simp only [Act.put, pu]
   refine qw_value (by rfl) (.pointer (some ⟨g0, 1, none⟩)) (exec_field 44 _ 1 rfl g0 0 rfl _ Try.underlying44 _ rfl 0 Try.sizeOf3) ?_
   simp only [Act.put, pu]
   refine qw_loadc (by rfl) 3 _ rfl _ (1) rfl r0 (.int .i64 (at' + n : Nat)) rfl Try.isAgg3 ?_
   simp only [Act.put, pu]
   refine qw_value (by rfl) (.string ⟨(l.take n).toArray⟩) (y_mid _ _ _ _ Try.underlying9 rfl s at' (at' + n) rfl rfl rfl (by omega) (by omega) _ hmid) ?_
   simp only [Act.put, pu]
   refine qw_asg (by rfl) rfl rfl ?_
   simp only [Act.put, pu]
   refine qw_nil ?_
   intro w6 hqb
   replace r0 := r0.belowAll hqb
   replace sk := sk.on hqb
   clear hqb
   go_wp2
   go_ret
   exact ⟨_, _, rfl, r0, ⟨rfl, by omega, hdr⟩, sk⟩
set_option maxRecDepth 100000 in
set_option maxHeartbeats 2000000 in
theorem rnm_any (s : List UInt8) (k g0 at' : Nat) (b : Bool) (st : Option (List UInt8)) (w : World) (hs : s.length ≤ 8192) (hk : k ≤ 6) (r0 : Row w g0 (rdC s at' b) 44) (h : RdS s at' b st) :
  Calls Try.prog 16 #[.pointer (some ⟨g0, 0, none⟩), .int .i64 (k : Nat)] w fun e w' => ∃ a2 b2, e = .returned (.int .i64 ((oM st k).1 : Nat)) ∧ Row w' g0 (rdC s a2 b2) 44 ∧ RdS s a2 b2 (oM st k).2 ∧ Kept [g0] w w' := by
 have sk := Kept.refl [g0] w
 have l0 := r0.lt
 have hx := fun w' (q : Row w' g0 (rdC s at' b) 44) => rnx_any s k g0 at' b st w' hs (by omega) q h
 have hxl := oN_le st k
 have HR : Hid (oM st k = (nuV (oN st k).1 (oN st k).1.length, (oN st k).2)) := rfl
 generalize oN st k = p at *
 obtain ⟨x, st2⟩ := p
 dsimp only at hx hxl
 rw [HR.out]
 clear HR h
 have HV : Hid (∀ i, i ≤ x.length → nuV x i < 281474976710656) := fun i hi => Nat.lt_of_lt_of_le (nuV_lt x i) (by
  have : 256 ^ i ≤ 256 ^ 6 := Nat.pow_le_pow_right (by decide) (by omega)
  omega)
 go_enter Try.func16, Try.ntmps16
 (repeat ((fail_if_success with_reducible refine rg ?_); go_step))
 refine wp_region_pw ?_
 refine pw_value (by rfl) (.int .i64 0) (fun _ => rfl) ?_
 simp only [Act.put, pu]
 refine pw_nil ?_
 (repeat ((fail_if_success with_reducible refine rg ?_); go_step))
 refine wp_region_pw ?_
 refine pw_mv (by rfl) rfl rfl ?_
 simp only [Act.put, pu]
 refine pw_mv (by rfl) rfl rfl ?_
 simp only [Act.put, pu]
 refine pw_callE (by rfl) 17 _ _ rfl Try.func17 (by kernel_rfl) #[.pointer (some ⟨g0, 0, none⟩), .int .i64 (k : Nat)] rfl (hx _ r0) ?_
 have cr0 := r0.lt
 clear r0
 rintro _ z1002 ⟨a2, b2, rfl, r0, hst, k⟩
 refine ⟨_, rfl, ?_⟩
 simp only [Act.put, pu]
 clear cr0
 replace sk := sk.trans k (by simp <;> omega)
 clear k
 refine pw_as (by rfl) rfl rfl ?_
 simp only [Act.put, pu]
 refine pw_nil ?_
 (repeat ((fail_if_success with_reducible refine rg ?_); go_step))
 refine wp_region_pw ?_
 refine pw_value (by rfl) (.int .i64 0) (fun _ => rfl) ?_
 simp only [Act.put, pu]
 refine pw_nil ?_
 (repeat ((fail_if_success with_reducible refine rg ?_); go_step))
 refine wp_region_pw ?_
 refine pw_value (by rfl) (.int .i64 0) (fun _ => rfl) ?_
 simp only [Act.put, pu]
 refine pw_nil ?_
 have H0 := r0
 have H1 := sk
 clear r0 sk hx
 go_wp2_with fail
 go_loopg [6, 7] x.length (fun y s6 s7 wr => ∃ i : Nat, i + y = x.length ∧ s7 = .int .i64 i ∧ s6 = .int .i64 (nuV x i : Nat) ∧ Row wr g0 (rdC s a2 b2) 44 ∧ Kept [g0] w wr)
 case atStart => exact ⟨0, by omega, rfl, rfl, H0, H1⟩
 case round =>
  clear H0 H1
  obtain ⟨i, hi, rfl, rfl, r0, sk⟩ := hrel
  cases gk with
  | zero =>
   have hil : i = x.length := by omega
   clear hi
   (repeat ((fail_if_success with_reducible refine rg ?_); go_step))
   refine wp_region_pw ?_
   refine pw_mv (by rfl) rfl rfl ?_
   simp only [Act.put, pu]
   refine pw_mv (by rfl) rfl rfl ?_
   simp only [Act.put, pu]
   refine pw_value (by rfl) (.int .i64 (x.length : Nat)) (y_lenS _ _ rfl x rfl Try.underlying9) ?_
   simp only [Act.put, pu]
   refine pw_value (by rfl) (.bool false) (exec_lt_b _ _ _ _ rfl i x.length rfl rfl false (decide_eq_false (by omega))) ?_
   simp only [Act.put, pu]
   refine pw_nil ?_
   (repeat ((fail_if_success with_reducible refine rg ?_); go_step))
   refine wp_region_pw ?_
   refine pw_mv (by rfl) rfl rfl ?_
   simp only [Act.put, pu]
   refine pw_as (by rfl) rfl rfl ?_
   simp only [Act.put, pu]
   refine pw_nil ?_
   go_wp2
   go_ret
   exact ⟨a2, b2, by rw [hil]; rfl, r0, hst, sk⟩
  | succ y =>
   have hlt : i < x.length := by omega
   have hv1 := HV.out i (by omega)
   have hv2 := HV.out (i + 1) (by omega)
   have hb8 := bf_lt x i
   have eV : nuV x (i + 1) = nuV x i * 256 + bf x i := rfl
   have eO := or_add (nuV x i) (bf x i) hb8
   rw [← eV] at eO
   clear eV
   generalize hV2 : nuV x (i + 1) = V2 at *
   generalize nuV x i = V1 at *
   obtain ⟨b1, hb1⟩ : ∃ b1, bf x i = b1 := ⟨_, rfl⟩
   rw [hb1] at hb8 eO
   (repeat ((fail_if_success with_reducible refine rg ?_); go_step))
   refine wp_region_pw ?_
   refine pw_mv (by rfl) rfl rfl ?_
   simp only [Act.put, pu]
   refine pw_mv (by rfl) rfl rfl ?_
   simp only [Act.put, pu]
   refine pw_value (by rfl) (.int .i64 (x.length : Nat)) (y_lenS _ _ rfl x rfl Try.underlying9) ?_
   simp only [Act.put, pu]
   refine pw_value (by rfl) (.bool true) (exec_lt_b _ _ _ _ rfl i x.length rfl rfl true (decide_eq_true (by omega))) ?_
   simp only [Act.put, pu]
   refine pw_nil ?_
   (repeat ((fail_if_success with_reducible refine rg ?_); go_step))
   refine wp_region_pw ?_
   refine pw_mv (by rfl) rfl rfl ?_
   simp only [Act.put, pu]
   refine pw_value (by rfl) (.int .i64 (V1 * 256 : Nat)) (xi_shl _ _ _ _ rfl V1 8 .u64 rfl rfl (by decide) (by omega)) ?_
   simp only [Act.put, pu]
   refine pw_mv (by rfl) rfl rfl ?_
   simp only [Act.put, pu]
   refine pw_mv (by rfl) rfl rfl ?_
   simp only [Act.put, pu]
   refine pw_value (by rfl) (.int .u8 (b1 : Nat)) (fun w' => (x_index _ _ _ rfl Try.underlying9 x rfl .i64 i rfl hlt w').trans (by rw [hb1])) ?_
   simp only [Act.put, pu]
   refine pw_value (by rfl) (.int .i64 (b1 : Nat)) (x_conv _ _ _ rfl .u8 .i64 Try.underlying5 Try.underlying3 (b1 : Nat) _ rfl (w_ri _ hb8)) ?_
   simp only [Act.put, pu]
   refine pw_value (by rfl) (.int .i64 (V2 : Nat)) (fun w' => (xi_or _ _ _ _ rfl (V1 * 256) b1 rfl rfl (by omega) (by omega) w').trans (by rw [eO])) ?_
   simp only [Act.put, pu]
   refine pw_as (by rfl) rfl rfl ?_
   simp only [Act.put, pu]
   refine pw_nil ?_
   clear hv1 hv2 hb8 eO hb1
   (repeat ((fail_if_success with_reducible refine rg ?_); go_step))
   refine wp_region_pw ?_
   refine pw_mv (by rfl) rfl rfl ?_
   simp only [Act.put, pu]
   refine pw_value (by rfl) (.int .i64 (i + 1 : Nat)) (xi_add _ _ _ _ rfl i 1 rfl rfl (by omega)) ?_
   simp only [Act.put, pu]
   refine pw_as (by rfl) rfl rfl ?_
   simp only [Act.put, pu]
   refine pw_nil ?_
   go_wp2
   go_roundg y
   case rel => exact ⟨i + 1, by omega, rfl, by rw [hV2], r0, sk⟩
   case measure => omega
end Go.Proofs.Ytojobffihlmfgaa
/- The document's Take of layer 18. -/
namespace Go.Proofs.Ytojobffihlmfgaa
open Go.RowKit
set_option linter.unusedVariables false
set_option linter.unusedSimpArgs false
set_option linter.unusedSectionVars false
/-- So many cells there are at least. -/
structure SzG (U : Nat) (w : World) : Prop where
 le : U ≤ w.heap.size
theorem SzG.on {U : Nat} {w w2 : World} (h : SzG U w) {S : List Nat} (k : Kept S w w2) (_ : True) : SzG U w2 := ⟨Nat.le_trans h.le k.size⟩
theorem oM_lt (st : Option (List UInt8)) {k : Nat} (hk : k ≤ 6) : (oM st k).1 < 256 ^ k := by
 unfold oM
 have h1 := nuV_lt (oN st k).1 (oN st k).1.length
 have h2 := oN_le st k
 exact Nat.lt_of_lt_of_le h1 (Nat.pow_le_pow_right (by decide) h2)
theorem ownN_cg {w : World} {base : Nat} {v : Value} {n : Nat} {f g : Nat → Nat} (h : OwnN w base v n f) (he : ∀ j, j < n → f j = g j) : OwnN w base v n g := by
 unfold OwnN at h ⊢
 rw [← nsC_congr n f g he]
 exact h
theorem YsO {U i cv : Nat} {av : Option Addr} {Y : Nat → Nat} {w : World} (h : ∀ w', OwnN w' U (.slice av i cv) i Y → ∃ gb cur, NatsAt w' av i Y gb 0 cur 51) (q : OwnN w U (.slice av i cv) i Y) : YsA w av i Y := by
 obtain ⟨gb, cur, h1⟩ := h w q
 exact ⟨gb, 0, cur, _, h1⟩
theorem built_mk (x : Int) : Try.prog.built 29 [(0, .int .i64 x)] = some (msC x 0 [] 0 0 [] none 0 0 none 0 0) := by unfold msC; kernel_rfl
theorem built_mz : Try.prog.built 29 [] = some (msC 0 0 [] 0 0 [] none 0 0 none 0 0) := by unfold msC; kernel_rfl
section
variable {kd op sq cl c3 c6 c7 : Nat} {key dg X s : List UInt8} {s1 s2 s3 s4 s5 s6 s7 : Option (List UInt8)}
theorem ch_ok {L7 : List UInt8} (e1 : oM (some s) 1 = (kd, s1)) (e2 : oM s1 4 = (op, s2)) (e3 : oT s2 1 = (key, s3)) (e4 : oM s3 6 = (sq, s4)) (e5 : oM s4 1 = (cl, s5)) (e6 : oT s5 1 = (dg, s6)) (e7 : oT s6 2 = (X, some L7)) :
  rz s = (gZ X L7).bind fun y => some (⟨kd, op, key, sq, cl, dg, X, y.1⟩, y.2) := by
 obtain ⟨l6, rfl, g7⟩ := oT_some (st := s6) (k := 2) (by rw [e7])
 rw [e7] at g7
 obtain ⟨l5, rfl, g6⟩ := oT_some (st := s5) (k := 1) (by rw [e6])
 rw [e6] at g6
 obtain ⟨l4, rfl, g5⟩ := oM_some (st := s4) (k := 1) (by rw [e5])
 rw [e5] at g5
 obtain ⟨l3, rfl, g4⟩ := oM_some (st := s3) (k := 6) (by rw [e4])
 rw [e4] at g4
 obtain ⟨l2, rfl, g3⟩ := oT_some (st := s2) (k := 1) (by rw [e3])
 rw [e3] at g3
 obtain ⟨l1, rfl, g2⟩ := oM_some (st := s1) (k := 4) (by rw [e2])
 rw [e2] at g2
 have g1 := oM_is.1 e1
 rw [rz_1, rz1_yes g1, rz2_yes g2, rz3_yes g3, rz4_yes g4, rz5_yes g5, rz6_yes g6, rz7_yes g7]
theorem ch_no (e1 : oM (some s) 1 = (kd, s1)) (e2 : oM s1 4 = (op, s2)) (e3 : oT s2 1 = (key, s3)) (e4 : oM s3 6 = (sq, s4)) (e5 : oM s4 1 = (cl, s5)) (e6 : oT s5 1 = (dg, s6)) (e7 : oT s6 2 = (X, none)) : rz s = none := by
 rw [rz_1]
 cases s1 with
 | none => exact rz1_no (oM_none (by rw [e1]))
 | some l1 =>
  rw [rz1_yes (oM_is.1 e1)]
  cases s2 with
  | none => exact rz2_no (oM_none (by rw [e2]))
  | some l2 =>
   rw [rz2_yes (oM_is.1 e2)]
   cases s3 with
   | none => exact rz3_no (oT_none (by rw [e3]))
   | some l3 =>
    obtain ⟨_, h, g3⟩ := oT_some (st := some l2) (k := 1) (R := l3) (by rw [e3])
    cases h
    rw [e3] at g3
    rw [rz3_yes g3]
    cases s4 with
    | none => exact rz4_no (oM_none (by rw [e4]))
    | some l4 =>
     rw [rz4_yes (oM_is.1 e4)]
     cases s5 with
     | none => exact rz5_no (oM_none (by rw [e5]))
     | some l5 =>
      rw [rz5_yes (oM_is.1 e5)]
      cases s6 with
      | none => exact rz6_no (oT_none (by rw [e6]))
      | some l6 =>
       obtain ⟨_, h, g6⟩ := oT_some (st := some l5) (k := 1) (R := l6) (by rw [e6])
       cases h
       rw [e6] at g6
       rw [rz6_yes g6]
       exact rz7_no (oT_none (by rw [e7]))
end
section
variable {kd op : Nat} {key : List UInt8} {sq cl : Nat} {dg : List UInt8} {a1 : Option Addr} {n c1 : Nat} {a2 : Option Addr} {m c2 : Nat} {N : Nat → Nat} {M : Nat → Nat → Nat} {Y : Nat → Nat} {w : World}
theorem rput_any (hkl : key.length < 9223372036854775808) (hn : n < 4611686018427387904) (hN : ∀ i, i < n → N i < 4611686018427387904) (hM : MtA w a1 n N M) (hY : YsA w a2 m Y) :
  Calls Try.prog 20 #[.agg (msC (kd : Nat) (op : Nat) key (sq : Nat) (cl : Nat) dg a1 n c1 a2 m c2)] w fun e w' => (∃ T E, e = .returned (.tuple #[.string ⟨T⟩, .int .i64 E])) ∧ Below w.heap.size w w' :=
 (rPut18_any (kd : Nat) (op : Nat) key (sq : Nat) (cl : Nat) dg a1 n c1 a2 m c2 N M Y w hkl hn hN hM hY).mono fun e w' ⟨h1, h2⟩ => ⟨⟨_, _, h1⟩, h2⟩
theorem rput_f (hkl : key.length < 9223372036854775808) (hn : n < 4611686018427387904) (hN : ∀ i, i < n → N i < 4611686018427387904) (hM : MtA w a1 n N M) (hY : YsA w a2 m Y) (hW : wmB (kd : Nat) (op : Nat) key (sq : Nat) (cl : Nat) dg (brB n m) (dlB n m (xmB n N M)) = false) :
  Calls Try.prog 20 #[.agg (msC (kd : Nat) (op : Nat) key (sq : Nat) (cl : Nat) dg a1 n c1 a2 m c2)] w fun e w' => e = .returned (.tuple #[.string ⟨#[]⟩, .int .i64 1]) ∧ Below w.heap.size w w' := by
 have h := rPut18_any (kd : Nat) (op : Nat) key (sq : Nat) (cl : Nat) dg a1 n c1 a2 m c2 N M Y w hkl hn hN hM hY
 rw [hW] at h
 exact h
theorem rput_t (hkl : key.length < 9223372036854775808) (hn : n < 4611686018427387904) (hN : ∀ i, i < n → N i < 4611686018427387904) (hM : MtA w a1 n N M) (hY : YsA w a2 m Y) (hW : wmB (kd : Nat) (op : Nat) key (sq : Nat) (cl : Nat) dg (brB n m) (dlB n m (xmB n N M)) = true) (B : List UInt8) (hB : msL kd op key sq cl dg (xmB n N M) m Y = B) (hl : B.length ≤ 8192) :
  Calls Try.prog 20 #[.agg (msC (kd : Nat) (op : Nat) key (sq : Nat) (cl : Nat) dg a1 n c1 a2 m c2)] w fun e w' => e = .returned (.tuple #[.string ⟨B.toArray⟩, .int .i64 0]) ∧ Below w.heap.size w w' := by
 have h := rPut18_any (kd : Nat) (op : Nat) key (sq : Nat) (cl : Nat) dg a1 n c1 a2 m c2 N M Y w hkl hn hN hM hY
 have hpb : ptB true B = true := by unfold ptB; rw [decide_eq_true hl]; rfl
 rw [hW] at h
 simp only [Int.toNat_natCast] at h
 rw [hB, show ptT true B = B by unfold ptT; rw [hpb]; rfl, hpb] at h
 exact h
end
/-- What a message's bytes are, of what was read. -/
theorem msL_of {d : RD} (hok : RDok d) : msL d.kd d.op d.key d.sq d.cl d.dg d.X d.ys.length (Yt d.ys) = rdR d [] := by
 rw [msL_rd]
 have : (List.range d.ys.length).map (fun i => byL (Yt d.ys i)) = d.ys := by
  apply List.ext_getElem
  ·simp
  ·intro i h1 h2
   rw [List.getElem_map, List.getElem_range]
   show byL (takeN ⟨(d.ys.getD i []).toArray⟩) = _
   rw [List.getD_eq_getElem?_getD, List.getElem?_eq_getElem h2]
   show byL (takeN ⟨(d.ys[i]).toArray⟩) = _
   rcases hok.ys with ⟨_, h⟩ | ⟨_, _, _, h⟩
   ·exact absurd h2 (by rw [h]; exact Nat.not_lt_zero i)
   ·exact byL_take (h _ (List.getElem_mem h2))
 rw [this]
/-- What the document's Take tells. -/
def TkD (s : List UInt8) (w : World) (e : Ending) (w' : World) : Prop := (tz s = none ∧ e = .returned (.tuple #[.agg (msC 0 0 [] 0 0 [] none 0 0 none 0 0), .int .i64 4])) ∨ ∃ d a1 c1 a2 c2, tz s = some d ∧ e = .returned (.tuple #[.agg (msC (d.kd : Nat) (d.op : Nat) d.key (d.sq : Nat) (d.cl : Nat) d.dg a1 (nX d.X) c1 a2 d.ys.length c2), .int .i64 0]) ∧ InR w.heap.size w'.heap.size w' d a1 a2
set_option maxRecDepth 100000 in
set_option maxHeartbeats 8000000 in
theorem rtk18_any (s : List UInt8) (w : World) (hl : s.length ≤ 8192) :
  Calls Try.prog 7 #[.string ⟨s.toArray⟩] w fun e w' => TkD s w e w' ∧ Below w.heap.size w w' := by
 obtain ⟨⟨kd, s1⟩, e1⟩ : ∃ p, oM (some s) 1 = p := ⟨_, rfl⟩
 obtain ⟨⟨op, s2⟩, e2⟩ : ∃ p, oM s1 4 = p := ⟨_, rfl⟩
 obtain ⟨⟨c3, t3⟩, m3⟩ : ∃ p, oM s2 1 = p := ⟨_, rfl⟩
 obtain ⟨⟨key, s3⟩, x3⟩ : ∃ p, oN t3 c3 = p := ⟨_, rfl⟩
 obtain ⟨⟨sq, s4⟩, e4⟩ : ∃ p, oM s3 6 = p := ⟨_, rfl⟩
 obtain ⟨⟨cl, s5⟩, e5⟩ : ∃ p, oM s4 1 = p := ⟨_, rfl⟩
 obtain ⟨⟨c6, t6⟩, m6⟩ : ∃ p, oM s5 1 = p := ⟨_, rfl⟩
 obtain ⟨⟨dg, s6⟩, x6⟩ : ∃ p, oN t6 c6 = p := ⟨_, rfl⟩
 obtain ⟨⟨c7, t7⟩, m7⟩ : ∃ p, oM s6 2 = p := ⟨_, rfl⟩
 obtain ⟨⟨X, s7⟩, x7⟩ : ∃ p, oN t7 c7 = p := ⟨_, rfl⟩
 have e3 : oT s2 1 = (key, s3) := by unfold oT; rw [m3]; exact x3
 have e6 : oT s5 1 = (dg, s6) := by unfold oT; rw [m6]; exact x6
 have e7 : oT s6 2 = (X, s7) := by unfold oT; rw [m7]; exact x7
 have hc3 : c3 < 256 ^ 1 := by have := oM_lt s2 (k := 1) (by decide); rw [m3] at this; exact this
 have hc6 : c6 < 256 ^ 1 := by have := oM_lt s5 (k := 1) (by decide); rw [m6] at this; exact this
 have hc7 : c7 < 256 ^ 2 := by have := oM_lt s6 (k := 2) (by decide); rw [m7] at this; exact this
 have hkl : key.length ≤ 256 := by have := oN_le t3 c3; rw [x3] at this; dsimp only at this; omega
 have hXl : X.length < 65536 := by have := oN_le t7 c7; rw [x7] at this; dsimp only at this; omega
 have N1 := fun g w' (r : Row w' g (rdC s 0 false) 44) => rnm_any s 1 g 0 false (some s) w' hl (by decide) r ⟨rfl, Nat.zero_le _, rfl⟩
 have N2 := fun g a b w' (r : Row w' g (rdC s a b) 44) q => rnm_any s 4 g a b s1 w' hl (by decide) r q
 have N3 := fun g a b w' (r : Row w' g (rdC s a b) 44) q => rnm_any s 1 g a b s2 w' hl (by decide) r q
 have X3 := fun g a b w' (r : Row w' g (rdC s a b) 44) q => rnx_any s c3 g a b t3 w' hl (by omega) r q
 have N4 := fun g a b w' (r : Row w' g (rdC s a b) 44) q => rnm_any s 6 g a b s3 w' hl (by decide) r q
 have N5 := fun g a b w' (r : Row w' g (rdC s a b) 44) q => rnm_any s 1 g a b s4 w' hl (by decide) r q
 have N6 := fun g a b w' (r : Row w' g (rdC s a b) 44) q => rnm_any s 1 g a b s5 w' hl (by decide) r q
 have X6 := fun g a b w' (r : Row w' g (rdC s a b) 44) q => rnx_any s c6 g a b t6 w' hl (by omega) r q
 have N7 := fun g a b w' (r : Row w' g (rdC s a b) 44) q => rnm_any s 2 g a b s6 w' hl (by decide) r q
 have X7 := fun g a b w' (r : Row w' g (rdC s a b) 44) q => rnx_any s c7 g a b t7 w' hl (by omega) r q
 rw [e1] at N1
 rw [e2] at N2
 rw [m3] at N3
 rw [x3] at X3
 rw [e4] at N4
 rw [e5] at N5
 rw [m6] at N6
 rw [x6] at X6
 rw [m7] at N7
 rw [x7] at X7
 have HE : Hid (∀ L7, s7 = some L7 → rz s = (gZ X L7).bind fun y => some (⟨kd, op, key, sq, cl, dg, X, y.1⟩, y.2)) := fun L7 h => ch_ok e1 e2 e3 e4 e5 e6 (by rw [e7, h])
 have HN : Hid (s7 = none → tz s = none ∧ X = []) := fun h => ⟨tz_none (ch_no e1 e2 e3 e4 e5 e6 (by rw [e7, h])), by have := oT_empty (st := s6) (k := 2) (by rw [e7]; exact h); rw [e7] at this; exact this⟩
 clear e1 e2 e3 e4 e5 e6 e7 m3 x3 m6 x6 m7 x7 hc3 hc6 hc7
 go_enter Try.func7, Try.ntmps7
 (repeat ((fail_if_success with_reducible refine rg ?_); go_step))
 refine wp_region_pw ?_
 refine pw_new (by rfl) 29 rfl _ zero_ms ?_
 intro g2 z0 n0 r2 k
 simp only [Act.put, pu]
 have b2 : w.heap.size ≤ g2 := n0
 clear n0
 have sb := k.below w.heap.size (Nat.le_refl _) (by simp)
 clear k
 refine pw_value (by rfl) (.int .i64 0) (fun _ => rfl) ?_
 simp only [Act.put, pu]
 refine pw_nil ?_
 (repeat ((fail_if_success with_reducible refine rg ?_); go_step))
 refine wp_region_pw ?_
 refine pw_mv (by rfl) rfl rfl ?_
 simp only [Act.put, pu]
 refine pw_value (by rfl) (.int .i64 (s.length : Nat)) (y_lenS _ _ rfl s rfl Try.underlying9) ?_
 simp only [Act.put, pu]
 refine pw_value (by rfl) (.bool false) (x_gt _ _ _ _ rfl (s.length : Nat) 8192 rfl rfl false (decide_eq_false (by omega))) ?_
 simp only [Act.put, pu]
 refine pw_nil ?_
 (repeat ((fail_if_success with_reducible refine rg ?_); go_step))
 refine wp_region_pw ?_
 refine pw_mv (by rfl) rfl rfl ?_
 simp only [Act.put, pu]
 refine pw_value (by rfl) (.agg (rdC s 0 false)) (exec_buildv _ [(0, _)] rfl [(0, .string ⟨s.toArray⟩)] rfl _ (built_rd s)) ?_
 simp only [Act.put, pu]
 refine pw_boxr (by rfl) 44 _ rfl (rdC s 0 false) rfl ?_
 intro g20 z3002 n0 r20 k
 simp only [Act.put, pu]
 have d2x20 := Nat.lt_of_lt_of_le r2.lt n0
 have b20 := Nat.le_trans sb.size n0
 clear n0
 replace r2 := k.row r2 (by simp <;> omega)
 replace sb := sb.trans (k.below w.heap.size sb.size (by simp <;> omega))
 clear k
 refine pw_as (by rfl) rfl rfl ?_
 simp only [Act.put, pu]
 refine pw_nil ?_
 (repeat ((fail_if_success with_reducible refine rg ?_); go_step))
 refine wp_region_pw ?_
 refine pw_mv (by rfl) rfl rfl ?_
 simp only [Act.put, pu]
 refine pw_callE (by rfl) 16 _ _ rfl Try.func16 (by kernel_rfl) #[.pointer (some ⟨g20, 0, none⟩), .int .i64 1] rfl (N1 g20 _ r20) ?_
 have cr20 := r20.lt
 clear r20
 rintro _ z4001 ⟨a1, b1, rfl, r20, q1, k⟩
 refine ⟨_, rfl, ?_⟩
 simp only [Act.put, pu]
 clear cr20
 replace r2 := k.row r2 (by simp <;> omega)
 replace sb := sb.trans (k.below w.heap.size sb.size (by simp <;> omega))
 clear k
 refine pw_value (by rfl) (.agg (msC (kd : Nat) 0 [] 0 0 [] none 0 0 none 0 0)) (exec_buildv _ [(0, _)] rfl [(0, .int .i64 (kd : Nat))] rfl _ (built_mk _)) ?_
 simp only [Act.put, pu]
 refine pw_new (by rfl) 29 rfl _ zero_ms ?_
 intro g5 z4003 n0 r5 k
 simp only [Act.put, pu]
 have d2x5 := Nat.lt_of_lt_of_le r2.lt n0
 have d20x5 := Nat.lt_of_lt_of_le r20.lt n0
 have b5 := Nat.le_trans sb.size n0
 clear n0
 replace r2 := k.row r2 (by simp <;> omega)
 replace r20 := k.row r20 (by simp <;> omega)
 replace sb := sb.trans (k.below w.heap.size sb.size (by simp <;> omega))
 clear k
 refine pw_put (by rfl) 29 _ _ rfl _ rfl r5 (msC (kd : Nat) 0 [] 0 0 [] none 0 0 none 0 0) rfl (by exact size_ms) (by rfl) (ms_one _ _ _ _ _ _ _ _ _ _ _ _) ?_
 clear r5
 intro z4004 r5 k
 simp only [Act.put]
 replace r2 := k.row r2 (by simp <;> omega)
 replace r20 := k.row r20 (by simp <;> omega)
 replace sb := sb.trans (k.below w.heap.size sb.size (by simp <;> omega))
 clear k
 refine pw_nil ?_
 (repeat ((fail_if_success with_reducible refine rg ?_); go_step))
 refine wp_region_pw ?_
 refine pw_mv (by rfl) rfl rfl ?_
 simp only [Act.put, pu]
 refine pw_callE (by rfl) 16 _ _ rfl Try.func16 (by kernel_rfl) #[.pointer (some ⟨g20, 0, none⟩), .int .i64 4] rfl (N2 g20 a1 b1 _ r20 q1) ?_
 have cr20 := r20.lt
 clear r20
 rintro _ z5001 ⟨a2, b2, rfl, r20, q2, k⟩
 refine ⟨_, rfl, ?_⟩
 simp only [Act.put, pu]
 clear cr20
 replace r2 := k.row r2 (by simp <;> omega)
 replace r5 := k.row r5 (by simp <;> omega)
 replace sb := sb.trans (k.below w.heap.size sb.size (by simp <;> omega))
 clear k
 refine pw_value (by rfl) (.pointer (some ⟨g5, 1, none⟩)) (exec_field 29 _ 1 rfl g5 0 rfl _ Try.underlying29 _ rfl 0 Try.sizeOf3) ?_
 simp only [Act.put, pu]
 refine pw_putv (by rfl) 3 _ _ rfl _ (1) rfl r5 (.int .i64 (op : Nat)) rfl rfl rfl size1tint (by exact Nat.succ_lt_succ (Nat.succ_pos _)) (msC (kd : Nat) (op : Nat) [] 0 0 [] none 0 0 none 0 0) rfl ?_
 clear r5
 intro z5003 r5 k
 simp only [Act.put]
 replace r2 := k.row r2 (by simp <;> omega)
 replace r20 := k.row r20 (by simp <;> omega)
 replace sb := sb.trans (k.below w.heap.size sb.size (by simp <;> omega))
 clear k
 refine pw_nil ?_
 (repeat ((fail_if_success with_reducible refine rg ?_); go_step))
 refine wp_region_pw ?_
 refine pw_mv (by rfl) rfl rfl ?_
 simp only [Act.put, pu]
 refine pw_mv (by rfl) rfl rfl ?_
 simp only [Act.put, pu]
 refine pw_callE (by rfl) 16 _ _ rfl Try.func16 (by kernel_rfl) #[.pointer (some ⟨g20, 0, none⟩), .int .i64 1] rfl (N3 g20 a2 b2 _ r20 q2) ?_
 have cr20 := r20.lt
 clear r20
 rintro _ z6002 ⟨a3, b3, rfl, r20, q3, k⟩
 refine ⟨_, rfl, ?_⟩
 simp only [Act.put, pu]
 clear cr20
 replace r2 := k.row r2 (by simp <;> omega)
 replace r5 := k.row r5 (by simp <;> omega)
 replace sb := sb.trans (k.below w.heap.size sb.size (by simp <;> omega))
 clear k
 refine pw_callE (by rfl) 17 _ _ rfl Try.func17 (by kernel_rfl) #[.pointer (some ⟨g20, 0, none⟩), .int .i64 (c3 : Nat)] rfl (X3 g20 a3 b3 _ r20 q3) ?_
 have cr20 := r20.lt
 clear r20
 rintro _ z6003 ⟨a4, b4, rfl, r20, q4, k⟩
 refine ⟨_, rfl, ?_⟩
 simp only [Act.put, pu]
 clear cr20
 replace r2 := k.row r2 (by simp <;> omega)
 replace r5 := k.row r5 (by simp <;> omega)
 replace sb := sb.trans (k.below w.heap.size sb.size (by simp <;> omega))
 clear k
 refine pw_value (by rfl) (.pointer (some ⟨g5, 2, none⟩)) (exec_field 29 _ 2 rfl g5 0 rfl _ Try.underlying29 _ rfl 0 Try.sizeOf9) ?_
 simp only [Act.put, pu]
 refine pw_putv (by rfl) 9 _ _ rfl _ (2) rfl r5 (.string ⟨key.toArray⟩) rfl rfl rfl size1tstring (by exact (by decide : 2 < 8)) (msC (kd : Nat) (op : Nat) key 0 0 [] none 0 0 none 0 0) rfl ?_
 clear r5
 intro z6005 r5 k
 simp only [Act.put]
 replace r2 := k.row r2 (by simp <;> omega)
 replace r20 := k.row r20 (by simp <;> omega)
 replace sb := sb.trans (k.below w.heap.size sb.size (by simp <;> omega))
 clear k
 refine pw_nil ?_
 (repeat ((fail_if_success with_reducible refine rg ?_); go_step))
 refine wp_region_pw ?_
 refine pw_mv (by rfl) rfl rfl ?_
 simp only [Act.put, pu]
 refine pw_callE (by rfl) 16 _ _ rfl Try.func16 (by kernel_rfl) #[.pointer (some ⟨g20, 0, none⟩), .int .i64 6] rfl (N4 g20 a4 b4 _ r20 q4) ?_
 have cr20 := r20.lt
 clear r20
 rintro _ z7001 ⟨a5, b5, rfl, r20, q5, k⟩
 refine ⟨_, rfl, ?_⟩
 simp only [Act.put, pu]
 clear cr20
 replace r2 := k.row r2 (by simp <;> omega)
 replace r5 := k.row r5 (by simp <;> omega)
 replace sb := sb.trans (k.below w.heap.size sb.size (by simp <;> omega))
 clear k
 refine pw_value (by rfl) (.pointer (some ⟨g5, 3, none⟩)) (exec_field 29 _ 3 rfl g5 0 rfl _ Try.underlying29 _ rfl 1 Try.sizeOf24) ?_
 simp only [Act.put, pu]
 refine pw_value (by rfl) (.pointer (some ⟨g5, 3, none⟩)) (exec_field 24 _ 0 rfl g5 3 rfl _ Try.underlying24 _ rfl 0 Try.sizeOf3) ?_
 simp only [Act.put, pu]
 refine pw_putv (by rfl) 3 _ _ rfl _ (3) rfl r5 (.int .i64 (sq : Nat)) rfl rfl rfl size1tint (by exact (by decide : 3 < 8)) (msC (kd : Nat) (op : Nat) key (sq : Nat) 0 [] none 0 0 none 0 0) rfl ?_
 clear r5
 intro z7004 r5 k
 simp only [Act.put]
 replace r2 := k.row r2 (by simp <;> omega)
 replace r20 := k.row r20 (by simp <;> omega)
 replace sb := sb.trans (k.below w.heap.size sb.size (by simp <;> omega))
 clear k
 refine pw_nil ?_
 (repeat ((fail_if_success with_reducible refine rg ?_); go_step))
 refine wp_region_pw ?_
 refine pw_mv (by rfl) rfl rfl ?_
 simp only [Act.put, pu]
 refine pw_callE (by rfl) 16 _ _ rfl Try.func16 (by kernel_rfl) #[.pointer (some ⟨g20, 0, none⟩), .int .i64 1] rfl (N5 g20 a5 b5 _ r20 q5) ?_
 have cr20 := r20.lt
 clear r20
 rintro _ z8001 ⟨a6, b6, rfl, r20, q6, k⟩
 refine ⟨_, rfl, ?_⟩
 simp only [Act.put, pu]
 clear cr20
 replace r2 := k.row r2 (by simp <;> omega)
 replace r5 := k.row r5 (by simp <;> omega)
 replace sb := sb.trans (k.below w.heap.size sb.size (by simp <;> omega))
 clear k
 refine pw_value (by rfl) (.pointer (some ⟨g5, 3, none⟩)) (exec_field 29 _ 3 rfl g5 0 rfl _ Try.underlying29 _ rfl 1 Try.sizeOf24) ?_
 simp only [Act.put, pu]
 refine pw_value (by rfl) (.pointer (some ⟨g5, 4, none⟩)) (exec_field 24 _ 1 rfl g5 3 rfl _ Try.underlying24 _ rfl 0 Try.sizeOf3) ?_
 simp only [Act.put, pu]
 refine pw_putv (by rfl) 3 _ _ rfl _ (4) rfl r5 (.int .i64 (cl : Nat)) rfl rfl rfl size1tint (by exact (by decide : 4 < 8)) (msC (kd : Nat) (op : Nat) key (sq : Nat) (cl : Nat) [] none 0 0 none 0 0) rfl ?_
 clear r5
 intro z8004 r5 k
 simp only [Act.put]
 replace r2 := k.row r2 (by simp <;> omega)
 replace r20 := k.row r20 (by simp <;> omega)
 replace sb := sb.trans (k.below w.heap.size sb.size (by simp <;> omega))
 clear k
 refine pw_nil ?_
 (repeat ((fail_if_success with_reducible refine rg ?_); go_step))
 refine wp_region_pw ?_
 refine pw_mv (by rfl) rfl rfl ?_
 simp only [Act.put, pu]
 refine pw_mv (by rfl) rfl rfl ?_
 simp only [Act.put, pu]
 refine pw_callE (by rfl) 16 _ _ rfl Try.func16 (by kernel_rfl) #[.pointer (some ⟨g20, 0, none⟩), .int .i64 1] rfl (N6 g20 a6 b6 _ r20 q6) ?_
 have cr20 := r20.lt
 clear r20
 rintro _ z9002 ⟨a7, b7, rfl, r20, q7, k⟩
 refine ⟨_, rfl, ?_⟩
 simp only [Act.put, pu]
 clear cr20
 replace r2 := k.row r2 (by simp <;> omega)
 replace r5 := k.row r5 (by simp <;> omega)
 replace sb := sb.trans (k.below w.heap.size sb.size (by simp <;> omega))
 clear k
 refine pw_callE (by rfl) 17 _ _ rfl Try.func17 (by kernel_rfl) #[.pointer (some ⟨g20, 0, none⟩), .int .i64 (c6 : Nat)] rfl (X6 g20 a7 b7 _ r20 q7) ?_
 have cr20 := r20.lt
 clear r20
 rintro _ z9003 ⟨a8, b8, rfl, r20, q8, k⟩
 refine ⟨_, rfl, ?_⟩
 simp only [Act.put, pu]
 clear cr20
 replace r2 := k.row r2 (by simp <;> omega)
 replace r5 := k.row r5 (by simp <;> omega)
 replace sb := sb.trans (k.below w.heap.size sb.size (by simp <;> omega))
 clear k
 refine pw_value (by rfl) (.pointer (some ⟨g5, 5, none⟩)) (exec_field 29 _ 4 rfl g5 0 rfl _ Try.underlying29 _ rfl 0 Try.sizeOf9) ?_
 simp only [Act.put, pu]
 refine pw_putv (by rfl) 9 _ _ rfl _ (5) rfl r5 (.string ⟨dg.toArray⟩) rfl rfl rfl size1tstring (by exact (by decide : 5 < 8)) (msC (kd : Nat) (op : Nat) key (sq : Nat) (cl : Nat) dg none 0 0 none 0 0) rfl ?_
 clear r5
 intro z9005 r5 k
 simp only [Act.put]
 replace r2 := k.row r2 (by simp <;> omega)
 replace r20 := k.row r20 (by simp <;> omega)
 replace sb := sb.trans (k.below w.heap.size sb.size (by simp <;> omega))
 clear k
 refine pw_nil ?_
 (repeat ((fail_if_success with_reducible refine rg ?_); go_step))
 refine wp_region_pw ?_
 refine pw_mv (by rfl) rfl rfl ?_
 simp only [Act.put, pu]
 refine pw_mv (by rfl) rfl rfl ?_
 simp only [Act.put, pu]
 refine pw_callE (by rfl) 16 _ _ rfl Try.func16 (by kernel_rfl) #[.pointer (some ⟨g20, 0, none⟩), .int .i64 2] rfl (N7 g20 a8 b8 _ r20 q8) ?_
 have cr20 := r20.lt
 clear r20
 rintro _ z10002 ⟨a9, b9, rfl, r20, q9, k⟩
 refine ⟨_, rfl, ?_⟩
 simp only [Act.put, pu]
 clear cr20
 replace r2 := k.row r2 (by simp <;> omega)
 replace r5 := k.row r5 (by simp <;> omega)
 replace sb := sb.trans (k.below w.heap.size sb.size (by simp <;> omega))
 clear k
 refine pw_callE (by rfl) 17 _ _ rfl Try.func17 (by kernel_rfl) #[.pointer (some ⟨g20, 0, none⟩), .int .i64 (c7 : Nat)] rfl (X7 g20 a9 b9 _ r20 q9) ?_
 have cr20 := r20.lt
 clear r20
 rintro _ z10003 ⟨aa, bb, rfl, r20, q10, k⟩
 refine ⟨_, rfl, ?_⟩
 simp only [Act.put, pu]
 clear cr20
 replace r2 := k.row r2 (by simp <;> omega)
 replace r5 := k.row r5 (by simp <;> omega)
 replace sb := sb.trans (k.below w.heap.size sb.size (by simp <;> omega))
 clear k
 refine pw_as (by rfl) rfl rfl ?_
 simp only [Act.put, pu]
 refine pw_nil ?_
 clear N1 N2 N3 X3 N4 N5 N6 X6 N7 X7 q1 q2 q3 q4 q5 q6 q7 q8 q9
 have hst : RdS s aa bb s7 := q10
 clear q10
 by_cases hX : X = []
 ·subst hX
  (repeat ((fail_if_success with_reducible refine rg ?_); go_step))
  refine wp_region_pw ?_
  refine pw_mv (by rfl) rfl rfl ?_
  simp only [Act.put, pu]
  refine pw_value (by rfl) (.bool false) (y_neS _ _ _ _ rfl [] [] rfl rfl false (by simp)) ?_
  simp only [Act.put, pu]
  refine pw_nil ?_
  cases s7 with
  | none =>
   have hno : Hid (tz s = none) := (HN.out rfl).1
   obtain rfl : bb = true := hst
   clear HE HN
   (repeat ((fail_if_success with_reducible refine rg ?_); go_step))
   refine wp_region_pw ?_
   refine pw_loadm (by rfl) 29 _ rfl _ (0) rfl r5.r (msC (kd : Nat) (op : Nat) key (sq : Nat) (cl : Nat) dg none 0 0 none 0 0) (part_all _) _ Try.underlying29 rfl size_ms ?_
   simp only [Act.put, pu]
   refine pw_callE (by rfl) 20 _ _ rfl Try.func20 (by kernel_rfl) #[.agg (msC (kd : Nat) (op : Nat) key (sq : Nat) (cl : Nat) dg none 0 0 none 0 0)] rfl (rput_any (N := NX []) (M := MZ []) (Y := Yt []) (by omega) (by decide) (fun i hi => absurd hi (Nat.not_lt_zero i)) (mtA_nil _ _ _) ⟨0, 0, #[], 0, ⟨.inl rfl, fun i hi => absurd hi (Nat.not_lt_zero i)⟩⟩) ?_
   rintro _ z21001 ⟨⟨T0, E0, rfl⟩, hb⟩
   refine ⟨_, rfl, ?_⟩
   simp only [Act.put, pu]
   have k := Kept.ofBelow hb
   clear hb
   replace r2 := k.row r2 (by simp <;> omega)
   replace r20 := k.row r20 (by simp <;> omega)
   replace r5 := k.row r5 (by simp <;> omega)
   replace sb := sb.trans (k.below w.heap.size sb.size (by simp <;> omega))
   clear k
   refine pw_mv (by rfl) rfl rfl ?_
   simp only [Act.put, pu]
   refine pw_ext (by rfl) rfl rfl rfl ?_
   simp only [Act.put, pu]
   refine pw_ext (by rfl) rfl rfl rfl ?_
   simp only [Act.put, pu]
   refine pw_as (by rfl) rfl rfl ?_
   simp only [Act.put, pu]
   refine pw_as (by rfl) rfl rfl ?_
   simp only [Act.put, pu]
   refine pw_nil ?_
   (repeat ((fail_if_success with_reducible refine rg ?_); go_step))
   refine wp_region_pw ?_
   refine pw_mv (by rfl) rfl rfl ?_
   simp only [Act.put, pu]
   refine pw_value (by rfl) (.pointer (some ⟨g20, 0, none⟩)) (exec_nil _ rfl g20 0 rfl) ?_
   simp only [Act.put, pu]
   refine pw_value (by rfl) (.pointer (some ⟨g20, 2, none⟩)) (exec_field 44 _ 2 rfl g20 0 rfl _ Try.underlying44 _ rfl 0 Try.sizeOf4) ?_
   simp only [Act.put, pu]
   refine pw_loadk (by rfl) 4 _ rfl _ (2) rfl r20.r (.bool true) rfl Try.isAgg4 ?_
   simp only [Act.put, pu]
   refine pw_mv (by rfl) rfl rfl ?_
   simp only [Act.put, pu]
   refine pw_skip (by rfl) ?_
   simp only [Act.put, pu]
   refine pw_skip (by rfl) ?_
   simp only [Act.put, pu]
   refine pw_pick (by rfl) true (v := .bool true) rfl rfl rfl ?_
   simp only [Act.put, pu]
   refine pw_mv (by rfl) rfl rfl ?_
   simp only [Act.put, pu]
   refine pw_skip (by rfl) ?_
   simp only [Act.put, pu]
   refine pw_skip (by rfl) ?_
   simp only [Act.put, pu]
   refine pw_skip (by rfl) ?_
   simp only [Act.put, pu]
   refine pw_pick (by rfl) true (v := .bool true) rfl rfl rfl ?_
   simp only [Act.put, pu]
   refine pw_nil ?_
   (repeat ((fail_if_success with_reducible refine rg ?_); go_step))
   refine wp_region_pw ?_
   refine pw_value (by rfl) (.agg (msC 0 0 [] 0 0 [] none 0 0 none 0 0)) (exec_buildv _ [] rfl [] rfl _ built_mz) ?_
   simp only [Act.put, pu]
   refine pw_put (by rfl) 29 _ _ rfl _ rfl r2 (msC 0 0 [] 0 0 [] none 0 0 none 0 0) rfl (by exact size_ms) (by rfl) (ms_one _ _ _ _ _ _ _ _ _ _ _ _) ?_
   clear r2
   intro z23001 r2 k
   simp only [Act.put]
   replace sb := sb.trans (k.below w.heap.size sb.size (by simp <;> omega))
   clear k
   refine pw_value (by rfl) (.int .i64 4) (fun _ => rfl) ?_
   simp only [Act.put, pu]
   refine pw_nil ?_
   go_wp2
   exact ret_row2d rfl _ rfl r2 _ Try.underlying29 (by exact size_ms) rfl _ rfl ⟨Or.inl ⟨hno.out, rfl⟩, sb⟩
  | some L8 =>
   have hrz : rz s = some (⟨kd, op, key, sq, cl, dg, [], []⟩, L8) := by rw [HE.out L8 rfl, gZ_nil]; rfl
   obtain ⟨rfl, _, _⟩ := hst
   clear HE HN
   have hmd : msC (kd : Nat) (op : Nat) key (sq : Nat) (cl : Nat) dg none 0 0 none 0 0 = msC (kd : Nat) (op : Nat) key (sq : Nat) (cl : Nat) dg none (nX []) 0 none 0 0 := by rw [nX_nil]
   have hok := (rz_is hrz).2
   have hse := (rz_is hrz).1
   have hBm := msL_of hok
   have hBl : (rdR ⟨kd, op, key, sq, cl, dg, [], []⟩ []).length ≤ 8192 := by
    have := congrArg List.length hse
    rw [rdR_app, List.length_append] at this
    omega
   obtain ⟨B, hB⟩ : ∃ B, rdR ⟨kd, op, key, sq, cl, dg, [], []⟩ [] = B := ⟨_, rfl⟩
   have hBs : B = s ↔ L8 = [] := by
    rw [← hB]
    constructor
    ·intro h
     have h2 := congrArg List.length hse
     rw [rdR_app, h, List.length_append] at h2
     exact List.eq_nil_of_length_eq_zero (by omega)
    ·intro h
     rw [hse, rdR_app, h, List.append_nil]
   rw [hB] at hBm hBl
   clear hse hB hok
   cases hW : wmD ⟨kd, op, key, sq, cl, dg, [], []⟩ with
   | false =>
    have hno : Hid (tz s = none) := by
     by_cases hR : L8 = []
     ·subst hR; exact tz_bad hrz hW
     ·exact tz_more hrz hR
    have hW2 : wmB (kd : Nat) (op : Nat) key (sq : Nat) (cl : Nat) dg (brB 0 0) (dlB 0 0 (xmB 0 (NX []) (MZ []))) = false := by rw [xmB_0]; rw [← hW]; unfold wmD; rw [nX_nil]; rfl
    (repeat ((fail_if_success with_reducible refine rg ?_); go_step))
    refine wp_region_pw ?_
    refine pw_loadm (by rfl) 29 _ rfl _ (0) rfl r5.r (msC (kd : Nat) (op : Nat) key (sq : Nat) (cl : Nat) dg none 0 0 none 0 0) (part_all _) _ Try.underlying29 rfl size_ms ?_
    simp only [Act.put, pu]
    refine pw_callB (by rfl) 20 _ _ rfl Try.func20 (by kernel_rfl) #[.agg (msC (kd : Nat) (op : Nat) key (sq : Nat) (cl : Nat) dg none 0 0 none 0 0)] rfl _ (rput_f (Y := Yt []) (by omega) (by omega) (fun i hi => absurd hi (Nat.not_lt_zero i)) (mtA_nil _ _ _) (⟨0, 0, #[], 0, ⟨.inl rfl, fun i hi => absurd hi (Nat.not_lt_zero i)⟩⟩) hW2) ?_
    intro z21001 k
    simp only [Act.put, pu]
    replace r2 := k.row r2 (by simp <;> omega)
    replace r20 := k.row r20 (by simp <;> omega)
    replace r5 := k.row r5 (by simp <;> omega)
    replace sb := sb.trans (k.below w.heap.size sb.size (by simp <;> omega))
    clear k
    refine pw_mv (by rfl) rfl rfl ?_
    simp only [Act.put, pu]
    refine pw_ext (by rfl) rfl rfl rfl ?_
    simp only [Act.put, pu]
    refine pw_ext (by rfl) rfl rfl rfl ?_
    simp only [Act.put, pu]
    refine pw_as (by rfl) rfl rfl ?_
    simp only [Act.put, pu]
    refine pw_as (by rfl) rfl rfl ?_
    simp only [Act.put, pu]
    refine pw_nil ?_
    (repeat ((fail_if_success with_reducible refine rg ?_); go_step))
    refine wp_region_pw ?_
    refine pw_mv (by rfl) rfl rfl ?_
    simp only [Act.put, pu]
    refine pw_value (by rfl) (.pointer (some ⟨g20, 0, none⟩)) (exec_nil _ rfl g20 0 rfl) ?_
    simp only [Act.put, pu]
    refine pw_value (by rfl) (.pointer (some ⟨g20, 2, none⟩)) (exec_field 44 _ 2 rfl g20 0 rfl _ Try.underlying44 _ rfl 0 Try.sizeOf4) ?_
    simp only [Act.put, pu]
    refine pw_loadk (by rfl) 4 _ rfl _ (2) rfl r20.r (.bool false) rfl Try.isAgg4 ?_
    simp only [Act.put, pu]
    refine pw_mv (by rfl) rfl rfl ?_
    simp only [Act.put, pu]
    refine pw_mv (by rfl) rfl rfl ?_
    simp only [Act.put, pu]
    refine pw_value (by rfl) (.bool true) (exec_neq_k .i64 _ _ _ _ rfl 1 0 rfl rfl true rfl) ?_
    simp only [Act.put, pu]
    refine pw_pick (by rfl) false (v := .bool true) rfl rfl rfl ?_
    simp only [Act.put, pu]
    refine pw_mv (by rfl) rfl rfl ?_
    simp only [Act.put, pu]
    refine pw_skip (by rfl) ?_
    simp only [Act.put, pu]
    refine pw_skip (by rfl) ?_
    simp only [Act.put, pu]
    refine pw_skip (by rfl) ?_
    simp only [Act.put, pu]
    refine pw_pick (by rfl) true (v := .bool true) rfl rfl rfl ?_
    simp only [Act.put, pu]
    refine pw_nil ?_
    (repeat ((fail_if_success with_reducible refine rg ?_); go_step))
    refine wp_region_pw ?_
    refine pw_value (by rfl) (.agg (msC 0 0 [] 0 0 [] none 0 0 none 0 0)) (exec_buildv _ [] rfl [] rfl _ built_mz) ?_
    simp only [Act.put, pu]
    refine pw_put (by rfl) 29 _ _ rfl _ rfl r2 (msC 0 0 [] 0 0 [] none 0 0 none 0 0) rfl (by exact size_ms) (by rfl) (ms_one _ _ _ _ _ _ _ _ _ _ _ _) ?_
    clear r2
    intro z23001 r2 k
    simp only [Act.put]
    replace sb := sb.trans (k.below w.heap.size sb.size (by simp <;> omega))
    clear k
    refine pw_value (by rfl) (.int .i64 4) (fun _ => rfl) ?_
    simp only [Act.put, pu]
    refine pw_nil ?_
    go_wp2
    exact ret_row2d rfl _ rfl r2 _ Try.underlying29 (by exact size_ms) rfl _ rfl ⟨Or.inl ⟨hno.out, rfl⟩, sb⟩
   | true =>
    have hW2 : wmB (kd : Nat) (op : Nat) key (sq : Nat) (cl : Nat) dg (brB 0 0) (dlB 0 0 (xmB 0 (NX []) (MZ []))) = true := by rw [xmB_0]; rw [← hW]; unfold wmD; rw [nX_nil]; rfl
    have hBm2 : msL kd op key sq cl dg (xmB 0 (NX []) (MZ [])) 0 (Yt []) = B := by rw [xmB_0]; exact hBm
    by_cases hR : L8 = []
    ·subst hR
     have hyes : Hid (tz s = some ⟨kd, op, key, sq, cl, dg, [], []⟩) := tz_ok hl hrz hW
     have hne : decide (B = s) = !false := decide_eq_true (hBs.2 rfl)
     (repeat ((fail_if_success with_reducible refine rg ?_); go_step))
     refine wp_region_pw ?_
     refine pw_loadm (by rfl) 29 _ rfl _ (0) rfl r5.r (msC (kd : Nat) (op : Nat) key (sq : Nat) (cl : Nat) dg none 0 0 none 0 0) (part_all _) _ Try.underlying29 rfl size_ms ?_
     simp only [Act.put, pu]
     refine pw_callB (by rfl) 20 _ _ rfl Try.func20 (by kernel_rfl) #[.agg (msC (kd : Nat) (op : Nat) key (sq : Nat) (cl : Nat) dg none 0 0 none 0 0)] rfl _ (rput_t (Y := Yt []) (by omega) (by omega) (fun i hi => absurd hi (Nat.not_lt_zero i)) (mtA_nil _ _ _) (⟨0, 0, #[], 0, ⟨.inl rfl, fun i hi => absurd hi (Nat.not_lt_zero i)⟩⟩) hW2 B hBm2 hBl) ?_
     intro z21001 k
     simp only [Act.put, pu]
     replace r2 := k.row r2 (by simp <;> omega)
     replace r20 := k.row r20 (by simp <;> omega)
     replace r5 := k.row r5 (by simp <;> omega)
     replace sb := sb.trans (k.below w.heap.size sb.size (by simp <;> omega))
     clear k
     refine pw_mv (by rfl) rfl rfl ?_
     simp only [Act.put, pu]
     refine pw_ext (by rfl) rfl rfl rfl ?_
     simp only [Act.put, pu]
     refine pw_ext (by rfl) rfl rfl rfl ?_
     simp only [Act.put, pu]
     refine pw_as (by rfl) rfl rfl ?_
     simp only [Act.put, pu]
     refine pw_as (by rfl) rfl rfl ?_
     simp only [Act.put, pu]
     refine pw_nil ?_
     (repeat ((fail_if_success with_reducible refine rg ?_); go_step))
     refine wp_region_pw ?_
     refine pw_mv (by rfl) rfl rfl ?_
     simp only [Act.put, pu]
     refine pw_value (by rfl) (.pointer (some ⟨g20, 0, none⟩)) (exec_nil _ rfl g20 0 rfl) ?_
     simp only [Act.put, pu]
     refine pw_value (by rfl) (.pointer (some ⟨g20, 2, none⟩)) (exec_field 44 _ 2 rfl g20 0 rfl _ Try.underlying44 _ rfl 0 Try.sizeOf4) ?_
     simp only [Act.put, pu]
     refine pw_loadk (by rfl) 4 _ rfl _ (2) rfl r20.r (.bool false) rfl Try.isAgg4 ?_
     simp only [Act.put, pu]
     refine pw_mv (by rfl) rfl rfl ?_
     simp only [Act.put, pu]
     refine pw_mv (by rfl) rfl rfl ?_
     simp only [Act.put, pu]
     refine pw_value (by rfl) (.bool false) (exec_neq_k .i64 _ _ _ _ rfl 0 0 rfl rfl false rfl) ?_
     simp only [Act.put, pu]
     refine pw_pick (by rfl) false (v := .bool false) rfl rfl rfl ?_
     simp only [Act.put, pu]
     refine pw_mv (by rfl) rfl rfl ?_
     simp only [Act.put, pu]
     refine pw_mv (by rfl) rfl rfl ?_
     simp only [Act.put, pu]
     refine pw_mv (by rfl) rfl rfl ?_
     simp only [Act.put, pu]
     refine pw_value (by rfl) (.bool false) (y_neS _ _ _ _ rfl B s rfl rfl false hne) ?_
     simp only [Act.put, pu]
     refine pw_pick (by rfl) false (v := .bool false) rfl rfl rfl ?_
     simp only [Act.put, pu]
     refine pw_nil ?_
     (repeat ((fail_if_success with_reducible refine rg ?_); go_step))
     refine wp_region_pw ?_
     refine pw_loadm (by rfl) 29 _ rfl _ (0) rfl r5.r (msC (kd : Nat) (op : Nat) key (sq : Nat) (cl : Nat) dg none 0 0 none 0 0) (part_all _) _ Try.underlying29 rfl size_ms ?_
     simp only [Act.put, pu]
     refine pw_put (by rfl) 29 _ _ rfl _ rfl r2 (msC (kd : Nat) (op : Nat) key (sq : Nat) (cl : Nat) dg none 0 0 none 0 0) rfl (by exact size_ms) (by rfl) (ms_one _ _ _ _ _ _ _ _ _ _ _ _) ?_
     clear r2
     intro z24001 r2 k
     simp only [Act.put]
     replace r20 := k.row r20 (by simp <;> omega)
     replace r5 := k.row r5 (by simp <;> omega)
     replace sb := sb.trans (k.below w.heap.size sb.size (by simp <;> omega))
     clear k
     refine pw_value (by rfl) (.int .i64 0) (fun _ => rfl) ?_
     simp only [Act.put, pu]
     refine pw_nil ?_
     go_wp2
     exact ret_row2d rfl _ rfl r2 _ Try.underlying29 (by exact size_ms) rfl _ rfl ⟨Or.inr ⟨⟨kd, op, key, sq, cl, dg, [], []⟩, none, 0, none, 0, hyes.out, congrArg (fun c => Ending.returned (Value.tuple #[Value.agg c, Value.int IntKind.i64 0])) hmd, fun w3 T _ _ => ⟨by show MtA _ none (nX []) _ _; rw [nX_nil]; exact mtA_nil _ _ _, ⟨0, 0, #[], 0, ⟨.inl rfl, fun i hi => absurd hi (Nat.not_lt_zero i)⟩⟩⟩⟩, sb⟩
    ·have hno : Hid (tz s = none) := tz_more hrz hR
     have hne : decide (B = s) = !true := decide_eq_false (fun h => hR (hBs.1 h))
     (repeat ((fail_if_success with_reducible refine rg ?_); go_step))
     refine wp_region_pw ?_
     refine pw_loadm (by rfl) 29 _ rfl _ (0) rfl r5.r (msC (kd : Nat) (op : Nat) key (sq : Nat) (cl : Nat) dg none 0 0 none 0 0) (part_all _) _ Try.underlying29 rfl size_ms ?_
     simp only [Act.put, pu]
     refine pw_callB (by rfl) 20 _ _ rfl Try.func20 (by kernel_rfl) #[.agg (msC (kd : Nat) (op : Nat) key (sq : Nat) (cl : Nat) dg none 0 0 none 0 0)] rfl _ (rput_t (Y := Yt []) (by omega) (by omega) (fun i hi => absurd hi (Nat.not_lt_zero i)) (mtA_nil _ _ _) (⟨0, 0, #[], 0, ⟨.inl rfl, fun i hi => absurd hi (Nat.not_lt_zero i)⟩⟩) hW2 B hBm2 hBl) ?_
     intro z21001 k
     simp only [Act.put, pu]
     replace r2 := k.row r2 (by simp <;> omega)
     replace r20 := k.row r20 (by simp <;> omega)
     replace r5 := k.row r5 (by simp <;> omega)
     replace sb := sb.trans (k.below w.heap.size sb.size (by simp <;> omega))
     clear k
     refine pw_mv (by rfl) rfl rfl ?_
     simp only [Act.put, pu]
     refine pw_ext (by rfl) rfl rfl rfl ?_
     simp only [Act.put, pu]
     refine pw_ext (by rfl) rfl rfl rfl ?_
     simp only [Act.put, pu]
     refine pw_as (by rfl) rfl rfl ?_
     simp only [Act.put, pu]
     refine pw_as (by rfl) rfl rfl ?_
     simp only [Act.put, pu]
     refine pw_nil ?_
     (repeat ((fail_if_success with_reducible refine rg ?_); go_step))
     refine wp_region_pw ?_
     refine pw_mv (by rfl) rfl rfl ?_
     simp only [Act.put, pu]
     refine pw_value (by rfl) (.pointer (some ⟨g20, 0, none⟩)) (exec_nil _ rfl g20 0 rfl) ?_
     simp only [Act.put, pu]
     refine pw_value (by rfl) (.pointer (some ⟨g20, 2, none⟩)) (exec_field 44 _ 2 rfl g20 0 rfl _ Try.underlying44 _ rfl 0 Try.sizeOf4) ?_
     simp only [Act.put, pu]
     refine pw_loadk (by rfl) 4 _ rfl _ (2) rfl r20.r (.bool false) rfl Try.isAgg4 ?_
     simp only [Act.put, pu]
     refine pw_mv (by rfl) rfl rfl ?_
     simp only [Act.put, pu]
     refine pw_mv (by rfl) rfl rfl ?_
     simp only [Act.put, pu]
     refine pw_value (by rfl) (.bool false) (exec_neq_k .i64 _ _ _ _ rfl 0 0 rfl rfl false rfl) ?_
     simp only [Act.put, pu]
     refine pw_pick (by rfl) false (v := .bool false) rfl rfl rfl ?_
     simp only [Act.put, pu]
     refine pw_mv (by rfl) rfl rfl ?_
     simp only [Act.put, pu]
     refine pw_mv (by rfl) rfl rfl ?_
     simp only [Act.put, pu]
     refine pw_mv (by rfl) rfl rfl ?_
     simp only [Act.put, pu]
     refine pw_value (by rfl) (.bool true) (y_neS _ _ _ _ rfl B s rfl rfl true hne) ?_
     simp only [Act.put, pu]
     refine pw_pick (by rfl) false (v := .bool true) rfl rfl rfl ?_
     simp only [Act.put, pu]
     refine pw_nil ?_
     (repeat ((fail_if_success with_reducible refine rg ?_); go_step))
     refine wp_region_pw ?_
     refine pw_value (by rfl) (.agg (msC 0 0 [] 0 0 [] none 0 0 none 0 0)) (exec_buildv _ [] rfl [] rfl _ built_mz) ?_
     simp only [Act.put, pu]
     refine pw_put (by rfl) 29 _ _ rfl _ rfl r2 (msC 0 0 [] 0 0 [] none 0 0 none 0 0) rfl (by exact size_ms) (by rfl) (ms_one _ _ _ _ _ _ _ _ _ _ _ _) ?_
     clear r2
     intro z23001 r2 k
     simp only [Act.put]
     replace sb := sb.trans (k.below w.heap.size sb.size (by simp <;> omega))
     clear k
     refine pw_value (by rfl) (.int .i64 4) (fun _ => rfl) ?_
     simp only [Act.put, pu]
     refine pw_nil ?_
     go_wp2
     exact ret_row2d rfl _ rfl r2 _ Try.underlying29 (by exact size_ms) rfl _ rfl ⟨Or.inl ⟨hno.out, rfl⟩, sb⟩
 ·skip
  (repeat ((fail_if_success with_reducible refine rg ?_); go_step))
  refine wp_region_pw ?_
  refine pw_mv (by rfl) rfl rfl ?_
  simp only [Act.put, pu]
  refine pw_value (by rfl) (.bool true) (y_neS _ _ _ _ rfl X [] rfl rfl true (by simp [hX])) ?_
  simp only [Act.put, pu]
  refine pw_nil ?_
  obtain ⟨L7, hL7⟩ : ∃ L7, s7 = some L7 := by
   cases h : s7 with
   | none => exact absurd (HN.out h).2 hX
   | some L7 => exact ⟨L7, rfl⟩
  have HR : Hid (rz s = (gZ X L7).bind fun y => some (⟨kd, op, key, sq, cl, dg, X, y.1⟩, y.2)) := HE.out L7 hL7
  rw [hL7] at hst
  obtain ⟨rfl, ha1, ha2⟩ := hst
  clear HE HN hL7
  cases hg : gX X with
  | false =>
   have hno : Hid (tz s = none) := tz_none (by rw [HR.out, gZ_no hX hg]; rfl)
   clear HR
   (repeat ((fail_if_success with_reducible refine rg ?_); go_step))
   refine wp_region_pw ?_
   refine pw_mv (by rfl) rfl rfl ?_
   simp only [Act.put, pu]
   refine pw_callB (by rfl) 18 _ _ rfl Try.func18 (by kernel_rfl) #[.string ⟨X.toArray⟩] rfl _ (rmtk_no X _ (by omega) (gX_no hg)) ?_
   intro z12001 k
   simp only [Act.put, pu]
   replace r2 := k.row r2 (by simp <;> omega)
   replace r20 := k.row r20 (by simp <;> omega)
   replace r5 := k.row r5 (by simp <;> omega)
   replace sb := sb.trans (k.below w.heap.size sb.size (by simp <;> omega))
   clear k
   refine pw_mv (by rfl) rfl rfl ?_
   simp only [Act.put, pu]
   refine pw_ext (by rfl) rfl rfl rfl ?_
   simp only [Act.put, pu]
   refine pw_ext (by rfl) rfl rfl rfl ?_
   simp only [Act.put, pu]
   refine pw_as (by rfl) rfl rfl ?_
   simp only [Act.put, pu]
   refine pw_as (by rfl) rfl rfl ?_
   simp only [Act.put, pu]
   refine pw_nil ?_
   (repeat ((fail_if_success with_reducible refine rg ?_); go_step))
   refine wp_region_pw ?_
   refine pw_mv (by rfl) rfl rfl ?_
   simp only [Act.put, pu]
   refine pw_mv (by rfl) rfl rfl ?_
   simp only [Act.put, pu]
   refine pw_value (by rfl) (.pointer (some ⟨g20, 0, none⟩)) (exec_nil _ rfl g20 0 rfl) ?_
   simp only [Act.put, pu]
   refine pw_value (by rfl) (.pointer (some ⟨g20, 2, none⟩)) (exec_field 44 _ 2 rfl g20 0 rfl _ Try.underlying44 _ rfl 0 Try.sizeOf4) ?_
   simp only [Act.put, pu]
   refine pw_loadk (by rfl) 4 _ rfl _ (2) rfl r20.r (.bool false) rfl Try.isAgg4 ?_
   simp only [Act.put, pu]
   refine pw_mv (by rfl) rfl rfl ?_
   simp only [Act.put, pu]
   refine pw_mv (by rfl) rfl rfl ?_
   simp only [Act.put, pu]
   refine pw_value (by rfl) (.bool true) (exec_neq_k .i64 _ _ _ _ rfl 4 0 rfl rfl true rfl) ?_
   simp only [Act.put, pu]
   refine pw_pick (by rfl) false (v := .bool true) rfl rfl rfl ?_
   simp only [Act.put, pu]
   refine pw_value (by rfl) (.pointer (some ⟨g20, 0, none⟩)) (exec_nil _ rfl g20 0 rfl) ?_
   simp only [Act.put, pu]
   refine pw_value (by rfl) (.pointer (some ⟨g20, 2, none⟩)) (exec_field 44 _ 2 rfl g20 0 rfl _ Try.underlying44 _ rfl 0 Try.sizeOf4) ?_
   simp only [Act.put, pu]
   refine pw_putv (by rfl) 4 _ _ rfl _ (2) rfl r20 (.bool true) rfl rfl rfl size1tbool (by exact (by decide : 2 < 3)) (rdC s aa true) rfl ?_
   clear r20
   intro z13011 r20 k
   simp only [Act.put]
   replace r2 := k.row r2 (by simp <;> omega)
   replace r5 := k.row r5 (by simp <;> omega)
   replace sb := sb.trans (k.below w.heap.size sb.size (by simp <;> omega))
   clear k
   refine pw_nil ?_
   (repeat ((fail_if_success with_reducible refine rg ?_); go_step))
   refine wp_region_pw ?_
   refine pw_mv (by rfl) rfl rfl ?_
   simp only [Act.put, pu]
   refine pw_value (by rfl) (.pointer (some ⟨g5, 6, none⟩)) (exec_field 29 _ 5 rfl g5 0 rfl _ Try.underlying29 _ rfl 0 Try.sizeOf26) ?_
   simp only [Act.put, pu]
   refine pw_putv (by rfl) 26 _ _ rfl _ (6) rfl r5 (.slice none 0 0) rfl rfl rfl size1tapiatrix (by exact (by decide : 6 < 8)) (msC (kd : Nat) (op : Nat) key (sq : Nat) (cl : Nat) dg none 0 0 none 0 0) rfl ?_
   clear r5
   intro z14002 r5 k
   simp only [Act.put]
   replace r2 := k.row r2 (by simp <;> omega)
   replace r20 := k.row r20 (by simp <;> omega)
   replace sb := sb.trans (k.below w.heap.size sb.size (by simp <;> omega))
   clear k
   refine pw_nil ?_
   (repeat ((fail_if_success with_reducible refine rg ?_); go_step))
   refine wp_region_pw ?_
   refine pw_value (by rfl) (.int .i64 0) (fun _ => rfl) ?_
   simp only [Act.put, pu]
   refine pw_nil ?_
   go_wp2_with fail
   go_loopg [9, 10, 11] 0 (fun x s9 s10 s11 wr => s9 = .int .i64 ((0 : Nat) : Int) ∧ Row wr g2 (msC 0 0 [] 0 0 [] none 0 0 none 0 0) 29 ∧ Row wr g20 (rdC s aa true) 44 ∧ Row wr g5 (msC (kd : Nat) (op : Nat) key (sq : Nat) (cl : Nat) dg none 0 0 none 0 0) 29 ∧ Below w.heap.size w wr)
   case atStart => exact ⟨rfl, r2, r20, r5, sb⟩
   case round =>
    clear r2 r20 r5 sb
    obtain ⟨rfl, r2, r20, r5, sb⟩ := hrel
    (repeat ((fail_if_success with_reducible refine rg ?_); go_step))
    refine wp_region_pw ?_
    refine pw_mv (by rfl) rfl rfl ?_
    simp only [Act.put, pu]
    refine pw_mv (by rfl) rfl rfl ?_
    simp only [Act.put, pu]
    refine pw_value (by rfl) (.int .i64 ((0 : Nat) : Int)) (exec_len_s 26 _ rfl none 0 0 rfl sl_mw) ?_
    simp only [Act.put, pu]
    refine pw_value (by rfl) (.bool false) (exec_lt_b _ _ _ _ rfl ((0 : Nat) : Int) ((0 : Nat) : Int) rfl rfl false (by decide)) ?_
    simp only [Act.put, pu]
    refine pw_mv (by rfl) rfl rfl ?_
    simp only [Act.put, pu]
    refine pw_skip (by rfl) ?_
    simp only [Act.put, pu]
    refine pw_skip (by rfl) ?_
    simp only [Act.put, pu]
    refine pw_skip (by rfl) ?_
    simp only [Act.put, pu]
    refine pw_skip (by rfl) ?_
    simp only [Act.put, pu]
    refine pw_skip (by rfl) ?_
    simp only [Act.put, pu]
    refine pw_pick (by rfl) false (v := .bool false) rfl rfl rfl ?_
    simp only [Act.put, pu]
    refine pw_nil ?_
    (repeat ((fail_if_success with_reducible refine rg ?_); go_step))
    refine wp_region_pw ?_
    refine pw_loadm (by rfl) 29 _ rfl _ (0) rfl r5.r (msC (kd : Nat) (op : Nat) key (sq : Nat) (cl : Nat) dg none 0 0 none 0 0) (part_all _) _ Try.underlying29 rfl size_ms ?_
    simp only [Act.put, pu]
    refine pw_callE (by rfl) 20 _ _ rfl Try.func20 (by kernel_rfl) #[.agg (msC (kd : Nat) (op : Nat) key (sq : Nat) (cl : Nat) dg none 0 0 none 0 0)] rfl (rput_any (N := NX []) (M := MZ []) (Y := Yt []) (by omega) (by decide) (fun i hi => absurd hi (Nat.not_lt_zero i)) (mtA_nil _ _ _) ⟨0, 0, #[], 0, ⟨.inl rfl, fun i hi => absurd hi (Nat.not_lt_zero i)⟩⟩) ?_
    rintro _ z21001 ⟨⟨T0, E0, rfl⟩, hb⟩
    refine ⟨_, rfl, ?_⟩
    simp only [Act.put, pu]
    have k := Kept.ofBelow hb
    clear hb
    replace r2 := k.row r2 (by simp <;> omega)
    replace r20 := k.row r20 (by simp <;> omega)
    replace r5 := k.row r5 (by simp <;> omega)
    replace sb := sb.trans (k.below w.heap.size sb.size (by simp <;> omega))
    clear k
    refine pw_mv (by rfl) rfl rfl ?_
    simp only [Act.put, pu]
    refine pw_ext (by rfl) rfl rfl rfl ?_
    simp only [Act.put, pu]
    refine pw_ext (by rfl) rfl rfl rfl ?_
    simp only [Act.put, pu]
    refine pw_as (by rfl) rfl rfl ?_
    simp only [Act.put, pu]
    refine pw_as (by rfl) rfl rfl ?_
    simp only [Act.put, pu]
    refine pw_nil ?_
    (repeat ((fail_if_success with_reducible refine rg ?_); go_step))
    refine wp_region_pw ?_
    refine pw_mv (by rfl) rfl rfl ?_
    simp only [Act.put, pu]
    refine pw_value (by rfl) (.pointer (some ⟨g20, 0, none⟩)) (exec_nil _ rfl g20 0 rfl) ?_
    simp only [Act.put, pu]
    refine pw_value (by rfl) (.pointer (some ⟨g20, 2, none⟩)) (exec_field 44 _ 2 rfl g20 0 rfl _ Try.underlying44 _ rfl 0 Try.sizeOf4) ?_
    simp only [Act.put, pu]
    refine pw_loadk (by rfl) 4 _ rfl _ (2) rfl r20.r (.bool true) rfl Try.isAgg4 ?_
    simp only [Act.put, pu]
    refine pw_mv (by rfl) rfl rfl ?_
    simp only [Act.put, pu]
    refine pw_skip (by rfl) ?_
    simp only [Act.put, pu]
    refine pw_skip (by rfl) ?_
    simp only [Act.put, pu]
    refine pw_pick (by rfl) true (v := .bool true) rfl rfl rfl ?_
    simp only [Act.put, pu]
    refine pw_mv (by rfl) rfl rfl ?_
    simp only [Act.put, pu]
    refine pw_skip (by rfl) ?_
    simp only [Act.put, pu]
    refine pw_skip (by rfl) ?_
    simp only [Act.put, pu]
    refine pw_skip (by rfl) ?_
    simp only [Act.put, pu]
    refine pw_pick (by rfl) true (v := .bool true) rfl rfl rfl ?_
    simp only [Act.put, pu]
    refine pw_nil ?_
    (repeat ((fail_if_success with_reducible refine rg ?_); go_step))
    refine wp_region_pw ?_
    refine pw_value (by rfl) (.agg (msC 0 0 [] 0 0 [] none 0 0 none 0 0)) (exec_buildv _ [] rfl [] rfl _ built_mz) ?_
    simp only [Act.put, pu]
    refine pw_put (by rfl) 29 _ _ rfl _ rfl r2 (msC 0 0 [] 0 0 [] none 0 0 none 0 0) rfl (by exact size_ms) (by rfl) (ms_one _ _ _ _ _ _ _ _ _ _ _ _) ?_
    clear r2
    intro z23001 r2 k
    simp only [Act.put]
    replace sb := sb.trans (k.below w.heap.size sb.size (by simp <;> omega))
    clear k
    refine pw_value (by rfl) (.int .i64 4) (fun _ => rfl) ?_
    simp only [Act.put, pu]
    refine pw_nil ?_
    go_wp2
    exact ret_row2d rfl _ rfl r2 _ Try.underlying29 (by exact size_ms) rfl _ rfl ⟨Or.inl ⟨hno.out, rfl⟩, sb⟩
  | true =>
   have hXo := gX_yes hg
   obtain ⟨hnb, hn1⟩ := nX_bf hXo
   have hn25 := nX_le X
   have hkX := kX_le X
   have HR8 : Hid (rz s = (gY L7 (nX X)).bind fun y => some (⟨kd, op, key, sq, cl, dg, X, y.1⟩, y.2)) := by rw [HR.out, gZ_yes hX hg, ← hnb]; exact rfl
   have hrx := fun w' => (rmtk_yes X w' (by omega) hXo).mono fun e w2 ⟨ao, co, h1, h2, hb⟩ => show ∃ ao co, e = Ending.returned (Value.tuple #[Value.slice ao (nX X) co, Value.int IntKind.i64 0]) ∧ MtR w'.heap.size w2.heap.size w2 ao (nX X) (NX X) (MZ X) ∧ w'.heap.size ≤ w2.heap.size ∧ Below w'.heap.size w' w2 from ⟨ao, co, h1, h2, hb.size, hb⟩
   have HW : Hid (∀ ts : List (List UInt8), ts.length = nX X → wmB (kd : Nat) (op : Nat) key (sq : Nat) (cl : Nat) dg (brB (nX X) (nX X)) (dlB (nX X) (nX X) (xmB (nX X) (NX X) (MZ X))) = wmD ⟨kd, op, key, sq, cl, dg, X, ts⟩) := fun ts hts => by
    unfold wmD
    rw [xmB_X (.inr hXo), hts]
   have HB : Hid (∀ (ts : List (List UInt8)) (B : List UInt8), ts.length = nX X → msL kd op key sq cl dg X ts.length (Yt ts) = B → msL kd op key sq cl dg (xmB (nX X) (NX X) (MZ X)) (nX X) (Yt ts) = B) := fun ts B hts h => by rw [xmB_X (.inr hXo), ← hts]; exact h
   have HNX : Hid (∀ i, i < nX X → NX X i < 4611686018427387904) := fun i _ => by show kX X < _; omega
   have HD : Hid (∀ (ts : List (List UInt8)) (a1 : Option Addr) (c1 : Nat) (a2 : Option Addr) (c2 : Nat), ts.length = nX X → (msC (kd : Nat) (op : Nat) key (sq : Nat) (cl : Nat) dg a1 (nX X) c1 a2 (nX X) c2) = msC (kd : Nat) (op : Nat) key (sq : Nat) (cl : Nat) dg a1 (nX (RD.X ⟨kd, op, key, sq, cl, dg, X, ts⟩)) c1 a2 (RD.ys ⟨kd, op, key, sq, cl, dg, X, ts⟩).length c2) := fun ts a1 c1 a2 c2 hts => by show _ = msC (kd : Nat) (op : Nat) key (sq : Nat) (cl : Nat) dg a1 (nX X) c1 a2 ts.length c2; rw [hts]
   have HI : Hid (∀ (ts : List (List UInt8)) (a1 a2 : Option Addr) w', ts.length = nX X → MtA w' a1 (nX X) (NX X) (MZ X) → YsA w' a2 (nX X) (Yt ts) → InM w' ⟨kd, op, key, sq, cl, dg, X, ts⟩ a1 a2) := fun ts a1 a2 w' hts h1 h2 => ⟨h1, by rw [show (⟨kd, op, key, sq, cl, dg, X, ts⟩ : RD).ys.length = nX X from hts]; exact h2⟩
   clear hXo hg HR hnb
   generalize nX X = n at *
   generalize NX X = NN at *
   generalize MZ X = MM at *
   obtain ⟨ie, hie, hze, hsz, hby⟩ := info_nat'
   have hs1 : ¬ 1 * ie.size > 2 ^ 24 := by rw [hsz]; decide
   have hs2 : ¬ 1 * ie.size = 0 := by rw [hsz]; decide
   have hl1 := fun A => lit_one A ie.size hsz
   clear hsz hby
   (repeat ((fail_if_success with_reducible refine rg ?_); go_step))
   refine wp_region_pw ?_
   refine pw_mv (by rfl) rfl rfl ?_
   simp only [Act.put, pu]
   have lw := sb.size; have l2 := r2.lt; have l5 := r5.lt; have l20 := r20.lt
   refine pw_callE (by rfl) 18 _ _ rfl Try.func18 (by kernel_rfl) #[.string ⟨X.toArray⟩] rfl (hrx _) ?_
   rintro _ z12001 ⟨ao, co, rfl, hX1, hLU0, hb⟩
   refine ⟨_, rfl, ?_⟩
   simp only [Act.put, pu]
   have k := Kept.ofBelow hb
   clear hb
   replace r2 := k.row r2 (by simp <;> omega)
   replace r20 := k.row r20 (by simp <;> omega)
   replace r5 := k.row r5 (by simp <;> omega)
   replace sb := sb.trans (k.below w.heap.size sb.size (by simp <;> omega))
   clear k
   have hX2 : MtR _ z12001.heap.size z12001 ao n NN MM := hX1; clear hX1; have hzz : SzG z12001.heap.size z12001 := ⟨Nat.le_refl _⟩
   refine pw_mv (by rfl) rfl rfl ?_
   simp only [Act.put, pu]
   refine pw_ext (by rfl) rfl rfl rfl ?_
   simp only [Act.put, pu]
   refine pw_ext (by rfl) rfl rfl rfl ?_
   simp only [Act.put, pu]
   refine pw_as (by rfl) rfl rfl ?_
   simp only [Act.put, pu]
   refine pw_as (by rfl) rfl rfl ?_
   simp only [Act.put, pu]
   refine pw_nil ?_
   generalize z12001.heap.size = U at *
   obtain ⟨LL, hX2, ll2, ll5, ll20, llw, hLU⟩ : ∃ LL, MtR LL U _ ao n NN MM ∧ g2 < LL ∧ g5 < LL ∧ g20 < LL ∧ w.heap.size ≤ LL ∧ LL ≤ U := ⟨_, hX2, l2, l5, l20, lw, hLU0⟩
   (repeat ((fail_if_success with_reducible refine rg ?_); go_step))
   refine wp_region_pw ?_
   refine pw_mv (by rfl) rfl rfl ?_
   simp only [Act.put, pu]
   refine pw_mv (by rfl) rfl rfl ?_
   simp only [Act.put, pu]
   refine pw_value (by rfl) (.pointer (some ⟨g20, 0, none⟩)) (exec_nil _ rfl g20 0 rfl) ?_
   simp only [Act.put, pu]
   refine pw_value (by rfl) (.pointer (some ⟨g20, 2, none⟩)) (exec_field 44 _ 2 rfl g20 0 rfl _ Try.underlying44 _ rfl 0 Try.sizeOf4) ?_
   simp only [Act.put, pu]
   refine pw_loadk (by rfl) 4 _ rfl _ (2) rfl r20.r (.bool false) rfl Try.isAgg4 ?_
   simp only [Act.put, pu]
   refine pw_mv (by rfl) rfl rfl ?_
   simp only [Act.put, pu]
   refine pw_mv (by rfl) rfl rfl ?_
   simp only [Act.put, pu]
   refine pw_value (by rfl) (.bool false) (exec_neq_k .i64 _ _ _ _ rfl 0 0 rfl rfl false rfl) ?_
   simp only [Act.put, pu]
   refine pw_pick (by rfl) false (v := .bool false) rfl rfl rfl ?_
   simp only [Act.put, pu]
   refine pw_value (by rfl) (.pointer (some ⟨g20, 0, none⟩)) (exec_nil _ rfl g20 0 rfl) ?_
   simp only [Act.put, pu]
   refine pw_value (by rfl) (.pointer (some ⟨g20, 2, none⟩)) (exec_field 44 _ 2 rfl g20 0 rfl _ Try.underlying44 _ rfl 0 Try.sizeOf4) ?_
   simp only [Act.put, pu]
   refine pw_putv (by rfl) 4 _ _ rfl _ (2) rfl r20 (.bool false) rfl rfl rfl size1tbool (by exact (by decide : 2 < 3)) (rdC s aa false) rfl ?_
   clear r20
   intro z13011 r20 k
   simp only [Act.put]
   replace r2 := k.row r2 (by simp <;> omega)
   replace r5 := k.row r5 (by simp <;> omega)
   replace hX2 := hX2.on k (by simp <;> omega)
   replace hzz := hzz.on k (by simp <;> omega)
   replace sb := sb.trans (k.below w.heap.size sb.size (by simp <;> omega))
   clear k
   refine pw_nil ?_
   (repeat ((fail_if_success with_reducible refine rg ?_); go_step))
   refine wp_region_pw ?_
   refine pw_mv (by rfl) rfl rfl ?_
   simp only [Act.put, pu]
   refine pw_value (by rfl) (.pointer (some ⟨g5, 6, none⟩)) (exec_field 29 _ 5 rfl g5 0 rfl _ Try.underlying29 _ rfl 0 Try.sizeOf26) ?_
   simp only [Act.put, pu]
   refine pw_putv (by rfl) 26 _ _ rfl _ (6) rfl r5 (.slice ao n co) rfl rfl rfl size1tapiatrix (by exact (by decide : 6 < 8)) (msC (kd : Nat) (op : Nat) key (sq : Nat) (cl : Nat) dg ao n co none 0 0) rfl ?_
   clear r5
   intro z14002 r5 k
   simp only [Act.put]
   replace r2 := k.row r2 (by simp <;> omega)
   replace r20 := k.row r20 (by simp <;> omega)
   replace hX2 := hX2.on k (by simp <;> omega)
   replace hzz := hzz.on k (by simp <;> omega)
   replace sb := sb.trans (k.below w.heap.size sb.size (by simp <;> omega))
   clear k
   refine pw_nil ?_
   (repeat ((fail_if_success with_reducible refine rg ?_); go_step))
   refine wp_region_pw ?_
   refine pw_value (by rfl) (.int .i64 0) (fun _ => rfl) ?_
   simp only [Act.put, pu]
   refine pw_nil ?_
   go_wp2_with fail
   go_loopg [9, 10, 11] n (fun x s9 s10 s11 wr => ∃ (i at8 : Nat) (bd : Bool) (ts : List (List UInt8)) (st8 : Option (List UInt8)) (av : Option Addr) (cv : Nat), i + x = n ∧ s9 = .int .i64 i ∧ RdS s at8 bd st8 ∧ ts.length = i ∧ (∀ l8, st8 = some l8 → gY L7 i = some (ts, l8)) ∧ (st8 = none → gY L7 n = none) ∧ Row wr g2 (msC 0 0 [] 0 0 [] none 0 0 none 0 0) 29 ∧ Row wr g20 (rdC s at8 bd) 44 ∧ Row wr g5 (msC (kd : Nat) (op : Nat) key (sq : Nat) (cl : Nat) dg ao n co av i cv) 29 ∧ OwnN wr U (.slice av i cv) i (Yt ts) ∧ MtR LL U wr ao n NN MM ∧ SzG U wr ∧ Below w.heap.size w wr)
   case atStart => exact ⟨0, aa, false, [], some L7, none, 0, by omega, rfl, ⟨rfl, ha1, ha2⟩, rfl, fun l8 h => by cases h; rfl, nofun, r2, r20, r5, ownN_nil _ _ _, hX2, hzz, sb⟩
   case round =>
    clear r2 r20 r5 hX2 hzz sb ha1 ha2
    obtain ⟨i, at8, bd, ts, st8, av, cv, hi, rfl, hst, hts, hgo, hgn, r2, r20, r5, hO, hX2, hzz, sb⟩ := hrel
    have ehOx2 := hO.low (g := g2) (by omega)
    have ehOx5 := hO.low (g := g5) (by omega)
    have ehOx20 := hO.low (g := g20) (by omega)
    have hYs := fun w' (q : OwnN w' U (.slice av i cv) i (Yt ts)) => (ownN_nats q (fun j _ => Yt_lt ts j)).2
    by_cases hin : i < n
    ·cases st8 with
     | none =>
      have hno : Hid (tz s = none) := tz_none (by rw [HR8.out, hgn rfl]; rfl)
      obtain rfl : bd = true := hst
      clear hgo hgn HR8 HW HB HD HI hrx
      (repeat ((fail_if_success with_reducible refine rg ?_); go_step))
      refine wp_region_pw ?_
      refine pw_mv (by rfl) rfl rfl ?_
      simp only [Act.put, pu]
      refine pw_mv (by rfl) rfl rfl ?_
      simp only [Act.put, pu]
      refine pw_value (by rfl) (.int .i64 (n : Nat)) (exec_len_s 26 _ rfl ao n co rfl sl_mw) ?_
      simp only [Act.put, pu]
      refine pw_value (by rfl) (.bool true) (exec_lt_b _ _ _ _ rfl i n rfl rfl true (decide_eq_true (by omega))) ?_
      simp only [Act.put, pu]
      refine pw_mv (by rfl) rfl rfl ?_
      simp only [Act.put, pu]
      refine pw_mv (by rfl) rfl rfl ?_
      simp only [Act.put, pu]
      refine pw_value (by rfl) (.pointer (some ⟨g20, 0, none⟩)) (exec_nil _ rfl g20 0 rfl) ?_
      simp only [Act.put, pu]
      refine pw_value (by rfl) (.pointer (some ⟨g20, 2, none⟩)) (exec_field 44 _ 2 rfl g20 0 rfl _ Try.underlying44 _ rfl 0 Try.sizeOf4) ?_
      simp only [Act.put, pu]
      refine pw_loadk (by rfl) 4 _ rfl _ (2) rfl r20.r (.bool true) rfl Try.isAgg4 ?_
      simp only [Act.put, pu]
      refine pw_value (by rfl) (.bool false) (exec_not _ _ rfl true rfl) ?_
      simp only [Act.put, pu]
      refine pw_pick (by rfl) true (v := .bool false) rfl rfl rfl ?_
      simp only [Act.put, pu]
      refine pw_nil ?_
      (repeat ((fail_if_success with_reducible refine rg ?_); go_step))
      refine wp_region_pw ?_
      refine pw_loadm (by rfl) 29 _ rfl _ (0) rfl r5.r (msC (kd : Nat) (op : Nat) key (sq : Nat) (cl : Nat) dg ao n co av i cv) (part_all _) _ Try.underlying29 rfl size_ms ?_
      simp only [Act.put, pu]
      refine pw_callE (by rfl) 20 _ _ rfl Try.func20 (by kernel_rfl) #[.agg (msC (kd : Nat) (op : Nat) key (sq : Nat) (cl : Nat) dg ao n co av i cv)] rfl (rput_any (by omega) (by omega) HNX.out hX2.self (YsO hYs hO)) ?_
      rintro _ z21001 ⟨⟨T0, E0, rfl⟩, hb⟩
      refine ⟨_, rfl, ?_⟩
      simp only [Act.put, pu]
      have k := Kept.ofBelow hb
      clear hb
      replace r2 := k.row r2 (by simp <;> omega)
      replace r20 := k.row r20 (by simp <;> omega)
      replace r5 := k.row r5 (by simp <;> omega)
      replace hO := hO.on k (own_ne0 _)
      replace hX2 := hX2.on k (by simp <;> omega)
      replace hzz := hzz.on k (by simp <;> omega)
      replace sb := sb.trans (k.below w.heap.size sb.size (by simp <;> omega))
      clear k
      refine pw_mv (by rfl) rfl rfl ?_
      simp only [Act.put, pu]
      refine pw_ext (by rfl) rfl rfl rfl ?_
      simp only [Act.put, pu]
      refine pw_ext (by rfl) rfl rfl rfl ?_
      simp only [Act.put, pu]
      refine pw_as (by rfl) rfl rfl ?_
      simp only [Act.put, pu]
      refine pw_as (by rfl) rfl rfl ?_
      simp only [Act.put, pu]
      refine pw_nil ?_
      (repeat ((fail_if_success with_reducible refine rg ?_); go_step))
      refine wp_region_pw ?_
      refine pw_mv (by rfl) rfl rfl ?_
      simp only [Act.put, pu]
      refine pw_value (by rfl) (.pointer (some ⟨g20, 0, none⟩)) (exec_nil _ rfl g20 0 rfl) ?_
      simp only [Act.put, pu]
      refine pw_value (by rfl) (.pointer (some ⟨g20, 2, none⟩)) (exec_field 44 _ 2 rfl g20 0 rfl _ Try.underlying44 _ rfl 0 Try.sizeOf4) ?_
      simp only [Act.put, pu]
      refine pw_loadk (by rfl) 4 _ rfl _ (2) rfl r20.r (.bool true) rfl Try.isAgg4 ?_
      simp only [Act.put, pu]
      refine pw_mv (by rfl) rfl rfl ?_
      simp only [Act.put, pu]
      refine pw_skip (by rfl) ?_
      simp only [Act.put, pu]
      refine pw_skip (by rfl) ?_
      simp only [Act.put, pu]
      refine pw_pick (by rfl) true (v := .bool true) rfl rfl rfl ?_
      simp only [Act.put, pu]
      refine pw_mv (by rfl) rfl rfl ?_
      simp only [Act.put, pu]
      refine pw_skip (by rfl) ?_
      simp only [Act.put, pu]
      refine pw_skip (by rfl) ?_
      simp only [Act.put, pu]
      refine pw_skip (by rfl) ?_
      simp only [Act.put, pu]
      refine pw_pick (by rfl) true (v := .bool true) rfl rfl rfl ?_
      simp only [Act.put, pu]
      refine pw_nil ?_
      (repeat ((fail_if_success with_reducible refine rg ?_); go_step))
      refine wp_region_pw ?_
      refine pw_value (by rfl) (.agg (msC 0 0 [] 0 0 [] none 0 0 none 0 0)) (exec_buildv _ [] rfl [] rfl _ built_mz) ?_
      simp only [Act.put, pu]
      refine pw_put (by rfl) 29 _ _ rfl _ rfl r2 (msC 0 0 [] 0 0 [] none 0 0 none 0 0) rfl (by exact size_ms) (by rfl) (ms_one _ _ _ _ _ _ _ _ _ _ _ _) ?_
      clear r2
      intro z23001 r2 k
      simp only [Act.put]
      replace sb := sb.trans (k.below w.heap.size sb.size (by simp <;> omega))
      clear k
      refine pw_value (by rfl) (.int .i64 4) (fun _ => rfl) ?_
      simp only [Act.put, pu]
      refine pw_nil ?_
      go_wp2
      exact ret_row2d rfl _ rfl r2 _ Try.underlying29 (by exact size_ms) rfl _ rfl ⟨Or.inl ⟨hno.out, rfl⟩, sb⟩
     | some L8 =>
      obtain ⟨rfl, ha1, ha2⟩ := hst
      have hgy := hgo L8 rfl
      have hgs := gY_s hgy
      clear hgo hgn hYs HW HB HD HI HNX hrx
      (repeat ((fail_if_success with_reducible refine rg ?_); go_step))
      refine wp_region_pw ?_
      refine pw_mv (by rfl) rfl rfl ?_
      simp only [Act.put, pu]
      refine pw_mv (by rfl) rfl rfl ?_
      simp only [Act.put, pu]
      refine pw_value (by rfl) (.int .i64 (n : Nat)) (exec_len_s 26 _ rfl ao n co rfl sl_mw) ?_
      simp only [Act.put, pu]
      refine pw_value (by rfl) (.bool true) (exec_lt_b _ _ _ _ rfl i n rfl rfl true (decide_eq_true (by omega))) ?_
      simp only [Act.put, pu]
      refine pw_mv (by rfl) rfl rfl ?_
      simp only [Act.put, pu]
      refine pw_mv (by rfl) rfl rfl ?_
      simp only [Act.put, pu]
      refine pw_value (by rfl) (.pointer (some ⟨g20, 0, none⟩)) (exec_nil _ rfl g20 0 rfl) ?_
      simp only [Act.put, pu]
      refine pw_value (by rfl) (.pointer (some ⟨g20, 2, none⟩)) (exec_field 44 _ 2 rfl g20 0 rfl _ Try.underlying44 _ rfl 0 Try.sizeOf4) ?_
      simp only [Act.put, pu]
      refine pw_loadk (by rfl) 4 _ rfl _ (2) rfl r20.r (.bool false) rfl Try.isAgg4 ?_
      simp only [Act.put, pu]
      refine pw_value (by rfl) (.bool true) (exec_not _ _ rfl false rfl) ?_
      simp only [Act.put, pu]
      refine pw_pick (by rfl) true (v := .bool true) rfl rfl rfl ?_
      simp only [Act.put, pu]
      refine pw_nil ?_
      obtain ⟨⟨c9, t9⟩, m9⟩ : ∃ p, oM (some L8) 1 = p := ⟨_, rfl⟩
      obtain ⟨⟨tt, st9⟩, x9⟩ : ∃ p, oN t9 c9 = p := ⟨_, rfl⟩
      have e9 : oT (some L8) 1 = (tt, st9) := by unfold oT; rw [m9]; exact x9
      have hc9 : c9 < 256 ^ 1 := by have := oM_lt (some L8) (k := 1) (by decide); rw [m9] at this; exact this
      have N9 := fun w' (r : Row w' g20 (rdC s at8 false) 44) => rnm_any s 1 g20 at8 false (some L8) w' hl (by decide) r ⟨rfl, ha1, ha2⟩
      have X9 := fun a b w' (r : Row w' g20 (rdC s a b) 44) q => rnx_any s c9 g20 a b t9 w' hl (by omega) r q
      rw [m9] at N9
      rw [x9] at X9
      have hE := okT_E tt
      have hnt := fun w' => rtake_any ⟨tt.toArray⟩ w'
      have hgood : ∀ l9, st9 = some l9 → takeE ⟨tt.toArray⟩ = 0 → gY L7 (i + 1) = some (ts ++ [tt], l9) := fun l9 h h0 => by
       obtain ⟨_, q, g9⟩ := oT_some (st := some L8) (k := 1) (R := l9) (by rw [e9]; exact h)
       cases q
       rw [e9] at g9
       have ho : okT tt = true := by
        rcases hE with h1 | h1
        ·exact h1.1
        ·rw [h1.2] at h0; exact absurd h0 (by decide)
       rw [hgs, g9]
       simp [ho]
      have hbad1 : st9 = none → gY L7 n = none := fun h => gY_up (k := i + 1) (by rw [hgs, oT_none (by rw [e9]; exact h)]) (by omega)
      have hbad2 : ∀ l9, st9 = some l9 → takeE ⟨tt.toArray⟩ = 4 → gY L7 n = none := fun l9 h h4 => gY_up (k := i + 1) (by
       obtain ⟨_, q, g9⟩ := oT_some (st := some L8) (k := 1) (R := l9) (by rw [e9]; exact h)
       cases q
       rw [e9] at g9
       have ho : okT tt = false := by
        rcases hE with h1 | h1
        ·rw [h1.2] at h4; exact absurd h4 (by decide)
        ·exact h1.1
       rw [hgs, g9]
       simp [ho]) (by omega)
      have h04 : takeE ⟨tt.toArray⟩ = 0 ∨ takeE ⟨tt.toArray⟩ = 4 := hE.imp And.right And.right
      have hYa : ∀ j, j < i + 1 → Yt (ts ++ [tt]) j = if j = i then takeN ⟨tt.toArray⟩ else Yt ts j := fun j _ => by rw [Yt_app, hts]
      have hts2 : (ts ++ [tt]).length = i + 1 := by rw [List.length_append, hts]; rfl
      have hO' : OwnN _ U (.slice av i cv) i (Yt (ts ++ [tt])) := ownN_cg hO (fun j hj => by rw [hYa j (by omega), if_neg (by omega)])
      have hA : natC (takeN ⟨tt.toArray⟩) = natC (Yt (ts ++ [tt]) i) := by rw [hYa i (by omega), if_pos rfl]
      clear hO hYa e9 m9 x9 hgs hgy hts hE
      have hO := hO'
      clear hO'
      generalize takeE ⟨tt.toArray⟩ = E at *
      generalize takeN ⟨tt.toArray⟩ = A at *
      generalize ts ++ [tt] = ts2 at *
      (repeat ((fail_if_success with_reducible refine rg ?_); go_step))
      refine wp_region_pw ?_
      refine pw_mv (by rfl) rfl rfl ?_
      simp only [Act.put, pu]
      refine pw_mv (by rfl) rfl rfl ?_
      simp only [Act.put, pu]
      refine pw_callE (by rfl) 16 _ _ rfl Try.func16 (by kernel_rfl) #[.pointer (some ⟨g20, 0, none⟩), .int .i64 1] rfl (N9 _ r20) ?_
      have cr20 := r20.lt
      clear r20
      rintro _ z18002 ⟨ay, bq, rfl, r20, qy, k⟩
      refine ⟨_, rfl, ?_⟩
      simp only [Act.put, pu]
      clear cr20
      replace r2 := k.row r2 (by simp <;> omega)
      replace r5 := k.row r5 (by simp <;> omega)
      replace hO := hO.on k (own_ne1 ehOx20)
      replace hX2 := hX2.on k (by simp <;> omega)
      replace hzz := hzz.on k (by simp <;> omega)
      replace sb := sb.trans (k.below w.heap.size sb.size (by simp <;> omega))
      clear k
      refine pw_callE (by rfl) 17 _ _ rfl Try.func17 (by kernel_rfl) #[.pointer (some ⟨g20, 0, none⟩), .int .i64 (c9 : Nat)] rfl (X9 ay bq _ r20 qy) ?_
      have cr20 := r20.lt
      clear r20
      rintro _ z18003 ⟨az, bz, rfl, r20, qz, k⟩
      refine ⟨_, rfl, ?_⟩
      simp only [Act.put, pu]
      clear cr20
      replace r2 := k.row r2 (by simp <;> omega)
      replace r5 := k.row r5 (by simp <;> omega)
      replace hO := hO.on k (own_ne1 ehOx20)
      replace hX2 := hX2.on k (by simp <;> omega)
      replace hzz := hzz.on k (by simp <;> omega)
      replace sb := sb.trans (k.below w.heap.size sb.size (by simp <;> omega))
      clear k
      refine pw_callB (by rfl) 19 _ _ rfl Try.func19 (by kernel_rfl) #[.string ⟨tt.toArray⟩] rfl _ (hnt _) ?_
      intro z18004 k
      simp only [Act.put, pu]
      replace r2 := k.row r2 (by simp <;> omega)
      replace r20 := k.row r20 (by simp <;> omega)
      replace r5 := k.row r5 (by simp <;> omega)
      replace hO := hO.on k (own_ne0 _)
      replace hX2 := hX2.on k (by simp <;> omega)
      replace hzz := hzz.on k (by simp <;> omega)
      replace sb := sb.trans (k.below w.heap.size sb.size (by simp <;> omega))
      clear k
      refine pw_mv (by rfl) rfl rfl ?_
      simp only [Act.put, pu]
      refine pw_ext (by rfl) rfl rfl rfl ?_
      simp only [Act.put, pu]
      refine pw_ext (by rfl) rfl rfl rfl ?_
      simp only [Act.put, pu]
      refine pw_new (by rfl) 51 rfl _ zero_nat ?_
      intro g10 z18008 n0 r10 k
      simp only [Act.put, pu]
      have d2x10 := Nat.lt_of_lt_of_le r2.lt n0
      have d20x10 := Nat.lt_of_lt_of_le r20.lt n0
      have d5x10 := Nat.lt_of_lt_of_le r5.lt n0
      have ehOx10 := hO.new n0
      (try have bhX2x10 := Nat.le_trans hX2.le n0)
      (try have bhzzx10 := Nat.le_trans hzz.le n0)
      have b10 := Nat.le_trans sb.size n0
      clear n0
      replace r2 := k.row r2 (by simp <;> omega)
      replace r20 := k.row r20 (by simp <;> omega)
      replace r5 := k.row r5 (by simp <;> omega)
      replace hO := hO.on k (own_ne0 _)
      replace hX2 := hX2.on k (by simp <;> omega)
      replace hzz := hzz.on k (by simp <;> omega)
      replace sb := sb.trans (k.below w.heap.size sb.size (by simp <;> omega))
      clear k
      refine pw_put (by rfl) 51 _ _ rfl _ rfl r10 (natC A) rfl (by exact size_nat) (by simp only [natC_size]) (natC_one _) ?_
      clear r10
      intro z18009 r10 k
      simp only [Act.put]
      replace r2 := k.row r2 (by simp <;> omega)
      replace r20 := k.row r20 (by simp <;> omega)
      replace r5 := k.row r5 (by simp <;> omega)
      replace hO := hO.on k (own_ne1 ehOx10)
      replace hX2 := hX2.on k (by simp <;> omega)
      replace hzz := hzz.on k (by simp <;> omega)
      replace sb := sb.trans (k.below w.heap.size sb.size (by simp <;> omega))
      clear k
      refine pw_as (by rfl) rfl rfl ?_
      simp only [Act.put, pu]
      refine pw_nil ?_
      cases st9 with
      | none =>
       obtain rfl : bz = true := qz
       have hn0 := hbad1 rfl
       clear hbad1 hbad2 hgood N9 X9 hnt
       (repeat ((fail_if_success with_reducible refine rg ?_); go_step))
       refine wp_region_pw ?_
       refine pw_mv (by rfl) rfl rfl ?_
       simp only [Act.put, pu]
       refine pw_mv (by rfl) rfl rfl ?_
       simp only [Act.put, pu]
       refine pw_value (by rfl) (.pointer (some ⟨g20, 0, none⟩)) (exec_nil _ rfl g20 0 rfl) ?_
       simp only [Act.put, pu]
       refine pw_value (by rfl) (.pointer (some ⟨g20, 2, none⟩)) (exec_field 44 _ 2 rfl g20 0 rfl _ Try.underlying44 _ rfl 0 Try.sizeOf4) ?_
       simp only [Act.put, pu]
       refine pw_loadk (by rfl) 4 _ rfl _ (2) rfl r20.r (.bool true) rfl Try.isAgg4 ?_
       simp only [Act.put, pu]
       refine pw_mv (by rfl) rfl rfl ?_
       simp only [Act.put, pu]
       refine pw_skip (by rfl) ?_
       simp only [Act.put, pu]
       refine pw_skip (by rfl) ?_
       simp only [Act.put, pu]
       refine pw_pick (by rfl) true (v := .bool true) rfl rfl rfl ?_
       simp only [Act.put, pu]
       refine pw_value (by rfl) (.pointer (some ⟨g20, 0, none⟩)) (exec_nil _ rfl g20 0 rfl) ?_
       simp only [Act.put, pu]
       refine pw_value (by rfl) (.pointer (some ⟨g20, 2, none⟩)) (exec_field 44 _ 2 rfl g20 0 rfl _ Try.underlying44 _ rfl 0 Try.sizeOf4) ?_
       simp only [Act.put, pu]
       refine pw_putv (by rfl) 4 _ _ rfl _ (2) rfl r20 (.bool true) rfl rfl rfl size1tbool (by exact (by decide : 2 < 3)) (rdC s az true) rfl ?_
       clear r20
       intro z19011 r20 k
       simp only [Act.put]
       replace r2 := k.row r2 (by simp <;> omega)
       replace r5 := k.row r5 (by simp <;> omega)
       replace r10 := k.row r10 (by simp <;> omega)
       replace hO := hO.on k (own_ne1 ehOx20)
       replace hX2 := hX2.on k (by simp <;> omega)
       replace hzz := hzz.on k (by simp <;> omega)
       replace sb := sb.trans (k.below w.heap.size sb.size (by simp <;> omega))
       clear k
       refine pw_nil ?_
       (repeat ((fail_if_success with_reducible refine rg ?_); go_step))
       refine wp_region_pw ?_
       refine pw_value (by rfl) (.pointer (some ⟨g5, 7, none⟩)) (exec_field 29 _ 6 rfl g5 0 rfl _ Try.underlying29 _ rfl 0 Try.sizeOf27) ?_
       simp only [Act.put, pu]
       refine pw_loadk (by rfl) 27 _ rfl _ (7) rfl r5.r (.slice av i cv) rfl Try.isAgg27 ?_
       simp only [Act.put, pu]
       refine pw_loadm (by rfl) 51 _ rfl _ 0 rfl r10.r _ (part_all _) _ Try.underlying51 rfl size_nat ?_
       simp only [Act.put, pu]
       have hlX := (hl1 A).trans (congrArg (fun a => some a) hA)
       refine pw_litr (by rfl) 27 51 1 _ rfl (natC (Yt ts2 i)) ie _ Try.underlying27 hie hze hs1 hs2 [(0, .agg (natC A))] rfl hlX ?_
       intro gA z20003 n0 rA k
       simp only [Act.put, pu]
       have d2xA := Nat.lt_of_lt_of_le r2.lt n0
       have d20xA := Nat.lt_of_lt_of_le r20.lt n0
       have d5xA := Nat.lt_of_lt_of_le r5.lt n0
       have d10xA := Nat.lt_of_lt_of_le r10.lt n0
       have ehOxA := hO.new n0
       (try have bhX2xA := Nat.le_trans hX2.le n0)
       (try have bhzzxA := Nat.le_trans hzz.le n0)
       have bA := Nat.le_trans sb.size n0
       clear n0
       replace r2 := k.row r2 (by simp <;> omega)
       replace r20 := k.row r20 (by simp <;> omega)
       replace r5 := k.row r5 (by simp <;> omega)
       replace r10 := k.row r10 (by simp <;> omega)
       replace hO := hO.on k (own_ne0 _)
       replace hX2 := hX2.on k (by simp <;> omega)
       replace hzz := hzz.on k (by simp <;> omega)
       replace sb := sb.trans (k.below w.heap.size sb.size (by simp <;> omega))
       clear k
       refine pw_appN (by rfl) _ _ rfl U _ i (Yt ts2) rfl hO gA 1 rfl rA (by omega) hzz.le ?_
       have h0 := hO
       clear hO
       intro v1 zP hO k hp
       simp only [Act.put, pu]
       obtain ⟨av1, cv1, rfl⟩ := own_shape hO
       replace r2 := k.row r2 (fun hm => absurd (h0.base _ hm) (by omega))
       replace r20 := k.row r20 (fun hm => absurd (h0.base _ hm) (by omega))
       replace r5 := k.row r5 (fun hm => absurd (h0.base _ hm) (by omega))
       replace hX2 := hX2.on k (fun g hg => .inr (h0.base g hg))
       replace hzz := hzz.on k trivial
       replace sb := sb.trans (k.below w.heap.size sb.size (fun g hg => Nat.le_trans (by omega) (h0.base g hg)))
       clear r10 rA h0 k hp ehOx2 ehOx5 ehOx20
       have ehOx5 := hO.low (g := g5) (by omega)
       refine pw_value (by rfl) (.pointer (some ⟨g5, 7, none⟩)) (exec_field 29 _ 6 rfl g5 0 rfl _ Try.underlying29 _ rfl 0 Try.sizeOf27) ?_
       simp only [Act.put, pu]
       refine pw_putv (by rfl) 27 _ _ rfl _ (7) rfl r5 (.slice av1 (i + 1) cv1) rfl rfl rfl size1tapiat (by exact (by decide : 7 < 8)) (msC (kd : Nat) (op : Nat) key (sq : Nat) (cl : Nat) dg ao n co av1 (i + 1) cv1) rfl ?_
       clear r5
       intro zQ r5 k
       simp only [Act.put]
       replace r2 := k.row r2 (by simp <;> omega)
       replace r20 := k.row r20 (by simp <;> omega)
       replace hX2 := hX2.on k (by simp <;> omega)
       replace hzz := hzz.on k trivial
       replace hO := hO.on k (own_ne1 ehOx5)
       replace sb := sb.trans (k.below w.heap.size sb.size (by simp <;> omega))
       clear k
       refine pw_nil ?_
       (repeat ((fail_if_success with_reducible refine rg ?_); go_step))
       refine wp_region_pw ?_
       refine pw_mv (by rfl) rfl rfl ?_
       simp only [Act.put, pu]
       refine pw_value (by rfl) (.int .i64 (i + 1 : Nat)) (exec_add_in _ _ _ _ rfl i 1 rfl rfl (by omega)) ?_
       simp only [Act.put, pu]
       refine pw_as (by rfl) rfl rfl ?_
       simp only [Act.put, pu]
       refine pw_nil ?_
       go_wp2
       go_roundg (n - (i + 1))
       case measure => omega
       case rel => exact ⟨i + 1, az, true, ts2, none, av1, cv1, by omega, rfl, rfl, hts2, nofun, fun _ => hn0, r2, r20, r5, hO, hX2, hzz, sb⟩
      | some L9 =>
       obtain ⟨rfl, hz1, hz2⟩ := qz
       rcases h04 with hE0 | hE4
       ·have hg2 := hgood L9 rfl hE0
        clear hbad1 hbad2 hgood N9 X9 hnt
        (repeat ((fail_if_success with_reducible refine rg ?_); go_step))
        refine wp_region_pw ?_
        refine pw_mv (by rfl) rfl rfl ?_
        simp only [Act.put, pu]
        refine pw_mv (by rfl) rfl rfl ?_
        simp only [Act.put, pu]
        refine pw_value (by rfl) (.pointer (some ⟨g20, 0, none⟩)) (exec_nil _ rfl g20 0 rfl) ?_
        simp only [Act.put, pu]
        refine pw_value (by rfl) (.pointer (some ⟨g20, 2, none⟩)) (exec_field 44 _ 2 rfl g20 0 rfl _ Try.underlying44 _ rfl 0 Try.sizeOf4) ?_
        simp only [Act.put, pu]
        refine pw_loadk (by rfl) 4 _ rfl _ (2) rfl r20.r (.bool false) rfl Try.isAgg4 ?_
        simp only [Act.put, pu]
        refine pw_mv (by rfl) rfl rfl ?_
        simp only [Act.put, pu]
        refine pw_mv (by rfl) rfl rfl ?_
        simp only [Act.put, pu]
        refine pw_value (by rfl) (.bool false) (exec_neq_k .i64 _ _ _ _ rfl E 0 rfl rfl false (by rw [hE0]; rfl)) ?_
        simp only [Act.put, pu]
        refine pw_pick (by rfl) false (v := .bool false) rfl rfl rfl ?_
        simp only [Act.put, pu]
        refine pw_value (by rfl) (.pointer (some ⟨g20, 0, none⟩)) (exec_nil _ rfl g20 0 rfl) ?_
        simp only [Act.put, pu]
        refine pw_value (by rfl) (.pointer (some ⟨g20, 2, none⟩)) (exec_field 44 _ 2 rfl g20 0 rfl _ Try.underlying44 _ rfl 0 Try.sizeOf4) ?_
        simp only [Act.put, pu]
        refine pw_putv (by rfl) 4 _ _ rfl _ (2) rfl r20 (.bool false) rfl rfl rfl size1tbool (by exact (by decide : 2 < 3)) (rdC s az false) rfl ?_
        clear r20
        intro z19011 r20 k
        simp only [Act.put]
        replace r2 := k.row r2 (by simp <;> omega)
        replace r5 := k.row r5 (by simp <;> omega)
        replace r10 := k.row r10 (by simp <;> omega)
        replace hO := hO.on k (own_ne1 ehOx20)
        replace hX2 := hX2.on k (by simp <;> omega)
        replace hzz := hzz.on k (by simp <;> omega)
        replace sb := sb.trans (k.below w.heap.size sb.size (by simp <;> omega))
        clear k
        refine pw_nil ?_
        (repeat ((fail_if_success with_reducible refine rg ?_); go_step))
        refine wp_region_pw ?_
        refine pw_value (by rfl) (.pointer (some ⟨g5, 7, none⟩)) (exec_field 29 _ 6 rfl g5 0 rfl _ Try.underlying29 _ rfl 0 Try.sizeOf27) ?_
        simp only [Act.put, pu]
        refine pw_loadk (by rfl) 27 _ rfl _ (7) rfl r5.r (.slice av i cv) rfl Try.isAgg27 ?_
        simp only [Act.put, pu]
        refine pw_loadm (by rfl) 51 _ rfl _ 0 rfl r10.r _ (part_all _) _ Try.underlying51 rfl size_nat ?_
        simp only [Act.put, pu]
        have hlX := (hl1 A).trans (congrArg (fun a => some a) hA)
        refine pw_litr (by rfl) 27 51 1 _ rfl (natC (Yt ts2 i)) ie _ Try.underlying27 hie hze hs1 hs2 [(0, .agg (natC A))] rfl hlX ?_
        intro gA z20003 n0 rA k
        simp only [Act.put, pu]
        have d2xA := Nat.lt_of_lt_of_le r2.lt n0
        have d20xA := Nat.lt_of_lt_of_le r20.lt n0
        have d5xA := Nat.lt_of_lt_of_le r5.lt n0
        have d10xA := Nat.lt_of_lt_of_le r10.lt n0
        have ehOxA := hO.new n0
        (try have bhX2xA := Nat.le_trans hX2.le n0)
        (try have bhzzxA := Nat.le_trans hzz.le n0)
        have bA := Nat.le_trans sb.size n0
        clear n0
        replace r2 := k.row r2 (by simp <;> omega)
        replace r20 := k.row r20 (by simp <;> omega)
        replace r5 := k.row r5 (by simp <;> omega)
        replace r10 := k.row r10 (by simp <;> omega)
        replace hO := hO.on k (own_ne0 _)
        replace hX2 := hX2.on k (by simp <;> omega)
        replace hzz := hzz.on k (by simp <;> omega)
        replace sb := sb.trans (k.below w.heap.size sb.size (by simp <;> omega))
        clear k
        refine pw_appN (by rfl) _ _ rfl U _ i (Yt ts2) rfl hO gA 1 rfl rA (by omega) hzz.le ?_
        have h0 := hO
        clear hO
        intro v1 zP hO k hp
        simp only [Act.put, pu]
        obtain ⟨av1, cv1, rfl⟩ := own_shape hO
        replace r2 := k.row r2 (fun hm => absurd (h0.base _ hm) (by omega))
        replace r20 := k.row r20 (fun hm => absurd (h0.base _ hm) (by omega))
        replace r5 := k.row r5 (fun hm => absurd (h0.base _ hm) (by omega))
        replace hX2 := hX2.on k (fun g hg => .inr (h0.base g hg))
        replace hzz := hzz.on k trivial
        replace sb := sb.trans (k.below w.heap.size sb.size (fun g hg => Nat.le_trans (by omega) (h0.base g hg)))
        clear r10 rA h0 k hp ehOx2 ehOx5 ehOx20
        have ehOx5 := hO.low (g := g5) (by omega)
        refine pw_value (by rfl) (.pointer (some ⟨g5, 7, none⟩)) (exec_field 29 _ 6 rfl g5 0 rfl _ Try.underlying29 _ rfl 0 Try.sizeOf27) ?_
        simp only [Act.put, pu]
        refine pw_putv (by rfl) 27 _ _ rfl _ (7) rfl r5 (.slice av1 (i + 1) cv1) rfl rfl rfl size1tapiat (by exact (by decide : 7 < 8)) (msC (kd : Nat) (op : Nat) key (sq : Nat) (cl : Nat) dg ao n co av1 (i + 1) cv1) rfl ?_
        clear r5
        intro zQ r5 k
        simp only [Act.put]
        replace r2 := k.row r2 (by simp <;> omega)
        replace r20 := k.row r20 (by simp <;> omega)
        replace hX2 := hX2.on k (by simp <;> omega)
        replace hzz := hzz.on k trivial
        replace hO := hO.on k (own_ne1 ehOx5)
        replace sb := sb.trans (k.below w.heap.size sb.size (by simp <;> omega))
        clear k
        refine pw_nil ?_
        (repeat ((fail_if_success with_reducible refine rg ?_); go_step))
        refine wp_region_pw ?_
        refine pw_mv (by rfl) rfl rfl ?_
        simp only [Act.put, pu]
        refine pw_value (by rfl) (.int .i64 (i + 1 : Nat)) (exec_add_in _ _ _ _ rfl i 1 rfl rfl (by omega)) ?_
        simp only [Act.put, pu]
        refine pw_as (by rfl) rfl rfl ?_
        simp only [Act.put, pu]
        refine pw_nil ?_
        go_wp2
        go_roundg (n - (i + 1))
        case measure => omega
        case rel => exact ⟨i + 1, az, false, ts2, some L9, av1, cv1, by omega, rfl, ⟨rfl, hz1, hz2⟩, hts2, fun l h => by cases h; exact hg2, nofun, r2, r20, r5, hO, hX2, hzz, sb⟩
       ·have hn0 := hbad2 L9 rfl hE4
        clear hbad1 hbad2 hgood N9 X9 hnt
        (repeat ((fail_if_success with_reducible refine rg ?_); go_step))
        refine wp_region_pw ?_
        refine pw_mv (by rfl) rfl rfl ?_
        simp only [Act.put, pu]
        refine pw_mv (by rfl) rfl rfl ?_
        simp only [Act.put, pu]
        refine pw_value (by rfl) (.pointer (some ⟨g20, 0, none⟩)) (exec_nil _ rfl g20 0 rfl) ?_
        simp only [Act.put, pu]
        refine pw_value (by rfl) (.pointer (some ⟨g20, 2, none⟩)) (exec_field 44 _ 2 rfl g20 0 rfl _ Try.underlying44 _ rfl 0 Try.sizeOf4) ?_
        simp only [Act.put, pu]
        refine pw_loadk (by rfl) 4 _ rfl _ (2) rfl r20.r (.bool false) rfl Try.isAgg4 ?_
        simp only [Act.put, pu]
        refine pw_mv (by rfl) rfl rfl ?_
        simp only [Act.put, pu]
        refine pw_mv (by rfl) rfl rfl ?_
        simp only [Act.put, pu]
        refine pw_value (by rfl) (.bool true) (exec_neq_k .i64 _ _ _ _ rfl E 0 rfl rfl true (by rw [hE4]; rfl)) ?_
        simp only [Act.put, pu]
        refine pw_pick (by rfl) false (v := .bool true) rfl rfl rfl ?_
        simp only [Act.put, pu]
        refine pw_value (by rfl) (.pointer (some ⟨g20, 0, none⟩)) (exec_nil _ rfl g20 0 rfl) ?_
        simp only [Act.put, pu]
        refine pw_value (by rfl) (.pointer (some ⟨g20, 2, none⟩)) (exec_field 44 _ 2 rfl g20 0 rfl _ Try.underlying44 _ rfl 0 Try.sizeOf4) ?_
        simp only [Act.put, pu]
        refine pw_putv (by rfl) 4 _ _ rfl _ (2) rfl r20 (.bool true) rfl rfl rfl size1tbool (by exact (by decide : 2 < 3)) (rdC s az true) rfl ?_
        clear r20
        intro z19011 r20 k
        simp only [Act.put]
        replace r2 := k.row r2 (by simp <;> omega)
        replace r5 := k.row r5 (by simp <;> omega)
        replace r10 := k.row r10 (by simp <;> omega)
        replace hO := hO.on k (own_ne1 ehOx20)
        replace hX2 := hX2.on k (by simp <;> omega)
        replace hzz := hzz.on k (by simp <;> omega)
        replace sb := sb.trans (k.below w.heap.size sb.size (by simp <;> omega))
        clear k
        refine pw_nil ?_
        (repeat ((fail_if_success with_reducible refine rg ?_); go_step))
        refine wp_region_pw ?_
        refine pw_value (by rfl) (.pointer (some ⟨g5, 7, none⟩)) (exec_field 29 _ 6 rfl g5 0 rfl _ Try.underlying29 _ rfl 0 Try.sizeOf27) ?_
        simp only [Act.put, pu]
        refine pw_loadk (by rfl) 27 _ rfl _ (7) rfl r5.r (.slice av i cv) rfl Try.isAgg27 ?_
        simp only [Act.put, pu]
        refine pw_loadm (by rfl) 51 _ rfl _ 0 rfl r10.r _ (part_all _) _ Try.underlying51 rfl size_nat ?_
        simp only [Act.put, pu]
        have hlX := (hl1 A).trans (congrArg (fun a => some a) hA)
        refine pw_litr (by rfl) 27 51 1 _ rfl (natC (Yt ts2 i)) ie _ Try.underlying27 hie hze hs1 hs2 [(0, .agg (natC A))] rfl hlX ?_
        intro gA z20003 n0 rA k
        simp only [Act.put, pu]
        have d2xA := Nat.lt_of_lt_of_le r2.lt n0
        have d20xA := Nat.lt_of_lt_of_le r20.lt n0
        have d5xA := Nat.lt_of_lt_of_le r5.lt n0
        have d10xA := Nat.lt_of_lt_of_le r10.lt n0
        have ehOxA := hO.new n0
        (try have bhX2xA := Nat.le_trans hX2.le n0)
        (try have bhzzxA := Nat.le_trans hzz.le n0)
        have bA := Nat.le_trans sb.size n0
        clear n0
        replace r2 := k.row r2 (by simp <;> omega)
        replace r20 := k.row r20 (by simp <;> omega)
        replace r5 := k.row r5 (by simp <;> omega)
        replace r10 := k.row r10 (by simp <;> omega)
        replace hO := hO.on k (own_ne0 _)
        replace hX2 := hX2.on k (by simp <;> omega)
        replace hzz := hzz.on k (by simp <;> omega)
        replace sb := sb.trans (k.below w.heap.size sb.size (by simp <;> omega))
        clear k
        refine pw_appN (by rfl) _ _ rfl U _ i (Yt ts2) rfl hO gA 1 rfl rA (by omega) hzz.le ?_
        have h0 := hO
        clear hO
        intro v1 zP hO k hp
        simp only [Act.put, pu]
        obtain ⟨av1, cv1, rfl⟩ := own_shape hO
        replace r2 := k.row r2 (fun hm => absurd (h0.base _ hm) (by omega))
        replace r20 := k.row r20 (fun hm => absurd (h0.base _ hm) (by omega))
        replace r5 := k.row r5 (fun hm => absurd (h0.base _ hm) (by omega))
        replace hX2 := hX2.on k (fun g hg => .inr (h0.base g hg))
        replace hzz := hzz.on k trivial
        replace sb := sb.trans (k.below w.heap.size sb.size (fun g hg => Nat.le_trans (by omega) (h0.base g hg)))
        clear r10 rA h0 k hp ehOx2 ehOx5 ehOx20
        have ehOx5 := hO.low (g := g5) (by omega)
        refine pw_value (by rfl) (.pointer (some ⟨g5, 7, none⟩)) (exec_field 29 _ 6 rfl g5 0 rfl _ Try.underlying29 _ rfl 0 Try.sizeOf27) ?_
        simp only [Act.put, pu]
        refine pw_putv (by rfl) 27 _ _ rfl _ (7) rfl r5 (.slice av1 (i + 1) cv1) rfl rfl rfl size1tapiat (by exact (by decide : 7 < 8)) (msC (kd : Nat) (op : Nat) key (sq : Nat) (cl : Nat) dg ao n co av1 (i + 1) cv1) rfl ?_
        clear r5
        intro zQ r5 k
        simp only [Act.put]
        replace r2 := k.row r2 (by simp <;> omega)
        replace r20 := k.row r20 (by simp <;> omega)
        replace hX2 := hX2.on k (by simp <;> omega)
        replace hzz := hzz.on k trivial
        replace hO := hO.on k (own_ne1 ehOx5)
        replace sb := sb.trans (k.below w.heap.size sb.size (by simp <;> omega))
        clear k
        refine pw_nil ?_
        (repeat ((fail_if_success with_reducible refine rg ?_); go_step))
        refine wp_region_pw ?_
        refine pw_mv (by rfl) rfl rfl ?_
        simp only [Act.put, pu]
        refine pw_value (by rfl) (.int .i64 (i + 1 : Nat)) (exec_add_in _ _ _ _ rfl i 1 rfl rfl (by omega)) ?_
        simp only [Act.put, pu]
        refine pw_as (by rfl) rfl rfl ?_
        simp only [Act.put, pu]
        refine pw_nil ?_
        go_wp2
        go_roundg (n - (i + 1))
        case measure => omega
        case rel => exact ⟨i + 1, az, true, ts2, none, av1, cv1, by omega, rfl, rfl, hts2, nofun, fun _ => hn0, r2, r20, r5, hO, hX2, hzz, sb⟩
    ·obtain rfl : i = n := by omega
     cases st8 with
     | none =>
      have hno : Hid (tz s = none) := tz_none (by rw [HR8.out, hgn rfl]; rfl)
      obtain rfl : bd = true := hst
      clear hgo hgn HR8 HW HB HD HI hrx
      (repeat ((fail_if_success with_reducible refine rg ?_); go_step))
      refine wp_region_pw ?_
      refine pw_mv (by rfl) rfl rfl ?_
      simp only [Act.put, pu]
      refine pw_mv (by rfl) rfl rfl ?_
      simp only [Act.put, pu]
      refine pw_value (by rfl) (.int .i64 (i : Nat)) (exec_len_s 26 _ rfl ao i co rfl sl_mw) ?_
      simp only [Act.put, pu]
      refine pw_value (by rfl) (.bool false) (exec_lt_b _ _ _ _ rfl i i rfl rfl false (decide_eq_false (by omega))) ?_
      simp only [Act.put, pu]
      refine pw_mv (by rfl) rfl rfl ?_
      simp only [Act.put, pu]
      refine pw_skip (by rfl) ?_
      simp only [Act.put, pu]
      refine pw_skip (by rfl) ?_
      simp only [Act.put, pu]
      refine pw_skip (by rfl) ?_
      simp only [Act.put, pu]
      refine pw_skip (by rfl) ?_
      simp only [Act.put, pu]
      refine pw_skip (by rfl) ?_
      simp only [Act.put, pu]
      refine pw_pick (by rfl) false (v := .bool false) rfl rfl rfl ?_
      simp only [Act.put, pu]
      refine pw_nil ?_
      (repeat ((fail_if_success with_reducible refine rg ?_); go_step))
      refine wp_region_pw ?_
      refine pw_loadm (by rfl) 29 _ rfl _ (0) rfl r5.r (msC (kd : Nat) (op : Nat) key (sq : Nat) (cl : Nat) dg ao i co av i cv) (part_all _) _ Try.underlying29 rfl size_ms ?_
      simp only [Act.put, pu]
      refine pw_callE (by rfl) 20 _ _ rfl Try.func20 (by kernel_rfl) #[.agg (msC (kd : Nat) (op : Nat) key (sq : Nat) (cl : Nat) dg ao i co av i cv)] rfl (rput_any (by omega) (by omega) HNX.out hX2.self (YsO hYs hO)) ?_
      rintro _ z21001 ⟨⟨T0, E0, rfl⟩, hb⟩
      refine ⟨_, rfl, ?_⟩
      simp only [Act.put, pu]
      have k := Kept.ofBelow hb
      clear hb
      replace r2 := k.row r2 (by simp <;> omega)
      replace r20 := k.row r20 (by simp <;> omega)
      replace r5 := k.row r5 (by simp <;> omega)
      replace hO := hO.on k (own_ne0 _)
      replace hX2 := hX2.on k (by simp <;> omega)
      replace hzz := hzz.on k (by simp <;> omega)
      replace sb := sb.trans (k.below w.heap.size sb.size (by simp <;> omega))
      clear k
      refine pw_mv (by rfl) rfl rfl ?_
      simp only [Act.put, pu]
      refine pw_ext (by rfl) rfl rfl rfl ?_
      simp only [Act.put, pu]
      refine pw_ext (by rfl) rfl rfl rfl ?_
      simp only [Act.put, pu]
      refine pw_as (by rfl) rfl rfl ?_
      simp only [Act.put, pu]
      refine pw_as (by rfl) rfl rfl ?_
      simp only [Act.put, pu]
      refine pw_nil ?_
      (repeat ((fail_if_success with_reducible refine rg ?_); go_step))
      refine wp_region_pw ?_
      refine pw_mv (by rfl) rfl rfl ?_
      simp only [Act.put, pu]
      refine pw_value (by rfl) (.pointer (some ⟨g20, 0, none⟩)) (exec_nil _ rfl g20 0 rfl) ?_
      simp only [Act.put, pu]
      refine pw_value (by rfl) (.pointer (some ⟨g20, 2, none⟩)) (exec_field 44 _ 2 rfl g20 0 rfl _ Try.underlying44 _ rfl 0 Try.sizeOf4) ?_
      simp only [Act.put, pu]
      refine pw_loadk (by rfl) 4 _ rfl _ (2) rfl r20.r (.bool true) rfl Try.isAgg4 ?_
      simp only [Act.put, pu]
      refine pw_mv (by rfl) rfl rfl ?_
      simp only [Act.put, pu]
      refine pw_skip (by rfl) ?_
      simp only [Act.put, pu]
      refine pw_skip (by rfl) ?_
      simp only [Act.put, pu]
      refine pw_pick (by rfl) true (v := .bool true) rfl rfl rfl ?_
      simp only [Act.put, pu]
      refine pw_mv (by rfl) rfl rfl ?_
      simp only [Act.put, pu]
      refine pw_skip (by rfl) ?_
      simp only [Act.put, pu]
      refine pw_skip (by rfl) ?_
      simp only [Act.put, pu]
      refine pw_skip (by rfl) ?_
      simp only [Act.put, pu]
      refine pw_pick (by rfl) true (v := .bool true) rfl rfl rfl ?_
      simp only [Act.put, pu]
      refine pw_nil ?_
      (repeat ((fail_if_success with_reducible refine rg ?_); go_step))
      refine wp_region_pw ?_
      refine pw_value (by rfl) (.agg (msC 0 0 [] 0 0 [] none 0 0 none 0 0)) (exec_buildv _ [] rfl [] rfl _ built_mz) ?_
      simp only [Act.put, pu]
      refine pw_put (by rfl) 29 _ _ rfl _ rfl r2 (msC 0 0 [] 0 0 [] none 0 0 none 0 0) rfl (by exact size_ms) (by rfl) (ms_one _ _ _ _ _ _ _ _ _ _ _ _) ?_
      clear r2
      intro z23001 r2 k
      simp only [Act.put]
      replace sb := sb.trans (k.below w.heap.size sb.size (by simp <;> omega))
      clear k
      refine pw_value (by rfl) (.int .i64 4) (fun _ => rfl) ?_
      simp only [Act.put, pu]
      refine pw_nil ?_
      go_wp2
      exact ret_row2d rfl _ rfl r2 _ Try.underlying29 (by exact size_ms) rfl _ rfl ⟨Or.inl ⟨hno.out, rfl⟩, sb⟩
     | some L8 =>
      obtain ⟨rfl, ha1, ha2⟩ := hst
      have hrz : rz s = some (⟨kd, op, key, sq, cl, dg, X, ts⟩, L8) := by rw [HR8.out, hgo L8 rfl]; rfl
      have hWx := HW.out ts hts
      have hBx := fun B h => HB.out ts B hts h
      have hDx := fun a1 c1 a2 c2 => HD.out ts a1 c1 a2 c2 hts
      have hIx := fun a1 a2 w' h1 h2 => HI.out ts a1 a2 w' hts h1 h2
      clear hgo hgn HR8 HW HB HD HI hrx ha1 ha2
      (repeat ((fail_if_success with_reducible refine rg ?_); go_step))
      refine wp_region_pw ?_
      refine pw_mv (by rfl) rfl rfl ?_
      simp only [Act.put, pu]
      refine pw_mv (by rfl) rfl rfl ?_
      simp only [Act.put, pu]
      refine pw_value (by rfl) (.int .i64 (i : Nat)) (exec_len_s 26 _ rfl ao i co rfl sl_mw) ?_
      simp only [Act.put, pu]
      refine pw_value (by rfl) (.bool false) (exec_lt_b _ _ _ _ rfl i i rfl rfl false (decide_eq_false (by omega))) ?_
      simp only [Act.put, pu]
      refine pw_mv (by rfl) rfl rfl ?_
      simp only [Act.put, pu]
      refine pw_skip (by rfl) ?_
      simp only [Act.put, pu]
      refine pw_skip (by rfl) ?_
      simp only [Act.put, pu]
      refine pw_skip (by rfl) ?_
      simp only [Act.put, pu]
      refine pw_skip (by rfl) ?_
      simp only [Act.put, pu]
      refine pw_skip (by rfl) ?_
      simp only [Act.put, pu]
      refine pw_pick (by rfl) false (v := .bool false) rfl rfl rfl ?_
      simp only [Act.put, pu]
      refine pw_nil ?_
      have hok := (rz_is hrz).2
      have hse := (rz_is hrz).1
      have hBm := msL_of hok
      have hBl : (rdR ⟨kd, op, key, sq, cl, dg, X, ts⟩ []).length ≤ 8192 := by
       have := congrArg List.length hse
       rw [rdR_app, List.length_append] at this
       omega
      obtain ⟨B, hB⟩ : ∃ B, rdR ⟨kd, op, key, sq, cl, dg, X, ts⟩ [] = B := ⟨_, rfl⟩
      have hBs : B = s ↔ L8 = [] := by
       rw [← hB]
       constructor
       ·intro h
        have h2 := congrArg List.length hse
        rw [rdR_app, h, List.length_append] at h2
        exact List.eq_nil_of_length_eq_zero (by omega)
       ·intro h
        rw [hse, rdR_app, h, List.append_nil]
      rw [hB] at hBm hBl
      clear hse hB hok
      cases hW : wmD ⟨kd, op, key, sq, cl, dg, X, ts⟩ with
      | false =>
       have hno : Hid (tz s = none) := by
        by_cases hR : L8 = []
        ·subst hR; exact tz_bad hrz hW
        ·exact tz_more hrz hR
       have hW2 := hWx.trans hW
       (repeat ((fail_if_success with_reducible refine rg ?_); go_step))
       refine wp_region_pw ?_
       refine pw_loadm (by rfl) 29 _ rfl _ (0) rfl r5.r (msC (kd : Nat) (op : Nat) key (sq : Nat) (cl : Nat) dg ao i co av i cv) (part_all _) _ Try.underlying29 rfl size_ms ?_
       simp only [Act.put, pu]
       refine pw_callB (by rfl) 20 _ _ rfl Try.func20 (by kernel_rfl) #[.agg (msC (kd : Nat) (op : Nat) key (sq : Nat) (cl : Nat) dg ao i co av i cv)] rfl _ (rput_f (Y := Yt ts) (by omega) (by omega) HNX.out (hX2.self) (YsO hYs hO) hW2) ?_
       intro z21001 k
       simp only [Act.put, pu]
       replace r2 := k.row r2 (by simp <;> omega)
       replace r20 := k.row r20 (by simp <;> omega)
       replace r5 := k.row r5 (by simp <;> omega)
       replace hO := hO.on k (own_ne0 _)
       replace hX2 := hX2.on k (by simp <;> omega)
       replace hzz := hzz.on k (by simp <;> omega)
       replace sb := sb.trans (k.below w.heap.size sb.size (by simp <;> omega))
       clear k
       refine pw_mv (by rfl) rfl rfl ?_
       simp only [Act.put, pu]
       refine pw_ext (by rfl) rfl rfl rfl ?_
       simp only [Act.put, pu]
       refine pw_ext (by rfl) rfl rfl rfl ?_
       simp only [Act.put, pu]
       refine pw_as (by rfl) rfl rfl ?_
       simp only [Act.put, pu]
       refine pw_as (by rfl) rfl rfl ?_
       simp only [Act.put, pu]
       refine pw_nil ?_
       (repeat ((fail_if_success with_reducible refine rg ?_); go_step))
       refine wp_region_pw ?_
       refine pw_mv (by rfl) rfl rfl ?_
       simp only [Act.put, pu]
       refine pw_value (by rfl) (.pointer (some ⟨g20, 0, none⟩)) (exec_nil _ rfl g20 0 rfl) ?_
       simp only [Act.put, pu]
       refine pw_value (by rfl) (.pointer (some ⟨g20, 2, none⟩)) (exec_field 44 _ 2 rfl g20 0 rfl _ Try.underlying44 _ rfl 0 Try.sizeOf4) ?_
       simp only [Act.put, pu]
       refine pw_loadk (by rfl) 4 _ rfl _ (2) rfl r20.r (.bool false) rfl Try.isAgg4 ?_
       simp only [Act.put, pu]
       refine pw_mv (by rfl) rfl rfl ?_
       simp only [Act.put, pu]
       refine pw_mv (by rfl) rfl rfl ?_
       simp only [Act.put, pu]
       refine pw_value (by rfl) (.bool true) (exec_neq_k .i64 _ _ _ _ rfl 1 0 rfl rfl true rfl) ?_
       simp only [Act.put, pu]
       refine pw_pick (by rfl) false (v := .bool true) rfl rfl rfl ?_
       simp only [Act.put, pu]
       refine pw_mv (by rfl) rfl rfl ?_
       simp only [Act.put, pu]
       refine pw_skip (by rfl) ?_
       simp only [Act.put, pu]
       refine pw_skip (by rfl) ?_
       simp only [Act.put, pu]
       refine pw_skip (by rfl) ?_
       simp only [Act.put, pu]
       refine pw_pick (by rfl) true (v := .bool true) rfl rfl rfl ?_
       simp only [Act.put, pu]
       refine pw_nil ?_
       (repeat ((fail_if_success with_reducible refine rg ?_); go_step))
       refine wp_region_pw ?_
       refine pw_value (by rfl) (.agg (msC 0 0 [] 0 0 [] none 0 0 none 0 0)) (exec_buildv _ [] rfl [] rfl _ built_mz) ?_
       simp only [Act.put, pu]
       refine pw_put (by rfl) 29 _ _ rfl _ rfl r2 (msC 0 0 [] 0 0 [] none 0 0 none 0 0) rfl (by exact size_ms) (by rfl) (ms_one _ _ _ _ _ _ _ _ _ _ _ _) ?_
       clear r2
       intro z23001 r2 k
       simp only [Act.put]
       replace sb := sb.trans (k.below w.heap.size sb.size (by simp <;> omega))
       clear k
       refine pw_value (by rfl) (.int .i64 4) (fun _ => rfl) ?_
       simp only [Act.put, pu]
       refine pw_nil ?_
       go_wp2
       exact ret_row2d rfl _ rfl r2 _ Try.underlying29 (by exact size_ms) rfl _ rfl ⟨Or.inl ⟨hno.out, rfl⟩, sb⟩
      | true =>
       have hW2 := hWx.trans hW
       have hBm2 := hBx B hBm
       by_cases hR : L8 = []
       ·subst hR
        have hyes : Hid (tz s = some ⟨kd, op, key, sq, cl, dg, X, ts⟩) := tz_ok hl hrz hW
        have hne : decide (B = s) = !false := decide_eq_true (hBs.2 rfl)
        (repeat ((fail_if_success with_reducible refine rg ?_); go_step))
        refine wp_region_pw ?_
        refine pw_loadm (by rfl) 29 _ rfl _ (0) rfl r5.r (msC (kd : Nat) (op : Nat) key (sq : Nat) (cl : Nat) dg ao i co av i cv) (part_all _) _ Try.underlying29 rfl size_ms ?_
        simp only [Act.put, pu]
        refine pw_callB (by rfl) 20 _ _ rfl Try.func20 (by kernel_rfl) #[.agg (msC (kd : Nat) (op : Nat) key (sq : Nat) (cl : Nat) dg ao i co av i cv)] rfl _ (rput_t (Y := Yt ts) (by omega) (by omega) HNX.out (hX2.self) (YsO hYs hO) hW2 B hBm2 hBl) ?_
        intro z21001 k
        simp only [Act.put, pu]
        replace r2 := k.row r2 (by simp <;> omega)
        replace r20 := k.row r20 (by simp <;> omega)
        replace r5 := k.row r5 (by simp <;> omega)
        replace hO := hO.on k (own_ne0 _)
        replace hX2 := hX2.on k (by simp <;> omega)
        replace hzz := hzz.on k (by simp <;> omega)
        replace sb := sb.trans (k.below w.heap.size sb.size (by simp <;> omega))
        clear k
        refine pw_mv (by rfl) rfl rfl ?_
        simp only [Act.put, pu]
        refine pw_ext (by rfl) rfl rfl rfl ?_
        simp only [Act.put, pu]
        refine pw_ext (by rfl) rfl rfl rfl ?_
        simp only [Act.put, pu]
        refine pw_as (by rfl) rfl rfl ?_
        simp only [Act.put, pu]
        refine pw_as (by rfl) rfl rfl ?_
        simp only [Act.put, pu]
        refine pw_nil ?_
        (repeat ((fail_if_success with_reducible refine rg ?_); go_step))
        refine wp_region_pw ?_
        refine pw_mv (by rfl) rfl rfl ?_
        simp only [Act.put, pu]
        refine pw_value (by rfl) (.pointer (some ⟨g20, 0, none⟩)) (exec_nil _ rfl g20 0 rfl) ?_
        simp only [Act.put, pu]
        refine pw_value (by rfl) (.pointer (some ⟨g20, 2, none⟩)) (exec_field 44 _ 2 rfl g20 0 rfl _ Try.underlying44 _ rfl 0 Try.sizeOf4) ?_
        simp only [Act.put, pu]
        refine pw_loadk (by rfl) 4 _ rfl _ (2) rfl r20.r (.bool false) rfl Try.isAgg4 ?_
        simp only [Act.put, pu]
        refine pw_mv (by rfl) rfl rfl ?_
        simp only [Act.put, pu]
        refine pw_mv (by rfl) rfl rfl ?_
        simp only [Act.put, pu]
        refine pw_value (by rfl) (.bool false) (exec_neq_k .i64 _ _ _ _ rfl 0 0 rfl rfl false rfl) ?_
        simp only [Act.put, pu]
        refine pw_pick (by rfl) false (v := .bool false) rfl rfl rfl ?_
        simp only [Act.put, pu]
        refine pw_mv (by rfl) rfl rfl ?_
        simp only [Act.put, pu]
        refine pw_mv (by rfl) rfl rfl ?_
        simp only [Act.put, pu]
        refine pw_mv (by rfl) rfl rfl ?_
        simp only [Act.put, pu]
        refine pw_value (by rfl) (.bool false) (y_neS _ _ _ _ rfl B s rfl rfl false hne) ?_
        simp only [Act.put, pu]
        refine pw_pick (by rfl) false (v := .bool false) rfl rfl rfl ?_
        simp only [Act.put, pu]
        refine pw_nil ?_
        (repeat ((fail_if_success with_reducible refine rg ?_); go_step))
        refine wp_region_pw ?_
        refine pw_loadm (by rfl) 29 _ rfl _ (0) rfl r5.r (msC (kd : Nat) (op : Nat) key (sq : Nat) (cl : Nat) dg ao i co av i cv) (part_all _) _ Try.underlying29 rfl size_ms ?_
        simp only [Act.put, pu]
        refine pw_put (by rfl) 29 _ _ rfl _ rfl r2 (msC (kd : Nat) (op : Nat) key (sq : Nat) (cl : Nat) dg ao i co av i cv) rfl (by exact size_ms) (by rfl) (ms_one _ _ _ _ _ _ _ _ _ _ _ _) ?_
        clear r2
        intro z24001 r2 k
        simp only [Act.put]
        replace r20 := k.row r20 (by simp <;> omega)
        replace r5 := k.row r5 (by simp <;> omega)
        replace hO := hO.on k (own_ne1 ehOx2)
        replace hX2 := hX2.on k (by simp <;> omega)
        replace hzz := hzz.on k (by simp <;> omega)
        replace sb := sb.trans (k.below w.heap.size sb.size (by simp <;> omega))
        clear k
        refine pw_value (by rfl) (.int .i64 0) (fun _ => rfl) ?_
        simp only [Act.put, pu]
        refine pw_nil ?_
        go_wp2
        exact ret_row2d rfl _ rfl r2 _ Try.underlying29 (by exact size_ms) rfl _ rfl ⟨Or.inr ⟨⟨kd, op, key, sq, cl, dg, X, ts⟩, ao, co, av, cv, hyes.out, congrArg (fun c => Ending.returned (Value.tuple #[Value.agg c, Value.int IntKind.i64 0])) (hDx ao co av cv), fun w3 T k hT => hIx _ _ _ (hX2 w3 T k (fun g hg => (hT g hg).imp (fun h => by omega) (fun h => Nat.le_trans hzz.le h))) (YsO hYs (hO.on k (fun b hb hm => absurd (hT b hm) (by have := World.ownsRow.lt hO b hb; omega))))⟩, sb⟩
       ·have hno : Hid (tz s = none) := tz_more hrz hR
        have hne : decide (B = s) = !true := decide_eq_false (fun h => hR (hBs.1 h))
        (repeat ((fail_if_success with_reducible refine rg ?_); go_step))
        refine wp_region_pw ?_
        refine pw_loadm (by rfl) 29 _ rfl _ (0) rfl r5.r (msC (kd : Nat) (op : Nat) key (sq : Nat) (cl : Nat) dg ao i co av i cv) (part_all _) _ Try.underlying29 rfl size_ms ?_
        simp only [Act.put, pu]
        refine pw_callB (by rfl) 20 _ _ rfl Try.func20 (by kernel_rfl) #[.agg (msC (kd : Nat) (op : Nat) key (sq : Nat) (cl : Nat) dg ao i co av i cv)] rfl _ (rput_t (Y := Yt ts) (by omega) (by omega) HNX.out (hX2.self) (YsO hYs hO) hW2 B hBm2 hBl) ?_
        intro z21001 k
        simp only [Act.put, pu]
        replace r2 := k.row r2 (by simp <;> omega)
        replace r20 := k.row r20 (by simp <;> omega)
        replace r5 := k.row r5 (by simp <;> omega)
        replace hO := hO.on k (own_ne0 _)
        replace hX2 := hX2.on k (by simp <;> omega)
        replace hzz := hzz.on k (by simp <;> omega)
        replace sb := sb.trans (k.below w.heap.size sb.size (by simp <;> omega))
        clear k
        refine pw_mv (by rfl) rfl rfl ?_
        simp only [Act.put, pu]
        refine pw_ext (by rfl) rfl rfl rfl ?_
        simp only [Act.put, pu]
        refine pw_ext (by rfl) rfl rfl rfl ?_
        simp only [Act.put, pu]
        refine pw_as (by rfl) rfl rfl ?_
        simp only [Act.put, pu]
        refine pw_as (by rfl) rfl rfl ?_
        simp only [Act.put, pu]
        refine pw_nil ?_
        (repeat ((fail_if_success with_reducible refine rg ?_); go_step))
        refine wp_region_pw ?_
        refine pw_mv (by rfl) rfl rfl ?_
        simp only [Act.put, pu]
        refine pw_value (by rfl) (.pointer (some ⟨g20, 0, none⟩)) (exec_nil _ rfl g20 0 rfl) ?_
        simp only [Act.put, pu]
        refine pw_value (by rfl) (.pointer (some ⟨g20, 2, none⟩)) (exec_field 44 _ 2 rfl g20 0 rfl _ Try.underlying44 _ rfl 0 Try.sizeOf4) ?_
        simp only [Act.put, pu]
        refine pw_loadk (by rfl) 4 _ rfl _ (2) rfl r20.r (.bool false) rfl Try.isAgg4 ?_
        simp only [Act.put, pu]
        refine pw_mv (by rfl) rfl rfl ?_
        simp only [Act.put, pu]
        refine pw_mv (by rfl) rfl rfl ?_
        simp only [Act.put, pu]
        refine pw_value (by rfl) (.bool false) (exec_neq_k .i64 _ _ _ _ rfl 0 0 rfl rfl false rfl) ?_
        simp only [Act.put, pu]
        refine pw_pick (by rfl) false (v := .bool false) rfl rfl rfl ?_
        simp only [Act.put, pu]
        refine pw_mv (by rfl) rfl rfl ?_
        simp only [Act.put, pu]
        refine pw_mv (by rfl) rfl rfl ?_
        simp only [Act.put, pu]
        refine pw_mv (by rfl) rfl rfl ?_
        simp only [Act.put, pu]
        refine pw_value (by rfl) (.bool true) (y_neS _ _ _ _ rfl B s rfl rfl true hne) ?_
        simp only [Act.put, pu]
        refine pw_pick (by rfl) false (v := .bool true) rfl rfl rfl ?_
        simp only [Act.put, pu]
        refine pw_nil ?_
        (repeat ((fail_if_success with_reducible refine rg ?_); go_step))
        refine wp_region_pw ?_
        refine pw_value (by rfl) (.agg (msC 0 0 [] 0 0 [] none 0 0 none 0 0)) (exec_buildv _ [] rfl [] rfl _ built_mz) ?_
        simp only [Act.put, pu]
        refine pw_put (by rfl) 29 _ _ rfl _ rfl r2 (msC 0 0 [] 0 0 [] none 0 0 none 0 0) rfl (by exact size_ms) (by rfl) (ms_one _ _ _ _ _ _ _ _ _ _ _ _) ?_
        clear r2
        intro z23001 r2 k
        simp only [Act.put]
        replace sb := sb.trans (k.below w.heap.size sb.size (by simp <;> omega))
        clear k
        refine pw_value (by rfl) (.int .i64 4) (fun _ => rfl) ?_
        simp only [Act.put, pu]
        refine pw_nil ?_
        go_wp2
        exact ret_row2d rfl _ rfl r2 _ Try.underlying29 (by exact size_ms) rfl _ rfl ⟨Or.inl ⟨hno.out, rfl⟩, sb⟩
end Go.Proofs.Ytojobffihlmfgaa
