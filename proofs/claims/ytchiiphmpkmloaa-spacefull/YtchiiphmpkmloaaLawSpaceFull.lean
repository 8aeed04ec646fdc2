/- SpaceFull: for up to 3 servers and 2 clients and any end: as many keys as its quota are new, one more is refused; a space that nobody made answers nothing and does not fail; no condition. -/
import Derived.Test.YtchiiphmpkmloaaSpBits
namespace Go.Proofs.Ytchiiphmpkmloaa
open Go.ChangeShapes Go.WideShapes Go.ChangeAt Go.RowKit
set_option linter.unusedVariables false
set_option linter.unusedSectionVars false
set_option linter.unusedSimpArgs false
namespace spaceFullP
theorem info_sps : (Try.prog.info? 26).map (fun i => (i.zero, i.size)) = some (some (.pointer none), 1) := by kernel_rfl
theorem info_sps' : ∃ i, Try.prog.info? 26 = some i ∧ i.zero = some (.pointer none) ∧ i.size = 1 := by
 cases hi : Try.prog.info? 26 with
 | none => have h := info_sps; rw [hi] at h; cases h
 | some i =>
  have h := info_sps
  rw [hi] at h
  simp only [Option.map_some, Option.some.injEq, Prod.mk.injEq] at h
  exact ⟨i, rfl, h.1, h.2⟩
theorem lit_sps (g : Nat) (k : Nat) (hk : k = 1) : Instr.fill (fun i => some (i * k, k)) ((Array.range (2 * k)).map ((Value.pointer none).cells[· % (Value.pointer none).cells.size]!)) [(0, .pointer none), (1, .pointer (some ⟨g, 0, none⟩))] = some #[.pointer none, .pointer (some ⟨g, 0, none⟩)] := by
 subst hk
 kernel_rfl
theorem sl_sps : Try.prog.underlying 58 = some (.slice (Try.prog.elem 58)) := by kernel_rfl
theorem built_sp0 : Try.prog.built 57 [] = some (sxC 0 0 (.slice none 0 0) (.map none)) := by kernel_rfl
theorem key_ne {i t q : Nat} (h : t ≠ i) (hi : i ≤ 200) (ht : t ≤ 200) : ([UInt8.ofNat (t + 1)] : Ky) ≠ [UInt8.ofNat (i + 1)] := fun e => by
 have e1 := List.cons.inj e
 have e2 := congrArg UInt8.toNat e1.1
 rw [UInt8.toNat_ofNat', UInt8.toNat_ofNat'] at e2
 omega
theorem quo_ge (n m e : Int) (h1 : 1 ≤ n) (h2 : 1 ≤ m) (he : 1 ≤ e) (h3 : e ≤ n + m) : 4 ≤ quo n m e := by
 have hmn : 1 ≤ m * n := Int.mul_pos (by omega) (by omega)
 unfold quo endB
 rw [if_pos (decide_eq_true ⟨he, h3⟩)]
 split <;> omega
set_option maxRecDepth 100000 in
set_option maxHeartbeats 2000000 in
theorem walk (n m a : Int) (w : World) (hn2 : n ≤ 9223372036854775807) (ha : -9223372036854775808 ≤ a ∧ a ≤ 9223372036854775807) :
  Calls Try.prog 6 #[.agg #[.int .i64 n, .int .i64 m], .int .i64 a] w fun e w' => e = .returned (.bool true) ∧ Below w.heap.size w w' := by
 clear hn2 ha
 obtain ⟨k1, _, hk1⟩ := an255 n
 obtain ⟨k2, hk2l, hk2⟩ := an_one m
 obtain ⟨k3, _, hk3⟩ := an255 a
 obtain ⟨r1, hr1⟩ : ∃ r, k1 % 3 = r := ⟨_, rfl⟩
 obtain ⟨N, hN⟩ : ∃ N, 1 + r1 = N := ⟨_, rfl⟩
 obtain ⟨M, hM⟩ : ∃ M, 1 + k2 = M := ⟨_, rfl⟩
 obtain ⟨r3, hr3⟩ : ∃ r, k3 % (N + M) = r := ⟨_, rfl⟩
 obtain ⟨E, hE⟩ : ∃ E, 1 + r3 = E := ⟨_, rfl⟩
 have hr1l : r1 < 3 := by rw [← hr1]; exact Nat.mod_lt _ (by decide)
 have hr3l : r3 < N + M := by rw [← hr3]; exact Nat.mod_lt _ (by omega)
 have HQ : Hid (4 ≤ quo ((N : Nat) : Int) ((M : Nat) : Int) ((E : Nat) : Int) ∧ quo ((N : Nat) : Int) ((M : Nat) : Int) ((E : Nat) : Int) ≤ 112) := ⟨quo_ge _ _ _ (by omega) (by omega) (by omega) (by omega), (quo_le ((N : Nat) : Int) ((M : Nat) : Int) ((E : Nat) : Int) (by omega) (by omega) (by omega) (by omega)).2⟩
 obtain ⟨q, hq⟩ : ∃ q : Nat, quo ((N : Nat) : Int) ((M : Nat) : Int) ((E : Nat) : Int) = q := ⟨(quo ((N : Nat) : Int) ((M : Nat) : Int) ((E : Nat) : Int)).toNat, by have := HQ.out; omega⟩
 have HQE : Hid (quo ((N : Nat) : Int) ((M : Nat) : Int) ((E : Nat) : Int) = q) := hq
 have hq2 : 4 ≤ q ∧ q ≤ 112 := by have := HQ.out; omega
 have hend : endB ((N : Nat) : Int) ((M : Nat) : Int) ((E : Nat) : Int) = true := decide_eq_true (by omega)
 have HEN : Hid (endB ((N : Nat) : Int) ((M : Nat) : Int) ((E : Nat) : Int) = true) := hend
 clear hq hend HQ
 obtain ⟨ip, hip, hip2, hip3⟩ := info_sps'
 obtain ⟨ib, hib, hib2, hib3⟩ := info_u8k
 have q1 : ¬ 2 * ip.size > 2 ^ 24 := by rw [hip3]; decide
 have q2 : ¬ 2 * ip.size = 0 := by rw [hip3]; decide
 have q3 : ¬ 1 * ib.size > 2 ^ 24 := by rw [hib3]; decide
 have q4 : ¬ 1 * ib.size = 0 := by rw [hib3]; decide
 have ql1 := fun g => lit_sps g ip.size hip3
 have ql2 := fun a => lit_b1 a ib.size hib3
 clear hip3 hib3
 go_enter Try.func6, Try.ntmps6
 have sb := sbmk w
 (repeat ((fail_if_success with_reducible refine rg ?_); go_step))
 refine wp_region_pw ?_
 refine pw_boxr (by rfl) 22 _ rfl (#[.int .i64 n, .int .i64 m]) rfl ?_
 intro g2 z0 n0 r2 k
 simp only [Act.put, pu]
 have b2 := Nat.le_trans sb.size n0
 clear n0
 replace sb := sb.trans (k.below w.heap.size sb.size (by simp <;> omega))
 clear k
 refine pw_value (by rfl) (.bool false) (fun _ => rfl) ?_
 simp only [Act.put, pu]
 refine pw_nil ?_
 (repeat ((fail_if_success with_reducible refine rg ?_); go_step))
 refine wp_region_qw (by kernel_rfl) (by kernel_rfl) ?_
 refine qw_value (by rfl) (.pointer (some ⟨g2, 0, none⟩)) (exec_index 22 _ _ rfl g2 rfl 0 2 rfl (by decide) _ Try.underlying22 Try.sizeOf3) ?_
 simp only [Act.put, pu]
 refine qw_loadc (by rfl) 3 _ rfl _ (0) rfl r2 (.int .i64 n) rfl Try.isAgg3 ?_
 simp only [Act.put, pu]
 refine qw_value (by rfl) (.int .i64 (k1 : Nat)) (x_an _ _ _ _ rfl n 255 (k1 : Nat) rfl rfl hk1) ?_
 simp only [Act.put, pu]
 refine qw_value (by rfl) (.int .i64 (r1 : Nat)) (fun w' => (x_remz _ _ _ _ rfl k1 3 rfl rfl (by decide) w').trans (by rw [hr1])) ?_
 simp only [Act.put, pu]
 refine qw_value (by rfl) (.int .i64 (N : Nat)) (x_addz _ _ _ _ rfl 1 (r1 : Nat) (N : Nat) rfl rfl (by omega) (by omega) (by omega)) ?_
 simp only [Act.put, pu]
 refine qw_value (by rfl) (.pointer (some ⟨g2, 1, none⟩)) (exec_index 22 _ _ rfl g2 rfl 1 2 rfl (by decide) _ Try.underlying22 Try.sizeOf3) ?_
 simp only [Act.put, pu]
 refine qw_loadc (by rfl) 3 _ rfl _ (1) rfl r2 (.int .i64 m) rfl Try.isAgg3 ?_
 simp only [Act.put, pu]
 refine qw_value (by rfl) (.int .i64 (k2 : Nat)) (x_an _ _ _ _ rfl m 1 (k2 : Nat) rfl rfl hk2) ?_
 simp only [Act.put, pu]
 refine qw_value (by rfl) (.int .i64 (M : Nat)) (x_addz _ _ _ _ rfl 1 (k2 : Nat) (M : Nat) rfl rfl (by omega) (by omega) (by omega)) ?_
 simp only [Act.put, pu]
 refine qw_asg (by rfl) rfl rfl ?_
 simp only [Act.put, pu]
 refine qw_asg (by rfl) rfl rfl ?_
 simp only [Act.put, pu]
 refine qw_nil ?_
 intro w9 hqb
 replace sb := below_on sb (Nat.le_refl _) hqb
 clear hqb
 (repeat ((fail_if_success with_reducible refine rg ?_); go_step))
 refine wp_region_pw ?_
 refine pw_mv (by rfl) rfl rfl ?_
 simp only [Act.put, pu]
 refine pw_mv (by rfl) rfl rfl ?_
 simp only [Act.put, pu]
 refine pw_callE (by rfl) 9 _ _ rfl Try.func9 (by kernel_rfl) #[.int .i64 (N : Nat), .int .i64 (M : Nat)] rfl (new_at (base := w.heap.size) sb.size (by omega) (by omega) (by omega) (by omega)) ?_
 rintro _ z2002 ⟨g5, B, rfl, hA, _, hb⟩
 refine ⟨_, rfl, ?_⟩
 simp only [Act.put, pu]
 have k := Kept.ofBelow hb
 clear hb
 replace sb := sb.trans (k.below w.heap.size sb.size (by simp <;> omega))
 clear k
 refine pw_mv (by rfl) rfl rfl ?_
 simp only [Act.put, pu]
 refine pw_ext (by rfl) rfl rfl rfl ?_
 simp only [Act.put, pu]
 refine pw_ext (by rfl) rfl rfl rfl ?_
 simp only [Act.put, pu]
 refine pw_as (by rfl) rfl rfl ?_
 simp only [Act.put, pu]
 refine pw_as (by rfl) rfl rfl ?_
 simp only [Act.put, pu]
 refine pw_nil ?_
 (repeat ((fail_if_success with_reducible refine rg ?_); go_step))
 refine wp_region_pw ?_
 refine pw_mv (by rfl) rfl rfl ?_
 simp only [Act.put, pu]
 refine pw_value (by rfl) (.bool false) (exec_neq_k .i64 _ _ _ _ rfl (0) (0) rfl rfl false (by rw [decide_eq_true (by omega)]; rfl)) ?_
 simp only [Act.put, pu]
 refine pw_mv (by rfl) rfl rfl ?_
 simp only [Act.put, pu]
 refine pw_mv (by rfl) rfl rfl ?_
 simp only [Act.put, pu]
 refine pw_value (by rfl) (.bool false) (exec_eql_nilp _ _ _ _ rfl (some ⟨g5, 0, none⟩) rfl rfl ptr_sp) ?_
 simp only [Act.put, pu]
 refine pw_pick (by rfl) false (v := .bool false) rfl rfl rfl ?_
 simp only [Act.put, pu]
 refine pw_nil ?_
 (repeat ((fail_if_success with_reducible refine rg ?_); go_step))
 refine wp_region_pw ?_
 refine pw_mv (by rfl) rfl rfl ?_
 simp only [Act.put, pu]
 refine pw_value (by rfl) (.int .i64 (k3 : Nat)) (x_an _ _ _ _ rfl a 255 (k3 : Nat) rfl rfl hk3) ?_
 simp only [Act.put, pu]
 refine pw_mv (by rfl) rfl rfl ?_
 simp only [Act.put, pu]
 refine pw_mv (by rfl) rfl rfl ?_
 simp only [Act.put, pu]
 refine pw_value (by rfl) (.int .i64 ((N + M : Nat) : Int)) (x_addz _ _ _ _ rfl (N : Nat) (M : Nat) ((N + M : Nat) : Int) rfl rfl (by omega) (by omega) (by omega)) ?_
 simp only [Act.put, pu]
 refine pw_value (by rfl) (.int .i64 (r3 : Nat)) (fun w' => (x_remz _ _ _ _ rfl k3 (N + M) rfl rfl (by omega) w').trans (by rw [hr3])) ?_
 simp only [Act.put, pu]
 refine pw_value (by rfl) (.int .i64 (E : Nat)) (x_addz _ _ _ _ rfl 1 (r3 : Nat) (E : Nat) rfl rfl (by omega) (by omega) (by omega)) ?_
 simp only [Act.put, pu]
 refine pw_as (by rfl) rfl rfl ?_
 simp only [Act.put, pu]
 refine pw_nil ?_
 have hqo := fun w' (h : SpAt w' w.heap.size g5 (N : Nat) (M : Nat) [] (fun _ => 0) B) => quo_at h (E : Nat)
 rw [HQE.out] at hqo
 clear hk1 hk2 hk3 hr1 hr3
 (repeat ((fail_if_success with_reducible refine rg ?_); go_step))
 refine wp_region_pw ?_
 refine pw_mv (by rfl) rfl rfl ?_
 simp only [Act.put, pu]
 refine pw_mv (by rfl) rfl rfl ?_
 simp only [Act.put, pu]
 refine pw_callB (by rfl) 16 _ _ rfl Try.func16 (by kernel_rfl) #[.pointer (some ⟨g5, 0, none⟩), .int .i64 (E : Nat)] rfl _ (hqo _ hA) ?_
 intro z6002 k
 simp only [Act.put, pu]
 replace hA := hA.below k.nil
 replace sb := sb.trans (k.below w.heap.size sb.size (by simp <;> omega))
 clear k
 refine pw_as (by rfl) rfl rfl ?_
 simp only [Act.put, pu]
 refine pw_nil ?_
 (repeat ((fail_if_success with_reducible refine rg ?_); go_step))
 refine wp_region_pw ?_
 refine pw_value (by rfl) (.int .i64 0) (fun _ => rfl) ?_
 simp only [Act.put, pu]
 refine pw_nil ?_
 clear hqo
 go_wp2_with fail
 go_loopg [4, 11, 12, 13, 14] (q + 1) (fun x s4 s11 s12 s13 s14 wr => ∃ (i : Nat) (l : List Ky) (U : Int → Int) (B : List Nat), i + x = q + 1 ∧ s11 = .int .i64 i ∧ SpAt wr w.heap.size g5 (N : Nat) (M : Nat) l U B ∧ (∀ t, i ≤ t → t ≤ q → [UInt8.ofNat (t + 1)] ∉ l) ∧ U (E : Nat) = min (i : Int) q ∧ l.length = min i q ∧ Below w.heap.size w wr)
 case atStart => exact ⟨0, [], _, B, by omega, rfl, hA, (fun _ _ _ => by simp), by omega, by simp, sb⟩
 case round =>
  clear sb hA
  obtain ⟨i, l, U, B, hi, rfl, hA, hnl, hU, hl, sb⟩ := hrel
  have HN : Hid (∀ t, i ≤ t → t ≤ q → [UInt8.ofNat (t + 1)] ∉ l) := hnl
  have HU : Hid (U (E : Nat) = min (i : Int) q) := hU
  clear hnl hU
  cases gk with
  | succ y =>
   have hiq : i ≤ q := by omega
   have h1 : (i : Int) < ((q + 1 : Nat) : Int) := by omega
   have hx := HN.out i (Nat.le_refl _) hiq
   have hkey : kyB [UInt8.ofNat (i + 1)] = true := rfl
   have HX : Hid ([UInt8.ofNat (i + 1)] ∉ l) := hx
   by_cases hlt : i < q
   ·have hUl : U (E : Nat) < quo ((N : Nat) : Int) ((M : Nat) : Int) ((E : Nat) : Int) := by rw [HU.out, HQE.out]; omega
    obtain ⟨e1, e2, e3⟩ := op_new (n := ((N : Nat) : Int)) (m := ((M : Nat) : Int)) HEN.out hkey hx hUl
    have e4 : opK ((N : Nat) : Int) ((M : Nat) : Int) l (U (E : Nat)) [UInt8.ofNat (i + 1)] (E : Nat) = insK [UInt8.ofNat (i + 1)] l := by unfold opK; rw [e2]; rfl
    have e5 : ∀ j, opU ((N : Nat) : Int) ((M : Nat) : Int) l U [UInt8.ofNat (i + 1)] (E : Nat) j = if j = (E : Nat) then U j + 1 else U j := fun j => by unfold opU; rw [e2]; rfl
    have hcon := fun w' (h : SpAt w' w.heap.size g5 (N : Nat) (M : Nat) l U B) (hb : Below w.heap.size w w') => opn_is h hb [UInt8.ofNat (i + 1)] (E : Nat) (by omega) (by simp) e3 e2 e1 e4 rfl
    have HK : Hid (∀ j, opU ((N : Nat) : Int) ((M : Nat) : Int) l U [UInt8.ofNat (i + 1)] (E : Nat) j = if j = (E : Nat) then U j + 1 else U j) := e5
    generalize opU ((N : Nat) : Int) ((M : Nat) : Int) l U [UInt8.ofNat (i + 1)] (E : Nat) = U2 at *
    clear e1 e2 e3 e4 e5 hUl hkey hx
    (repeat ((fail_if_success with_reducible refine rg ?_); go_step))
    refine wp_region_pw ?_
    refine pw_mv (by rfl) rfl rfl ?_
    simp only [Act.put, pu]
    refine pw_mv (by rfl) rfl rfl ?_
    simp only [Act.put, pu]
    refine pw_value (by rfl) (.int .i64 (((q + 1 : Nat) : Int))) (x_addz _ _ _ _ rfl ((q : Nat)) (1) (((q + 1 : Nat) : Int)) rfl rfl (by omega) (by omega) (by omega)) ?_
    simp only [Act.put, pu]
    refine pw_value (by rfl) (.bool true) (exec_lt_b _ _ _ _ rfl ((i : Nat)) (((q + 1 : Nat) : Int)) rfl rfl true (decide_eq_true h1)) ?_
    simp only [Act.put, pu]
    refine pw_nil ?_
    (repeat ((fail_if_success with_reducible refine rg ?_); go_step))
    refine wp_region_pw ?_
    refine pw_mv (by rfl) rfl rfl ?_
    simp only [Act.put, pu]
    refine pw_mv (by rfl) rfl rfl ?_
    simp only [Act.put, pu]
    refine pw_value (by rfl) (.int .i64 (((i + 1 : Nat) : Int))) (x_addz _ _ _ _ rfl ((i : Nat)) (1) (((i + 1 : Nat) : Int)) rfl rfl (by omega) (by omega) (by omega)) ?_
    simp only [Act.put, pu]
    refine pw_value (by rfl) (.int .u8 ((i + 1 : Nat) : Int)) (y_conv _ _ _ rfl .i64 .u8 Try.underlying3 Try.underlying5 ((i + 1 : Nat) : Int) _ rfl (wr8k _ (by omega))) ?_
    simp only [Act.put, pu]
    refine pw_litr (by rfl) 53 5 1 _ rfl #[.int .u8 ((i + 1 : Nat) : Int)] ib _ Try.underlying53 hib hib2 q3 q4 [(0, .int .u8 ((i + 1 : Nat) : Int))] rfl (ql2 _) ?_
    intro gK z10004 n0 rK k
    simp only [Act.put, pu]
    have bK := Nat.le_trans sb.size n0
    clear n0
    replace hA := hA.below k.nil
    replace sb := sb.trans (k.below w.heap.size sb.size (by simp <;> omega))
    clear k
    refine pw_run (by rfl) (.string ⟨[UInt8.ofNat (i + 1)].toArray⟩) _ (y_str _ rfl gK 0 1 1 [UInt8.ofNat (i + 1)] rfl rfl _ rK.r (cell_b1 _ (by omega))) ?_
    simp only [Act.put, pu]
    refine pw_mv (by rfl) rfl rfl ?_
    simp only [Act.put, pu]
    refine pw_callE (by rfl) 11 _ _ rfl Try.func11 (by kernel_rfl) #[.pointer (some ⟨g5, 0, none⟩), .string ⟨[UInt8.ofNat (i + 1)].toArray⟩, .int .i64 (E : Nat)] rfl (hcon _ hA sb) ?_
    clear hA
    rintro _ z10007 ⟨B2, rfl, hA2, hb⟩
    refine ⟨_, rfl, ?_⟩
    simp only [Act.put, pu]
    replace sb := sb.trans hb
    clear hb
    refine pw_mv (by rfl) rfl rfl ?_
    simp only [Act.put, pu]
    refine pw_ext (by rfl) rfl rfl rfl ?_
    simp only [Act.put, pu]
    refine pw_ext (by rfl) rfl rfl rfl ?_
    simp only [Act.put, pu]
    refine pw_ext (by rfl) rfl rfl rfl ?_
    simp only [Act.put, pu]
    refine pw_as (by rfl) rfl rfl ?_
    simp only [Act.put, pu]
    refine pw_as (by rfl) rfl rfl ?_
    simp only [Act.put, pu]
    refine pw_as (by rfl) rfl rfl ?_
    simp only [Act.put, pu]
    refine pw_nil ?_
    (repeat ((fail_if_success with_reducible refine rg ?_); go_step))
    refine wp_region_pw ?_
    refine pw_mv (by rfl) rfl rfl ?_
    simp only [Act.put, pu]
    refine pw_value (by rfl) (.bool true) (exec_eql_k .i64 _ _ _ _ rfl (0) (0) rfl rfl true (decide_eq_true rfl)) ?_
    simp only [Act.put, pu]
    refine pw_mv (by rfl) rfl rfl ?_
    simp only [Act.put, pu]
    refine pw_mv (by rfl) rfl rfl ?_
    simp only [Act.put, pu]
    refine pw_value (by rfl) (.bool true) (exec_lt_b _ _ _ _ rfl ((i : Nat)) ((q : Nat)) rfl rfl true (decide_eq_true (by omega))) ?_
    simp only [Act.put, pu]
    refine pw_value (by rfl) (.bool false) (x_nb _ _ _ _ rfl (true) (true) rfl rfl Try.underlying4 false (rfl)) ?_
    simp only [Act.put, pu]
    refine pw_mv (by rfl) rfl rfl ?_
    simp only [Act.put, pu]
    refine pw_mv (by rfl) rfl rfl ?_
    simp only [Act.put, pu]
    refine pw_mv (by rfl) rfl rfl ?_
    simp only [Act.put, pu]
    refine pw_mv (by rfl) rfl rfl ?_
    simp only [Act.put, pu]
    refine pw_value (by rfl) (.bool true) (exec_lt_b _ _ _ _ rfl ((i : Nat)) ((q : Nat)) rfl rfl true (decide_eq_true (by omega))) ?_
    simp only [Act.put, pu]
    refine pw_value (by rfl) (.bool false) (x_nb _ _ _ _ rfl (true) (true) rfl rfl Try.underlying4 false (rfl)) ?_
    simp only [Act.put, pu]
    refine pw_pick (by rfl) false (v := .bool false) rfl rfl rfl ?_
    simp only [Act.put, pu]
    refine pw_mv (by rfl) rfl rfl ?_
    simp only [Act.put, pu]
    refine pw_mv (by rfl) rfl rfl ?_
    simp only [Act.put, pu]
    refine pw_value (by rfl) (.bool false) (exec_neq_k .i64 _ _ _ _ rfl (0) (0) rfl rfl false (by rw [decide_eq_true rfl]; rfl)) ?_
    simp only [Act.put, pu]
    refine pw_mv (by rfl) rfl rfl ?_
    simp only [Act.put, pu]
    refine pw_skip (by rfl) ?_
    simp only [Act.put, pu]
    refine pw_skip (by rfl) ?_
    simp only [Act.put, pu]
    refine pw_pick (by rfl) false (v := .bool false) rfl rfl rfl ?_
    simp only [Act.put, pu]
    refine pw_pick (by rfl) false (v := .bool false) rfl rfl rfl ?_
    simp only [Act.put, pu]
    refine pw_nil ?_
    have hnl2 : ∀ t, i + 1 ≤ t → t ≤ q → [UInt8.ofNat (t + 1)] ∉ insK [UInt8.ofNat (i + 1)] l := fun t h9 h8 hm => by
     rcases List.mem_cons.1 ((insK_perm [UInt8.ofNat (i + 1)] l).mem_iff.1 hm) with h7 | h7
     ·exact key_ne (q := q) (by omega) (by omega) (by omega) h7
     ·exact HN.out t (by omega) h8 h7
    (repeat ((fail_if_success with_reducible refine rg ?_); go_step))
    refine wp_region_pw ?_
    refine pw_mv (by rfl) rfl rfl ?_
    simp only [Act.put, pu]
    refine pw_value (by rfl) (.int .i64 (((i + 1 : Nat) : Int))) (x_addz _ _ _ _ rfl ((i : Nat)) (1) (((i + 1 : Nat) : Int)) rfl rfl (by omega) (by omega) (by omega)) ?_
    simp only [Act.put, pu]
    refine pw_as (by rfl) rfl rfl ?_
    simp only [Act.put, pu]
    refine pw_nil ?_
    go_wp2
    go_roundg y
    case measure => omega
    case rel => exact ⟨i + 1, _, _, B2, by omega, rfl, hA2, hnl2, by rw [HK.out, if_pos rfl, HU.out]; omega, by rw [insK_len]; omega, sb⟩
   ·have heq : i = q := by omega
    have hUl : quo ((N : Nat) : Int) ((M : Nat) : Int) ((E : Nat) : Int) ≤ U (E : Nat) := by rw [HU.out, HQE.out]; omega
    obtain ⟨e1, e2, e3⟩ := op_quota (n := ((N : Nat) : Int)) (m := ((M : Nat) : Int)) HEN.out hkey hx hUl
    have e4 : opK ((N : Nat) : Int) ((M : Nat) : Int) l (U (E : Nat)) [UInt8.ofNat (i + 1)] (E : Nat) = l := by unfold opK; rw [e2]; rfl
    have e5 : opU ((N : Nat) : Int) ((M : Nat) : Int) l U [UInt8.ofNat (i + 1)] (E : Nat) = U := by unfold opU; rw [e2]; rfl
    have hcon := fun w' (h : SpAt w' w.heap.size g5 (N : Nat) (M : Nat) l U B) (hb : Below w.heap.size w w') => opn_is h hb [UInt8.ofNat (i + 1)] (E : Nat) (by omega) (by simp) e3 e2 e1 e4 e5
    clear e1 e2 e3 e4 e5 hUl hkey hx
    (repeat ((fail_if_success with_reducible refine rg ?_); go_step))
    refine wp_region_pw ?_
    refine pw_mv (by rfl) rfl rfl ?_
    simp only [Act.put, pu]
    refine pw_mv (by rfl) rfl rfl ?_
    simp only [Act.put, pu]
    refine pw_value (by rfl) (.int .i64 (((q + 1 : Nat) : Int))) (x_addz _ _ _ _ rfl ((q : Nat)) (1) (((q + 1 : Nat) : Int)) rfl rfl (by omega) (by omega) (by omega)) ?_
    simp only [Act.put, pu]
    refine pw_value (by rfl) (.bool true) (exec_lt_b _ _ _ _ rfl ((i : Nat)) (((q + 1 : Nat) : Int)) rfl rfl true (decide_eq_true h1)) ?_
    simp only [Act.put, pu]
    refine pw_nil ?_
    (repeat ((fail_if_success with_reducible refine rg ?_); go_step))
    refine wp_region_pw ?_
    refine pw_mv (by rfl) rfl rfl ?_
    simp only [Act.put, pu]
    refine pw_mv (by rfl) rfl rfl ?_
    simp only [Act.put, pu]
    refine pw_value (by rfl) (.int .i64 (((i + 1 : Nat) : Int))) (x_addz _ _ _ _ rfl ((i : Nat)) (1) (((i + 1 : Nat) : Int)) rfl rfl (by omega) (by omega) (by omega)) ?_
    simp only [Act.put, pu]
    refine pw_value (by rfl) (.int .u8 ((i + 1 : Nat) : Int)) (y_conv _ _ _ rfl .i64 .u8 Try.underlying3 Try.underlying5 ((i + 1 : Nat) : Int) _ rfl (wr8k _ (by omega))) ?_
    simp only [Act.put, pu]
    refine pw_litr (by rfl) 53 5 1 _ rfl #[.int .u8 ((i + 1 : Nat) : Int)] ib _ Try.underlying53 hib hib2 q3 q4 [(0, .int .u8 ((i + 1 : Nat) : Int))] rfl (ql2 _) ?_
    intro gK z10004 n0 rK k
    simp only [Act.put, pu]
    have bK := Nat.le_trans sb.size n0
    clear n0
    replace hA := hA.below k.nil
    replace sb := sb.trans (k.below w.heap.size sb.size (by simp <;> omega))
    clear k
    refine pw_run (by rfl) (.string ⟨[UInt8.ofNat (i + 1)].toArray⟩) _ (y_str _ rfl gK 0 1 1 [UInt8.ofNat (i + 1)] rfl rfl _ rK.r (cell_b1 _ (by omega))) ?_
    simp only [Act.put, pu]
    refine pw_mv (by rfl) rfl rfl ?_
    simp only [Act.put, pu]
    refine pw_callE (by rfl) 11 _ _ rfl Try.func11 (by kernel_rfl) #[.pointer (some ⟨g5, 0, none⟩), .string ⟨[UInt8.ofNat (i + 1)].toArray⟩, .int .i64 (E : Nat)] rfl (hcon _ hA sb) ?_
    clear hA
    rintro _ z10007 ⟨B2, rfl, hA2, hb⟩
    refine ⟨_, rfl, ?_⟩
    simp only [Act.put, pu]
    replace sb := sb.trans hb
    clear hb
    refine pw_mv (by rfl) rfl rfl ?_
    simp only [Act.put, pu]
    refine pw_ext (by rfl) rfl rfl rfl ?_
    simp only [Act.put, pu]
    refine pw_ext (by rfl) rfl rfl rfl ?_
    simp only [Act.put, pu]
    refine pw_ext (by rfl) rfl rfl rfl ?_
    simp only [Act.put, pu]
    refine pw_as (by rfl) rfl rfl ?_
    simp only [Act.put, pu]
    refine pw_as (by rfl) rfl rfl ?_
    simp only [Act.put, pu]
    refine pw_as (by rfl) rfl rfl ?_
    simp only [Act.put, pu]
    refine pw_nil ?_
    (repeat ((fail_if_success with_reducible refine rg ?_); go_step))
    refine wp_region_pw ?_
    refine pw_mv (by rfl) rfl rfl ?_
    simp only [Act.put, pu]
    refine pw_value (by rfl) (.bool false) (exec_eql_k .i64 _ _ _ _ rfl (7) (0) rfl rfl false (decide_eq_false (by decide))) ?_
    simp only [Act.put, pu]
    refine pw_mv (by rfl) rfl rfl ?_
    simp only [Act.put, pu]
    refine pw_mv (by rfl) rfl rfl ?_
    simp only [Act.put, pu]
    refine pw_value (by rfl) (.bool false) (exec_lt_b _ _ _ _ rfl ((i : Nat)) ((q : Nat)) rfl rfl false (decide_eq_false (by omega))) ?_
    simp only [Act.put, pu]
    refine pw_value (by rfl) (.bool false) (x_nb _ _ _ _ rfl (false) (false) rfl rfl Try.underlying4 false (rfl)) ?_
    simp only [Act.put, pu]
    refine pw_mv (by rfl) rfl rfl ?_
    simp only [Act.put, pu]
    refine pw_mv (by rfl) rfl rfl ?_
    simp only [Act.put, pu]
    refine pw_mv (by rfl) rfl rfl ?_
    simp only [Act.put, pu]
    refine pw_mv (by rfl) rfl rfl ?_
    simp only [Act.put, pu]
    refine pw_value (by rfl) (.bool false) (exec_lt_b _ _ _ _ rfl ((i : Nat)) ((q : Nat)) rfl rfl false (decide_eq_false (by omega))) ?_
    simp only [Act.put, pu]
    refine pw_value (by rfl) (.bool false) (x_nb _ _ _ _ rfl (false) (false) rfl rfl Try.underlying4 false (rfl)) ?_
    simp only [Act.put, pu]
    refine pw_pick (by rfl) false (v := .bool false) rfl rfl rfl ?_
    simp only [Act.put, pu]
    refine pw_mv (by rfl) rfl rfl ?_
    simp only [Act.put, pu]
    refine pw_mv (by rfl) rfl rfl ?_
    simp only [Act.put, pu]
    refine pw_value (by rfl) (.bool true) (exec_neq_k .i64 _ _ _ _ rfl (7) (0) rfl rfl true (by rw [decide_eq_false (by decide)]; rfl)) ?_
    simp only [Act.put, pu]
    refine pw_mv (by rfl) rfl rfl ?_
    simp only [Act.put, pu]
    refine pw_mv (by rfl) rfl rfl ?_
    simp only [Act.put, pu]
    refine pw_value (by rfl) (.bool false) (exec_neq_k .i64 _ _ _ _ rfl (7) (7) rfl rfl false (by rw [decide_eq_true rfl]; rfl)) ?_
    simp only [Act.put, pu]
    refine pw_pick (by rfl) true (v := .bool false) rfl rfl rfl ?_
    simp only [Act.put, pu]
    refine pw_pick (by rfl) false (v := .bool false) rfl rfl rfl ?_
    simp only [Act.put, pu]
    refine pw_nil ?_
    (repeat ((fail_if_success with_reducible refine rg ?_); go_step))
    refine wp_region_pw ?_
    refine pw_mv (by rfl) rfl rfl ?_
    simp only [Act.put, pu]
    refine pw_value (by rfl) (.int .i64 (((i + 1 : Nat) : Int))) (x_addz _ _ _ _ rfl ((i : Nat)) (1) (((i + 1 : Nat) : Int)) rfl rfl (by omega) (by omega) (by omega)) ?_
    simp only [Act.put, pu]
    refine pw_as (by rfl) rfl rfl ?_
    simp only [Act.put, pu]
    refine pw_nil ?_
    go_wp2
    go_roundg y
    case measure => omega
    case rel => exact ⟨i + 1, _, _, B2, by omega, rfl, hA2, fun t h9 h8 => HN.out t (by omega) h8, by rw [HU.out]; omega, by omega, sb⟩
  | zero =>
   obtain rfl : i = q + 1 := by omega
   have h1 : ¬ ((q + 1 : Nat) : Int) < ((q + 1 : Nat) : Int) := by omega
   have hlq : l.length = q := by omega
   have HUq : Hid (U (E : Nat) = (q : Nat)) := by rw [HU.out]; exact Int.min_eq_right (by omega)
   clear HN HU hi hl
   (repeat ((fail_if_success with_reducible refine rg ?_); go_step))
   refine wp_region_pw ?_
   refine pw_mv (by rfl) rfl rfl ?_
   simp only [Act.put, pu]
   refine pw_mv (by rfl) rfl rfl ?_
   simp only [Act.put, pu]
   refine pw_value (by rfl) (.int .i64 (((q + 1 : Nat) : Int))) (x_addz _ _ _ _ rfl ((q : Nat)) (1) (((q + 1 : Nat) : Int)) rfl rfl (by omega) (by omega) (by omega)) ?_
   simp only [Act.put, pu]
   refine pw_value (by rfl) (.bool false) (exec_lt_b _ _ _ _ rfl (((q + 1 : Nat) : Int)) (((q + 1 : Nat) : Int)) rfl rfl false (decide_eq_false h1)) ?_
   simp only [Act.put, pu]
   refine pw_nil ?_
   (repeat ((fail_if_success with_reducible refine rg ?_); go_step))
   refine wp_region_pw ?_
   refine pw_value (by rfl) (.agg (sxC 0 0 (.slice none 0 0) (.map none))) (exec_buildv _ [] rfl [] rfl _ built_sp0) ?_
   simp only [Act.put, pu]
   refine pw_boxr (by rfl) 57 _ rfl (sxC 0 0 (.slice none 0 0) (.map none)) rfl ?_
   intro g93 z13001 n0 r93 k
   simp only [Act.put, pu]
   have b93 := Nat.le_trans sb.size n0
   clear n0
   replace hA := hA.below k.nil
   replace sb := sb.trans (k.below w.heap.size sb.size (by simp <;> omega))
   clear k
   refine pw_litr (by rfl) 58 26 2 _ rfl #[.pointer none, .pointer (some ⟨g93, 0, none⟩)] ip _ Try.underlying58 hip hip2 q1 q2 [(0, .pointer none), (1, .pointer (some ⟨g93, 0, none⟩))] rfl (ql1 _) ?_
   intro gL z13002 n0 rL k
   simp only [Act.put, pu]
   have d93xL := Nat.lt_of_lt_of_le r93.lt n0
   have bL := Nat.le_trans sb.size n0
   clear n0
   replace hA := hA.below k.nil
   replace r93 := k.row r93 (by simp <;> omega)
   replace sb := sb.trans (k.below w.heap.size sb.size (by simp <;> omega))
   clear k
   refine pw_as (by rfl) rfl rfl ?_
   simp only [Act.put, pu]
   refine pw_nil ?_
   (repeat ((fail_if_success with_reducible refine rg ?_); go_step))
   refine wp_region_pw ?_
   refine pw_value (by rfl) (.int .i64 0) (fun _ => rfl) ?_
   simp only [Act.put, pu]
   refine pw_nil ?_
   clear h1
   go_wp2_with fail
   go_loopg [4, 16, 17, 18, 19, 20, 21] 2 (fun x s4 s16 s17 s18 s19 s20 s21 wr => ∃ j : Nat, j + x = 2 ∧ s16 = .int .i64 j ∧ Row wr gL #[.pointer none, .pointer (some ⟨g93, 0, none⟩)] 26 ∧ Row wr g93 (sxC 0 0 (.slice none 0 0) (.map none)) 57 ∧ SpAt wr w.heap.size g5 (N : Nat) (M : Nat) l U B ∧ Below w.heap.size w wr)
   case atStart => exact ⟨0, by omega, rfl, rL, r93, hA, sb⟩
   case round =>
    clear sb hA rL r93
    obtain ⟨j, hj, rfl, rL, r93, hA, sb⟩ := hrel
    cases gk with
    | zero =>
     obtain rfl : j = 2 := by omega
     have hus := usd_at hA (E : Nat)
     rw [HUq.out] at hus
     have hky := fun w' (h : SpAt w' w.heap.size g5 (N : Nat) (M : Nat) l U B) => keys_at h (by omega)
     rw [hlq] at hky
     (repeat ((fail_if_success with_reducible refine rg ?_); go_step))
     refine wp_region_pw ?_
     refine pw_mv (by rfl) rfl rfl ?_
     simp only [Act.put, pu]
     refine pw_mv (by rfl) rfl rfl ?_
     simp only [Act.put, pu]
     refine pw_value (by rfl) (.int .i64 (2 : Nat)) (exec_len_s 58 _ rfl (some ⟨gL, 0, none⟩) (2) (2) rfl sl_sps) ?_
     simp only [Act.put, pu]
     refine pw_value (by rfl) (.bool false) (exec_lt_b _ _ _ _ rfl ((2 : Nat)) ((2 : Nat)) rfl rfl false (decide_eq_false (by decide))) ?_
     simp only [Act.put, pu]
     refine pw_nil ?_
     (repeat ((fail_if_success with_reducible refine rg ?_); go_step))
     refine wp_region_pw ?_
     refine pw_mv (by rfl) rfl rfl ?_
     simp only [Act.put, pu]
     refine pw_mv (by rfl) rfl rfl ?_
     simp only [Act.put, pu]
     refine pw_callB (by rfl) 14 _ _ rfl Try.func14 (by kernel_rfl) #[.pointer (some ⟨g5, 0, none⟩), .int .i64 (E : Nat)] rfl _ (hus) ?_
     intro z21002 k
     simp only [Act.put, pu]
     replace hA := hA.below k.nil
     replace sb := sb.trans (k.below w.heap.size sb.size (by simp <;> omega))
     clear k
     refine pw_mv (by rfl) rfl rfl ?_
     simp only [Act.put, pu]
     refine pw_value (by rfl) (.bool true) (exec_eql_k .i64 _ _ _ _ rfl ((q : Nat)) ((q : Nat)) rfl rfl true (decide_eq_true rfl)) ?_
     simp only [Act.put, pu]
     refine pw_mv (by rfl) rfl rfl ?_
     simp only [Act.put, pu]
     refine pw_mv (by rfl) rfl rfl ?_
     simp only [Act.put, pu]
     refine pw_callE (by rfl) 19 _ _ rfl Try.func19 (by kernel_rfl) #[.pointer (some ⟨g5, 0, none⟩)] rfl (hky _ hA) ?_
     rintro _ z21007 ⟨aK, cK, gK, csK, rfl, hE9, hb⟩
     refine ⟨_, rfl, ?_⟩
     simp only [Act.put, pu]
     have k := Kept.ofBelow hb
     clear hb
     replace hA := hA.below k.nil
     replace sb := sb.trans (k.below w.heap.size sb.size (by simp <;> omega))
     clear k
     refine pw_value (by rfl) (.int .i64 (q : Nat)) (exec_len_s 30 _ rfl (aK) (q) (cK) rfl sl_strs) ?_
     simp only [Act.put, pu]
     refine pw_mv (by rfl) rfl rfl ?_
     simp only [Act.put, pu]
     refine pw_value (by rfl) (.bool true) (exec_eql_k .i64 _ _ _ _ rfl ((q : Nat)) ((q : Nat)) rfl rfl true (decide_eq_true rfl)) ?_
     simp only [Act.put, pu]
     refine pw_pick (by rfl) true (v := .bool true) rfl rfl rfl ?_
     simp only [Act.put, pu]
     refine pw_mv (by rfl) rfl rfl ?_
     simp only [Act.put, pu]
     refine pw_callB (by rfl) 8 _ _ rfl Try.func8 (by kernel_rfl) #[] rfl _ (awake_any _) ?_
     intro z21013 k
     simp only [Act.put, pu]
     replace hA := hA.below k.nil
     replace hE9 := hE9.below k.nil
     replace sb := sb.trans (k.below w.heap.size sb.size (by simp <;> omega))
     clear k
     refine pw_pick (by rfl) true (v := .bool true) rfl rfl rfl ?_
     simp only [Act.put, pu]
     refine pw_as (by rfl) rfl rfl ?_
     simp only [Act.put, pu]
     refine pw_nil ?_
     go_wp2
     go_ret
     exact ⟨rfl, sb⟩
    | succ y =>
     obtain rfl | rfl : j = 0 ∨ j = 1 := by omega
     ·skip
      (repeat ((fail_if_success with_reducible refine rg ?_); go_step))
      refine wp_region_pw ?_
      refine pw_mv (by rfl) rfl rfl ?_
      simp only [Act.put, pu]
      refine pw_mv (by rfl) rfl rfl ?_
      simp only [Act.put, pu]
      refine pw_value (by rfl) (.int .i64 (2 : Nat)) (exec_len_s 58 _ rfl (some ⟨gL, 0, none⟩) (2) (2) rfl sl_sps) ?_
      simp only [Act.put, pu]
      refine pw_value (by rfl) (.bool true) (exec_lt_b _ _ _ _ rfl ((0 : Nat)) ((2 : Nat)) rfl rfl true (decide_eq_true (by decide))) ?_
      simp only [Act.put, pu]
      refine pw_nil ?_
      (repeat ((fail_if_success with_reducible refine rg ?_); go_step))
      refine wp_region_pw ?_
      refine pw_mv (by rfl) rfl rfl ?_
      simp only [Act.put, pu]
      refine pw_mv (by rfl) rfl rfl ?_
      simp only [Act.put, pu]
      refine pw_value (by rfl) (.pointer (some ⟨gL, 0 + 0 * 1, none⟩)) ((exec_index_s 58 _ _ rfl (gL) (0) (2) (2) rfl (0) rfl (by decide) _ Try.underlying58 1 Try.sizeOf26)) ?_
      simp only [Act.put, pu]
      refine pw_loadk (by rfl) 26 _ rfl _ (0 + 0 * 1) rfl rL.r (.pointer none) rfl Try.isAgg26 ?_
      simp only [Act.put, pu]
      refine pw_callB (by rfl) 11 _ _ rfl Try.func11 (by kernel_rfl) #[.pointer none, .string ⟨#[107]⟩, .int .i64 1] rfl _ (open_nil [107] 1 _) ?_
      intro z17004 k
      simp only [Act.put, pu]
      replace hA := hA.below k.nil
      replace r93 := k.row r93 (by simp <;> omega)
      replace rL := k.row rL (by simp <;> omega)
      replace sb := sb.trans (k.below w.heap.size sb.size (by simp <;> omega))
      clear k
      refine pw_mv (by rfl) rfl rfl ?_
      simp only [Act.put, pu]
      refine pw_ext (by rfl) rfl rfl rfl ?_
      simp only [Act.put, pu]
      refine pw_ext (by rfl) rfl rfl rfl ?_
      simp only [Act.put, pu]
      refine pw_ext (by rfl) rfl rfl rfl ?_
      simp only [Act.put, pu]
      refine pw_as (by rfl) rfl rfl ?_
      simp only [Act.put, pu]
      refine pw_as (by rfl) rfl rfl ?_
      simp only [Act.put, pu]
      refine pw_as (by rfl) rfl rfl ?_
      simp only [Act.put, pu]
      refine pw_nil ?_
      (repeat ((fail_if_success with_reducible refine rg ?_); go_step))
      refine wp_region_pw ?_
      refine pw_mv (by rfl) rfl rfl ?_
      simp only [Act.put, pu]
      refine pw_mv (by rfl) rfl rfl ?_
      simp only [Act.put, pu]
      refine pw_value (by rfl) (.pointer (some ⟨gL, 0 + 0 * 1, none⟩)) ((exec_index_s 58 _ _ rfl (gL) (0) (2) (2) rfl (0) rfl (by decide) _ Try.underlying58 1 Try.sizeOf26)) ?_
      simp only [Act.put, pu]
      refine pw_loadk (by rfl) 26 _ rfl _ (0 + 0 * 1) rfl rL.r (.pointer none) rfl Try.isAgg26 ?_
      simp only [Act.put, pu]
      refine pw_callB (by rfl) 12 _ _ rfl Try.func12 (by kernel_rfl) #[.pointer none, .string ⟨#[107]⟩] rfl _ (find_nil [107] _) ?_
      intro z18004 k
      simp only [Act.put, pu]
      replace hA := hA.below k.nil
      replace r93 := k.row r93 (by simp <;> omega)
      replace rL := k.row rL (by simp <;> omega)
      replace sb := sb.trans (k.below w.heap.size sb.size (by simp <;> omega))
      clear k
      refine pw_mv (by rfl) rfl rfl ?_
      simp only [Act.put, pu]
      refine pw_ext (by rfl) rfl rfl rfl ?_
      simp only [Act.put, pu]
      refine pw_ext (by rfl) rfl rfl rfl ?_
      simp only [Act.put, pu]
      refine pw_as (by rfl) rfl rfl ?_
      simp only [Act.put, pu]
      refine pw_as (by rfl) rfl rfl ?_
      simp only [Act.put, pu]
      refine pw_nil ?_
      (repeat ((fail_if_success with_reducible refine rg ?_); go_step))
      refine wp_region_pw ?_
      refine pw_mv (by rfl) rfl rfl ?_
      simp only [Act.put, pu]
      refine pw_value (by rfl) (.bool false) (exec_neq_k .i64 _ _ _ _ rfl (0) (0) rfl rfl false (by rw [decide_eq_true rfl]; rfl)) ?_
      simp only [Act.put, pu]
      refine pw_mv (by rfl) rfl rfl ?_
      simp only [Act.put, pu]
      refine pw_mv (by rfl) rfl rfl ?_
      simp only [Act.put, pu]
      refine pw_pick (by rfl) false (v := .bool false) rfl rfl rfl ?_
      simp only [Act.put, pu]
      refine pw_mv (by rfl) rfl rfl ?_
      simp only [Act.put, pu]
      refine pw_mv (by rfl) rfl rfl ?_
      simp only [Act.put, pu]
      refine pw_value (by rfl) (.bool false) (exec_neq_k .i64 _ _ _ _ rfl (1) (1) rfl rfl false (by rw [decide_eq_true rfl]; rfl)) ?_
      simp only [Act.put, pu]
      refine pw_pick (by rfl) false (v := .bool false) rfl rfl rfl ?_
      simp only [Act.put, pu]
      refine pw_mv (by rfl) rfl rfl ?_
      simp only [Act.put, pu]
      refine pw_mv (by rfl) rfl rfl ?_
      simp only [Act.put, pu]
      refine pw_value (by rfl) (.bool false) (exec_neq_k .i64 _ _ _ _ rfl (0) (0) rfl rfl false (by rw [decide_eq_true rfl]; rfl)) ?_
      simp only [Act.put, pu]
      refine pw_pick (by rfl) false (v := .bool false) rfl rfl rfl ?_
      simp only [Act.put, pu]
      refine pw_mv (by rfl) rfl rfl ?_
      simp only [Act.put, pu]
      refine pw_mv (by rfl) rfl rfl ?_
      simp only [Act.put, pu]
      refine pw_pick (by rfl) false (v := .bool false) rfl rfl rfl ?_
      simp only [Act.put, pu]
      refine pw_mv (by rfl) rfl rfl ?_
      simp only [Act.put, pu]
      refine pw_mv (by rfl) rfl rfl ?_
      simp only [Act.put, pu]
      refine pw_mv (by rfl) rfl rfl ?_
      simp only [Act.put, pu]
      refine pw_value (by rfl) (.pointer (some ⟨gL, 0 + 0 * 1, none⟩)) ((exec_index_s 58 _ _ rfl (gL) (0) (2) (2) rfl (0) rfl (by decide) _ Try.underlying58 1 Try.sizeOf26)) ?_
      simp only [Act.put, pu]
      refine pw_loadk (by rfl) 26 _ rfl _ (0 + 0 * 1) rfl rL.r (.pointer none) rfl Try.isAgg26 ?_
      simp only [Act.put, pu]
      refine pw_callB (by rfl) 19 _ _ rfl Try.func19 (by kernel_rfl) #[.pointer none] rfl _ (keys_nil _) ?_
      intro z19021 k
      simp only [Act.put, pu]
      replace hA := hA.below k.nil
      replace r93 := k.row r93 (by simp <;> omega)
      replace rL := k.row rL (by simp <;> omega)
      replace sb := sb.trans (k.below w.heap.size sb.size (by simp <;> omega))
      clear k
      refine pw_value (by rfl) (.int .i64 (0 : Nat)) (exec_len_s 30 _ rfl (none) (0) (0) rfl sl_strs) ?_
      simp only [Act.put, pu]
      refine pw_value (by rfl) (.bool false) (exec_gt_i _ _ _ _ rfl ((0 : Nat)) (0) rfl rfl false (decide_eq_false (by decide))) ?_
      simp only [Act.put, pu]
      refine pw_pick (by rfl) false (v := .bool false) rfl rfl rfl ?_
      simp only [Act.put, pu]
      refine pw_mv (by rfl) rfl rfl ?_
      simp only [Act.put, pu]
      refine pw_mv (by rfl) rfl rfl ?_
      simp only [Act.put, pu]
      refine pw_mv (by rfl) rfl rfl ?_
      simp only [Act.put, pu]
      refine pw_value (by rfl) (.pointer (some ⟨gL, 0 + 0 * 1, none⟩)) ((exec_index_s 58 _ _ rfl (gL) (0) (2) (2) rfl (0) rfl (by decide) _ Try.underlying58 1 Try.sizeOf26)) ?_
      simp only [Act.put, pu]
      refine pw_loadk (by rfl) 26 _ rfl _ (0 + 0 * 1) rfl rL.r (.pointer none) rfl Try.isAgg26 ?_
      simp only [Act.put, pu]
      refine pw_callB (by rfl) 14 _ _ rfl Try.func14 (by kernel_rfl) #[.pointer none, .int .i64 1] rfl _ (used_nil 1 _) ?_
      intro z19030 k
      simp only [Act.put, pu]
      replace hA := hA.below k.nil
      replace r93 := k.row r93 (by simp <;> omega)
      replace rL := k.row rL (by simp <;> omega)
      replace sb := sb.trans (k.below w.heap.size sb.size (by simp <;> omega))
      clear k
      refine pw_value (by rfl) (.bool false) (exec_neq_k .i64 _ _ _ _ rfl (0) (0) rfl rfl false (by rw [decide_eq_true rfl]; rfl)) ?_
      simp only [Act.put, pu]
      refine pw_pick (by rfl) false (v := .bool false) rfl rfl rfl ?_
      simp only [Act.put, pu]
      refine pw_mv (by rfl) rfl rfl ?_
      simp only [Act.put, pu]
      refine pw_mv (by rfl) rfl rfl ?_
      simp only [Act.put, pu]
      refine pw_mv (by rfl) rfl rfl ?_
      simp only [Act.put, pu]
      refine pw_value (by rfl) (.pointer (some ⟨gL, 0 + 0 * 1, none⟩)) ((exec_index_s 58 _ _ rfl (gL) (0) (2) (2) rfl (0) rfl (by decide) _ Try.underlying58 1 Try.sizeOf26)) ?_
      simp only [Act.put, pu]
      refine pw_loadk (by rfl) 26 _ rfl _ (0 + 0 * 1) rfl rL.r (.pointer none) rfl Try.isAgg26 ?_
      simp only [Act.put, pu]
      refine pw_callB (by rfl) 16 _ _ rfl Try.func16 (by kernel_rfl) #[.pointer none, .int .i64 1] rfl _ (quo_nil 1 _) ?_
      intro z19038 k
      simp only [Act.put, pu]
      replace hA := hA.below k.nil
      replace r93 := k.row r93 (by simp <;> omega)
      replace rL := k.row rL (by simp <;> omega)
      replace sb := sb.trans (k.below w.heap.size sb.size (by simp <;> omega))
      clear k
      refine pw_value (by rfl) (.bool false) (exec_neq_k .i64 _ _ _ _ rfl (0) (0) rfl rfl false (by rw [decide_eq_true rfl]; rfl)) ?_
      simp only [Act.put, pu]
      refine pw_pick (by rfl) false (v := .bool false) rfl rfl rfl ?_
      simp only [Act.put, pu]
      refine pw_nil ?_
      (repeat ((fail_if_success with_reducible refine rg ?_); go_step))
      refine wp_region_pw ?_
      refine pw_mv (by rfl) rfl rfl ?_
      simp only [Act.put, pu]
      refine pw_value (by rfl) (.int .i64 (((0 + 1 : Nat) : Int))) (x_addz _ _ _ _ rfl ((0 : Nat)) (1) (((0 + 1 : Nat) : Int)) rfl rfl (by omega) (by omega) (by omega)) ?_
      simp only [Act.put, pu]
      refine pw_as (by rfl) rfl rfl ?_
      simp only [Act.put, pu]
      refine pw_nil ?_
      go_wp2
      go_roundg y
      case measure => omega
      case rel => exact ⟨0 + 1, by omega, rfl, rL, r93, hA, sb⟩
     ·skip
      (repeat ((fail_if_success with_reducible refine rg ?_); go_step))
      refine wp_region_pw ?_
      refine pw_mv (by rfl) rfl rfl ?_
      simp only [Act.put, pu]
      refine pw_mv (by rfl) rfl rfl ?_
      simp only [Act.put, pu]
      refine pw_value (by rfl) (.int .i64 (2 : Nat)) (exec_len_s 58 _ rfl (some ⟨gL, 0, none⟩) (2) (2) rfl sl_sps) ?_
      simp only [Act.put, pu]
      refine pw_value (by rfl) (.bool true) (exec_lt_b _ _ _ _ rfl ((1 : Nat)) ((2 : Nat)) rfl rfl true (decide_eq_true (by decide))) ?_
      simp only [Act.put, pu]
      refine pw_nil ?_
      (repeat ((fail_if_success with_reducible refine rg ?_); go_step))
      refine wp_region_pw ?_
      refine pw_mv (by rfl) rfl rfl ?_
      simp only [Act.put, pu]
      refine pw_mv (by rfl) rfl rfl ?_
      simp only [Act.put, pu]
      refine pw_value (by rfl) (.pointer (some ⟨gL, 0 + 1 * 1, none⟩)) ((exec_index_s 58 _ _ rfl (gL) (0) (2) (2) rfl (1) rfl (by decide) _ Try.underlying58 1 Try.sizeOf26)) ?_
      simp only [Act.put, pu]
      refine pw_loadk (by rfl) 26 _ rfl _ (0 + 1 * 1) rfl rL.r (.pointer (some ⟨g93, 0, none⟩)) rfl Try.isAgg26 ?_
      simp only [Act.put, pu]
      refine pw_callB (by rfl) 11 _ _ rfl Try.func11 (by kernel_rfl) #[.pointer (some ⟨g93, 0, none⟩), .string ⟨#[107]⟩, .int .i64 1] rfl _ (open_no g93 0 0 _ _ [107] 1 _ r93 (by decide)) ?_
      intro z17004 k
      simp only [Act.put, pu]
      replace hA := hA.below k.nil
      replace r93 := k.row r93 (by simp <;> omega)
      replace rL := k.row rL (by simp <;> omega)
      replace sb := sb.trans (k.below w.heap.size sb.size (by simp <;> omega))
      clear k
      refine pw_mv (by rfl) rfl rfl ?_
      simp only [Act.put, pu]
      refine pw_ext (by rfl) rfl rfl rfl ?_
      simp only [Act.put, pu]
      refine pw_ext (by rfl) rfl rfl rfl ?_
      simp only [Act.put, pu]
      refine pw_ext (by rfl) rfl rfl rfl ?_
      simp only [Act.put, pu]
      refine pw_as (by rfl) rfl rfl ?_
      simp only [Act.put, pu]
      refine pw_as (by rfl) rfl rfl ?_
      simp only [Act.put, pu]
      refine pw_as (by rfl) rfl rfl ?_
      simp only [Act.put, pu]
      refine pw_nil ?_
      (repeat ((fail_if_success with_reducible refine rg ?_); go_step))
      refine wp_region_pw ?_
      refine pw_mv (by rfl) rfl rfl ?_
      simp only [Act.put, pu]
      refine pw_mv (by rfl) rfl rfl ?_
      simp only [Act.put, pu]
      refine pw_value (by rfl) (.pointer (some ⟨gL, 0 + 1 * 1, none⟩)) ((exec_index_s 58 _ _ rfl (gL) (0) (2) (2) rfl (1) rfl (by decide) _ Try.underlying58 1 Try.sizeOf26)) ?_
      simp only [Act.put, pu]
      refine pw_loadk (by rfl) 26 _ rfl _ (0 + 1 * 1) rfl rL.r (.pointer (some ⟨g93, 0, none⟩)) rfl Try.isAgg26 ?_
      simp only [Act.put, pu]
      refine pw_callB (by rfl) 12 _ _ rfl Try.func12 (by kernel_rfl) #[.pointer (some ⟨g93, 0, none⟩), .string ⟨#[107]⟩] rfl _ (find_no g93 0 0 _ _ [107] _ r93 (by decide)) ?_
      intro z18004 k
      simp only [Act.put, pu]
      replace hA := hA.below k.nil
      replace r93 := k.row r93 (by simp <;> omega)
      replace rL := k.row rL (by simp <;> omega)
      replace sb := sb.trans (k.below w.heap.size sb.size (by simp <;> omega))
      clear k
      refine pw_mv (by rfl) rfl rfl ?_
      simp only [Act.put, pu]
      refine pw_ext (by rfl) rfl rfl rfl ?_
      simp only [Act.put, pu]
      refine pw_ext (by rfl) rfl rfl rfl ?_
      simp only [Act.put, pu]
      refine pw_as (by rfl) rfl rfl ?_
      simp only [Act.put, pu]
      refine pw_as (by rfl) rfl rfl ?_
      simp only [Act.put, pu]
      refine pw_nil ?_
      (repeat ((fail_if_success with_reducible refine rg ?_); go_step))
      refine wp_region_pw ?_
      refine pw_mv (by rfl) rfl rfl ?_
      simp only [Act.put, pu]
      refine pw_value (by rfl) (.bool false) (exec_neq_k .i64 _ _ _ _ rfl (0) (0) rfl rfl false (by rw [decide_eq_true rfl]; rfl)) ?_
      simp only [Act.put, pu]
      refine pw_mv (by rfl) rfl rfl ?_
      simp only [Act.put, pu]
      refine pw_mv (by rfl) rfl rfl ?_
      simp only [Act.put, pu]
      refine pw_pick (by rfl) false (v := .bool false) rfl rfl rfl ?_
      simp only [Act.put, pu]
      refine pw_mv (by rfl) rfl rfl ?_
      simp only [Act.put, pu]
      refine pw_mv (by rfl) rfl rfl ?_
      simp only [Act.put, pu]
      refine pw_value (by rfl) (.bool false) (exec_neq_k .i64 _ _ _ _ rfl (1) (1) rfl rfl false (by rw [decide_eq_true rfl]; rfl)) ?_
      simp only [Act.put, pu]
      refine pw_pick (by rfl) false (v := .bool false) rfl rfl rfl ?_
      simp only [Act.put, pu]
      refine pw_mv (by rfl) rfl rfl ?_
      simp only [Act.put, pu]
      refine pw_mv (by rfl) rfl rfl ?_
      simp only [Act.put, pu]
      refine pw_value (by rfl) (.bool false) (exec_neq_k .i64 _ _ _ _ rfl (0) (0) rfl rfl false (by rw [decide_eq_true rfl]; rfl)) ?_
      simp only [Act.put, pu]
      refine pw_pick (by rfl) false (v := .bool false) rfl rfl rfl ?_
      simp only [Act.put, pu]
      refine pw_mv (by rfl) rfl rfl ?_
      simp only [Act.put, pu]
      refine pw_mv (by rfl) rfl rfl ?_
      simp only [Act.put, pu]
      refine pw_pick (by rfl) false (v := .bool false) rfl rfl rfl ?_
      simp only [Act.put, pu]
      refine pw_mv (by rfl) rfl rfl ?_
      simp only [Act.put, pu]
      refine pw_mv (by rfl) rfl rfl ?_
      simp only [Act.put, pu]
      refine pw_mv (by rfl) rfl rfl ?_
      simp only [Act.put, pu]
      refine pw_value (by rfl) (.pointer (some ⟨gL, 0 + 1 * 1, none⟩)) ((exec_index_s 58 _ _ rfl (gL) (0) (2) (2) rfl (1) rfl (by decide) _ Try.underlying58 1 Try.sizeOf26)) ?_
      simp only [Act.put, pu]
      refine pw_loadk (by rfl) 26 _ rfl _ (0 + 1 * 1) rfl rL.r (.pointer (some ⟨g93, 0, none⟩)) rfl Try.isAgg26 ?_
      simp only [Act.put, pu]
      refine pw_callB (by rfl) 19 _ _ rfl Try.func19 (by kernel_rfl) #[.pointer (some ⟨g93, 0, none⟩)] rfl _ (keys_no g93 0 0 _ _ _ r93 (by decide)) ?_
      intro z19021 k
      simp only [Act.put, pu]
      replace hA := hA.below k.nil
      replace r93 := k.row r93 (by simp <;> omega)
      replace rL := k.row rL (by simp <;> omega)
      replace sb := sb.trans (k.below w.heap.size sb.size (by simp <;> omega))
      clear k
      refine pw_value (by rfl) (.int .i64 (0 : Nat)) (exec_len_s 30 _ rfl (none) (0) (0) rfl sl_strs) ?_
      simp only [Act.put, pu]
      refine pw_value (by rfl) (.bool false) (exec_gt_i _ _ _ _ rfl ((0 : Nat)) (0) rfl rfl false (decide_eq_false (by decide))) ?_
      simp only [Act.put, pu]
      refine pw_pick (by rfl) false (v := .bool false) rfl rfl rfl ?_
      simp only [Act.put, pu]
      refine pw_mv (by rfl) rfl rfl ?_
      simp only [Act.put, pu]
      refine pw_mv (by rfl) rfl rfl ?_
      simp only [Act.put, pu]
      refine pw_mv (by rfl) rfl rfl ?_
      simp only [Act.put, pu]
      refine pw_value (by rfl) (.pointer (some ⟨gL, 0 + 1 * 1, none⟩)) ((exec_index_s 58 _ _ rfl (gL) (0) (2) (2) rfl (1) rfl (by decide) _ Try.underlying58 1 Try.sizeOf26)) ?_
      simp only [Act.put, pu]
      refine pw_loadk (by rfl) 26 _ rfl _ (0 + 1 * 1) rfl rL.r (.pointer (some ⟨g93, 0, none⟩)) rfl Try.isAgg26 ?_
      simp only [Act.put, pu]
      refine pw_callB (by rfl) 14 _ _ rfl Try.func14 (by kernel_rfl) #[.pointer (some ⟨g93, 0, none⟩), .int .i64 1] rfl _ (used_no g93 0 0 _ _ 1 _ r93 (by decide)) ?_
      intro z19030 k
      simp only [Act.put, pu]
      replace hA := hA.below k.nil
      replace r93 := k.row r93 (by simp <;> omega)
      replace rL := k.row rL (by simp <;> omega)
      replace sb := sb.trans (k.below w.heap.size sb.size (by simp <;> omega))
      clear k
      refine pw_value (by rfl) (.bool false) (exec_neq_k .i64 _ _ _ _ rfl (0) (0) rfl rfl false (by rw [decide_eq_true rfl]; rfl)) ?_
      simp only [Act.put, pu]
      refine pw_pick (by rfl) false (v := .bool false) rfl rfl rfl ?_
      simp only [Act.put, pu]
      refine pw_mv (by rfl) rfl rfl ?_
      simp only [Act.put, pu]
      refine pw_mv (by rfl) rfl rfl ?_
      simp only [Act.put, pu]
      refine pw_mv (by rfl) rfl rfl ?_
      simp only [Act.put, pu]
      refine pw_value (by rfl) (.pointer (some ⟨gL, 0 + 1 * 1, none⟩)) ((exec_index_s 58 _ _ rfl (gL) (0) (2) (2) rfl (1) rfl (by decide) _ Try.underlying58 1 Try.sizeOf26)) ?_
      simp only [Act.put, pu]
      refine pw_loadk (by rfl) 26 _ rfl _ (0 + 1 * 1) rfl rL.r (.pointer (some ⟨g93, 0, none⟩)) rfl Try.isAgg26 ?_
      simp only [Act.put, pu]
      refine pw_callB (by rfl) 16 _ _ rfl Try.func16 (by kernel_rfl) #[.pointer (some ⟨g93, 0, none⟩), .int .i64 1] rfl _ (quo_no g93 0 0 _ _ 1 _ r93 (by decide)) ?_
      intro z19038 k
      simp only [Act.put, pu]
      replace hA := hA.below k.nil
      replace r93 := k.row r93 (by simp <;> omega)
      replace rL := k.row rL (by simp <;> omega)
      replace sb := sb.trans (k.below w.heap.size sb.size (by simp <;> omega))
      clear k
      refine pw_value (by rfl) (.bool false) (exec_neq_k .i64 _ _ _ _ rfl (0) (0) rfl rfl false (by rw [decide_eq_true rfl]; rfl)) ?_
      simp only [Act.put, pu]
      refine pw_pick (by rfl) false (v := .bool false) rfl rfl rfl ?_
      simp only [Act.put, pu]
      refine pw_nil ?_
      (repeat ((fail_if_success with_reducible refine rg ?_); go_step))
      refine wp_region_pw ?_
      refine pw_mv (by rfl) rfl rfl ?_
      simp only [Act.put, pu]
      refine pw_value (by rfl) (.int .i64 (((1 + 1 : Nat) : Int))) (x_addz _ _ _ _ rfl ((1 : Nat)) (1) (((1 + 1 : Nat) : Int)) rfl rfl (by omega) (by omega) (by omega)) ?_
      simp only [Act.put, pu]
      refine pw_as (by rfl) rfl rfl ?_
      simp only [Act.put, pu]
      refine pw_nil ?_
      go_wp2
      go_roundg y
      case measure => omega
      case rel => exact ⟨1 + 1, by omega, rfl, rL, r93, hA, sb⟩
set_option maxRecDepth 100000 in
theorem lifted (os : Os) (started : os.Started) (H : Type) (enc : TypeId × Value → H) :
  ReturnsInHanded {} Try.checked os 6 .any (Rows.spaceFullSpec.pre6 enc Try.prog Try.f6 Rows.spaceFullRow.domain false) (Rows.spaceFullSpec.post enc Try.prog Try.f6 false true false false) := by
 refine returnsInHanded_of_change (C := Try.checked) own started (by kernel_rfl) Try.func6
  (ChangeSpec.witness6 (enc := enc) (C := Try.checked) false ⟨#[], #[.agg #[.int .i64 0, .int .i64 0], .int .i64 0], []⟩ 8 (by kernel_rfl) (by kernel_rfl) (by kernel_rfl) (by kernel_rfl)) ?_
 intro W base args ds gs before hval0 hW hcnd _
 have hval : ∀ (j : Nat) t v, Try.f6.params[j]? = some t → args[j]? = some v → Value.okWide Try.prog W .any base t v := hval0
 have hW' := hW
 obtain ⟨p, q, hA0, hV, rfl, hfz, hnd⟩ := hW
 have hA : DataW.TrodAll enc Try.prog W 0 (fun _ => true) true Try.f6.params.toList args.toList ds p := hA0
 rw [Try.params6] at hA hval
 obtain ⟨v0, vs0, d0, ds0, p0, q0, hargs, rfl, rfl, h0, r0⟩ := trodAll_cons hA
 obtain ⟨v1, vs1, d1, ds1, p1, q1, rfl, rfl, rfl, h1, r1⟩ := trodAll_cons r0
 obtain ⟨rfl, rfl, rfl⟩ := trodAll_nil r1
 obtain rfl : args = #[v0, v1] := by cases args; simp_all
 obtain ⟨rfl, rfl⟩ := trodVars_none hV
 have k0 := h0
 have lt0 := lt_of_trod h0
 obtain ⟨x0, y0, rfl, hx0⟩ := open_i2 (hval 0 22 v0 rfl rfl) h0
 have k1 := h1
 have lt1 := lt_of_trod h1
 obtain ⟨a1, rfl, rfl, rfl, w1⟩ := open_int Try.underlying3 (hval 1 3 v1 rfl rfl) h1
 clear hA0 hval0
 refine (walk x0 y0 a1 W hx0 (bounds_i64 w1)).mono fun e W' ⟨he, bel⟩ => ?_
 subst he
 exact ⟨_, rfl, _, _, _, [], _, [], hW', trodAll_mk1 (shut_bool Try.underlying4 _), (trodAll_cons_mk (Below.trod laidOut (by kernel_rfl) (of_decide_eq_true (by kernel_rfl)) k0 bel lt0) (trodAll_cons_mk (Below.trod laidOut (by kernel_rfl) (of_decide_eq_true (by kernel_rfl)) k1 bel lt1) trodAll_mk0)), rfl, bel.frame _, fun h => by cases h⟩
theorem over : Rows.spaceFullRow.holds Try.pinned (OpenSpec.ofChange Rows.spaceFullSpec) :=
 OpenClaim.holds_of_wide 6 Try.f6 rfl rfl rfl rfl rfl rfl rfl ⟨rfl, rfl, rfl, rfl, rfl⟩ rfl rfl rfl rfl rfl (by kernel_rfl) Try.func6 (by kernel_rfl)
  (of_decide_eq_true (by kernel_rfl)) (by unfold Func.isWrapper; first | (rw [if_pos (by decide +kernel)]; kernel_rfl) | (rw [if_neg (by decide +kernel)]; exact ⟨rfl, rfl⟩))
  (fun os started H enc _ => lifted os started H enc)
end spaceFullP
/-- for up to 3 servers and 2 clients and any end: as many keys as its quota are new, one more is refused; a space that nobody made answers nothing and does not fail; no condition. -/
theorem spaceFull_holds : Rows.SpaceFullSaid := spaceFullP.over
end Go.Proofs.Ytchiiphmpkmloaa
