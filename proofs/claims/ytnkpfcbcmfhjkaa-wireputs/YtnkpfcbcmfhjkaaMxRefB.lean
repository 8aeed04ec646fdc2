/- The document's even, Bytes. -/
import Derived.Test.YtnkpfcbcmfhjkaaMA
import Derived.Laws.Concat
namespace Go.Proofs.Ytnkpfcbcmfhjkaa
open Go.RowKit
set_option linter.unusedVariables false
set_option linter.unusedSectionVars false
set_option linter.unusedSimpArgs false
theorem yx_cat {P : Program} {o : Oper} {ρ : Operand → Value} (t : TypeId) (x y : Operand) (u : TypeId) (ho : o.op = .binOp .add t x y u) (a b : List UInt8) (hx : ρ x = .string ⟨a.toArray⟩) (hy : ρ y = .string ⟨b.toArray⟩) (h : a.length + b.length ≤ 9223372036854775807) (w : World) :
  (execOp ρ o).run P w = .ok (.value (.string ⟨(a ++ b).toArray⟩)) w := by
 have hr := run_string_add_sum (P := P) w ⟨a.toArray⟩ ⟨b.toArray⟩ (by simpa [ByteArray.size] using h)
 rw [ByteArray.mk_append_mk] at hr
 unfold execOp
 simp only [ho, hx, hy]
 simp [eqGuard, binOp, hr]
theorem info_u8x : ∃ i, Try.prog.info? 5 = some i ∧ i.zero = some (.int .u8 0) ∧ i.size = 1 := by
 obtain ⟨i, h1, h2, h3, _⟩ := info_u8
 exact ⟨i, h1, h2, h3⟩
theorem lit_y1 (a : Int) (k : Nat) (hk : k = 1) : Instr.fill (fun i => some (i * k, k)) ((Array.range (1 * k)).map ((Value.int .u8 0).cells[· % (Value.int .u8 0).cells.size]!)) [(0, .int .u8 a)] = some #[.int .u8 a] := by
 subst hk
 kernel_rfl
theorem lit_y2 (a b : Int) (k : Nat) (hk : k = 1) : Instr.fill (fun i => some (i * k, k)) ((Array.range (2 * k)).map ((Value.int .u8 0).cells[· % (Value.int .u8 0).cells.size]!)) [(0, .int .u8 a), (1, .int .u8 b)] = some #[.int .u8 a, .int .u8 b] := by
 subst hk
 kernel_rfl
theorem yb_of {x : Nat} (h : x < 256) : (UInt8.ofNat x).toNat = x := by
 rw [UInt8.toNat_ofNat']
 exact Nat.mod_eq_of_lt h
theorem cell_y1 (x : Nat) (h : x < 256) : ∀ j, j < [UInt8.ofNat x].length → (#[.int .u8 (x : Int)] : Array Value)[0 + j]? = some (.int .u8 (yb [UInt8.ofNat x] j : Nat)) := by
 intro j hj
 obtain rfl : j = 0 := by simpa using hj
 show some (Value.int .u8 (x : Int)) = some (.int .u8 ((UInt8.ofNat x).toNat : Nat))
 rw [yb_of h]
theorem cell_y2 (x y : Nat) (h : x < 256) (h' : y < 256) : ∀ j, j < [UInt8.ofNat x, UInt8.ofNat y].length → (#[.int .u8 (x : Int), .int .u8 (y : Int)] : Array Value)[0 + j]? = some (.int .u8 (yb [UInt8.ofNat x, UInt8.ofNat y] j : Nat)) := by
 intro j hj
 have hj2 : j < 2 := hj
 obtain rfl | rfl : j = 0 ∨ j = 1 := by omega
 ·show some (Value.int .u8 (x : Int)) = some (.int .u8 ((UInt8.ofNat x).toNat : Nat))
  rw [yb_of h]
 ·show some (Value.int .u8 (y : Int)) = some (.int .u8 ((UInt8.ofNat y).toNat : Nat))
  rw [yb_of h']
theorem tbB_no {n : Nat} {N : Nat → Nat} {i : Nat} (hi : i < n) (h : N i ≠ N 0 ∨ N i < 1 ∨ 7 < N i) : tbB n N = false := by
 cases hT : tbB n N
 ·rfl
 ·obtain ⟨_, _, h3, h4, h5⟩ := tbB_is hT
  have := h5 i hi
  omega
theorem tbB_end {n : Nat} {N : Nat → Nat} (h : ∀ j, j < n → N j = N 0 ∧ 1 ≤ N j ∧ N j ≤ 7) : tbB n N = (decide ((1 : Int) ≤ n) && decide ((n : Int) ≤ 25)) := by
 unfold tbB ccB
 by_cases h0 : 1 ≤ n
 ·have h1 := h 0 (by omega)
  rw [decide_eq_true (show (1 : Int) ≤ (N 0 : Nat) by omega), decide_eq_true (show ((N 0 : Nat) : Int) ≤ 7 by omega), Bool.and_true, Bool.and_true]
  have : anB (fun k => !decide ((N k : Int) = N 0)) n = false := by
   cases ha : anB (fun k => !decide ((N k : Int) = N 0)) n
   ·rfl
   ·obtain ⟨k, hk, e⟩ := (anB_iff _ n).1 ha
    have := (h k hk).1
    rw [this, decide_eq_true rfl] at e
    cases e
  rw [this, Bool.not_false, Bool.and_true]
 ·rw [decide_eq_false (show ¬ (1 : Int) ≤ n by omega)]
  rfl
set_option maxRecDepth 100000 in
set_option maxHeartbeats 2000000 in
theorem reven_any (ab : Option Addr) (n c : Nat) (S : Nat → Value) (gb ob : Nat) (bcs : Array Value) (tb : TypeId) (N : Nat → Nat) (w : World) (hn : n < 4611686018427387904) (hNn : ∀ i, i < n → N i < 4611686018427387904) (hna : VsAt w ab n S gb ob bcs tb) (hN : ∀ i, i < n → ∃ ai ci, S i = .slice ai (N i) ci) :
  Calls Try.prog 52 #[.slice ab n c] w fun e w' => e = .returned (.bool (tbB n N)) ∧ Below w.heap.size w w' := by
 have HB : Hid (VsAt w ab n S gb ob bcs tb) := hna
 clear hna
 go_enter Try.func52, Try.ntmps52
 have sb := sbmk w
 (repeat ((fail_if_success with_reducible refine rg ?_); go_step))
 refine wp_region_pw ?_
 refine pw_value (by rfl) (.bool false) (fun _ => rfl) ?_
 simp only [Act.put, pu]
 refine pw_nil ?_
 (repeat ((fail_if_success with_reducible refine rg ?_); go_step))
 refine wp_region_pw ?_
 refine pw_value (by rfl) (.int .i64 0) (fun _ => rfl) ?_
 simp only [Act.put, pu]
 refine pw_nil ?_
 go_wp2_with fail
 go_loopg [3] n (fun x s3 wr => ∃ i : Nat, i + x = n ∧ s3 = .int .i64 i ∧ (∀ j, j < i → N j = N 0 ∧ 1 ≤ N j ∧ N j ≤ 7) ∧ Below w.heap.size w wr)
 case atStart => exact ⟨0, by omega, rfl, fun j hj => absurd hj (by omega), sb⟩
 case round =>
  clear sb
  obtain ⟨i, hi, rfl, h8, sb⟩ := hrel
  cases gk with
  | zero =>
   obtain rfl : i = n := by omega
   have HT : Hid (tbB i N = (decide ((1 : Int) ≤ i) && decide ((i : Int) ≤ 25))) := tbB_end h8
   clear hi HB hN h8
   by_cases h1 : 1 ≤ i
   ·obtain ⟨b, hb⟩ : ∃ b, decide ((i : Int) ≤ 25) = b := ⟨_, rfl⟩
    (repeat ((fail_if_success with_reducible refine rg ?_); go_step))
    refine wp_region_pw ?_
    refine pw_mv (by rfl) rfl rfl ?_
    simp only [Act.put, pu]
    refine pw_mv (by rfl) rfl rfl ?_
    simp only [Act.put, pu]
    refine pw_value (by rfl) (.int .i64 i) (exec_len_s 25 _ rfl (ab) (i) (c) rfl sl_mx) ?_
    simp only [Act.put, pu]
    refine pw_value (by rfl) (.bool false) (exec_lt_b _ _ _ _ rfl i i rfl rfl false (decide_eq_false (Int.lt_irrefl _))) ?_
    simp only [Act.put, pu]
    refine pw_nil ?_
    (repeat ((fail_if_success with_reducible refine rg ?_); go_step))
    refine wp_region_pw ?_
    refine pw_mv (by rfl) rfl rfl ?_
    simp only [Act.put, pu]
    refine pw_value (by rfl) (.int .i64 i) (exec_len_s 25 _ rfl (ab) (i) (c) rfl sl_mx) ?_
    simp only [Act.put, pu]
    refine pw_value (by rfl) (.bool true) (exec_geq_i _ _ _ _ rfl ((i : Nat)) (1) rfl rfl true (decide_eq_true (by omega))) ?_
    simp only [Act.put, pu]
    refine pw_mv (by rfl) rfl rfl ?_
    simp only [Act.put, pu]
    refine pw_mv (by rfl) rfl rfl ?_
    simp only [Act.put, pu]
    refine pw_value (by rfl) (.int .i64 i) (exec_len_s 25 _ rfl (ab) (i) (c) rfl sl_mx) ?_
    simp only [Act.put, pu]
    refine pw_value (by rfl) (.bool b) (exec_leq_i _ _ _ _ rfl ((i : Nat)) (25) rfl rfl b hb) ?_
    simp only [Act.put, pu]
    refine pw_pick (by rfl) true (v := .bool b) rfl rfl rfl ?_
    simp only [Act.put, pu]
    refine pw_as (by rfl) rfl rfl ?_
    simp only [Act.put, pu]
    refine pw_nil ?_
    go_wp2
    go_ret
    exact ⟨by rw [HT.out, hb, decide_eq_true (show (1 : Int) ≤ (i : Nat) by omega)]; rfl, sb⟩
   ·skip
    (repeat ((fail_if_success with_reducible refine rg ?_); go_step))
    refine wp_region_pw ?_
    refine pw_mv (by rfl) rfl rfl ?_
    simp only [Act.put, pu]
    refine pw_mv (by rfl) rfl rfl ?_
    simp only [Act.put, pu]
    refine pw_value (by rfl) (.int .i64 i) (exec_len_s 25 _ rfl (ab) (i) (c) rfl sl_mx) ?_
    simp only [Act.put, pu]
    refine pw_value (by rfl) (.bool false) (exec_lt_b _ _ _ _ rfl i i rfl rfl false (decide_eq_false (Int.lt_irrefl _))) ?_
    simp only [Act.put, pu]
    refine pw_nil ?_
    (repeat ((fail_if_success with_reducible refine rg ?_); go_step))
    refine wp_region_pw ?_
    refine pw_mv (by rfl) rfl rfl ?_
    simp only [Act.put, pu]
    refine pw_value (by rfl) (.int .i64 i) (exec_len_s 25 _ rfl (ab) (i) (c) rfl sl_mx) ?_
    simp only [Act.put, pu]
    refine pw_value (by rfl) (.bool false) (exec_geq_i _ _ _ _ rfl ((i : Nat)) (1) rfl rfl false (decide_eq_false (by omega))) ?_
    simp only [Act.put, pu]
    refine pw_mv (by rfl) rfl rfl ?_
    simp only [Act.put, pu]
    refine pw_skip (by rfl) ?_
    simp only [Act.put, pu]
    refine pw_skip (by rfl) ?_
    simp only [Act.put, pu]
    refine pw_skip (by rfl) ?_
    simp only [Act.put, pu]
    refine pw_pick (by rfl) false (v := .bool false) rfl rfl rfl ?_
    simp only [Act.put, pu]
    refine pw_as (by rfl) rfl rfl ?_
    simp only [Act.put, pu]
    refine pw_nil ?_
    go_wp2
    go_ret
    exact ⟨by rw [HT.out, decide_eq_false (show ¬ (1 : Int) ≤ (i : Nat) by omega)]; rfl, sb⟩
  | succ x =>
   have hlt : i < n := by omega
   obtain ⟨ai, ci, ei⟩ := hN i hlt
   obtain ⟨a0, c0, e0⟩ := hN 0 (by omega)
   obtain h0 | ⟨rfl, rB, hbt⟩ := HB.out.at'
   ·exact absurd h0 (by omega)
   have hbi := hbt i hlt
   have hb0 := hbt 0 (by omega)
   rw [ei] at hbi
   rw [e0] at hb0
   have HR : Hid (RowR w gb bcs tb) := rB
   have hni := hNn i hlt
   have hn0 := hNn 0 (by omega)
   clear hbt hN rB ei e0 hNn
   by_cases c1 : N i = N 0
   ·by_cases c2 : N i < 1
    ·have HF : Hid (tbB n N = false) := tbB_no hlt (.inr (.inl c2))
     clear h8
     (repeat ((fail_if_success with_reducible refine rg ?_); go_step))
     refine wp_region_pw ?_
     refine pw_mv (by rfl) rfl rfl ?_
     simp only [Act.put, pu]
     refine pw_mv (by rfl) rfl rfl ?_
     simp only [Act.put, pu]
     refine pw_value (by rfl) (.int .i64 n) (exec_len_s 25 _ rfl (some ⟨gb, ob, none⟩) (n) (c) rfl sl_mx) ?_
     simp only [Act.put, pu]
     refine pw_value (by rfl) (.bool true) (exec_lt_b _ _ _ _ rfl i n rfl rfl true (decide_eq_true (by omega))) ?_
     simp only [Act.put, pu]
     refine pw_nil ?_
     have rB := (HR.out.belowAll sb)
     (repeat ((fail_if_success with_reducible refine rg ?_); go_step))
     refine wp_region_qw (by kernel_rfl) (by kernel_rfl) ?_
     refine qw_move (by rfl) rfl rfl ?_
     simp only [Act.put, pu]
     refine qw_move (by rfl) rfl rfl ?_
     simp only [Act.put, pu]
     refine qw_value (by rfl) (.pointer (some ⟨gb, ob + i * 1, none⟩)) ((exec_index_s 25 _ _ rfl (gb) (ob) (n) (c) rfl (i) rfl (hlt) _ Try.underlying25 1 Try.sizeOf26)) ?_
     simp only [Act.put, pu]
     refine qw_loadcR (by rfl) 26 _ rfl _ (ob + i * 1) rfl rB (.slice ai (N i) ci) hbi Try.isAgg26 ?_
     simp only [Act.put, pu]
     refine qw_value (by rfl) (.int .i64 (N i : Nat)) (exec_len_s 26 _ rfl ai (N i) ci rfl sl_natsX) ?_
     simp only [Act.put, pu]
     refine qw_move (by rfl) rfl rfl ?_
     simp only [Act.put, pu]
     refine qw_value (by rfl) (.pointer (some ⟨gb, ob + 0 * 1, none⟩)) ((exec_index_s 25 _ _ rfl (gb) (ob) (n) (c) rfl (0) rfl (by omega) _ Try.underlying25 1 Try.sizeOf26)) ?_
     simp only [Act.put, pu]
     refine qw_loadcR (by rfl) 26 _ rfl _ (ob + 0 * 1) rfl rB (.slice a0 (N 0) c0) hb0 Try.isAgg26 ?_
     simp only [Act.put, pu]
     refine qw_value (by rfl) (.int .i64 (N 0 : Nat)) (exec_len_s 26 _ rfl a0 (N 0) c0 rfl sl_natsX) ?_
     simp only [Act.put, pu]
     refine qw_value (by rfl) (.bool false) (exec_neq_k .i64 _ _ _ _ rfl (N i : Nat) (N 0 : Nat) rfl rfl false (by rw [decide_eq_true (by omega)]; rfl)) ?_
     simp only [Act.put, pu]
     refine qw_move (by rfl) rfl rfl ?_
     simp only [Act.put, pu]
     refine qw_move (by rfl) rfl rfl ?_
     simp only [Act.put, pu]
     refine qw_move (by rfl) rfl rfl ?_
     simp only [Act.put, pu]
     refine qw_value (by rfl) (.pointer (some ⟨gb, ob + i * 1, none⟩)) ((exec_index_s 25 _ _ rfl (gb) (ob) (n) (c) rfl (i) rfl (hlt) _ Try.underlying25 1 Try.sizeOf26)) ?_
     simp only [Act.put, pu]
     refine qw_loadcR (by rfl) 26 _ rfl _ (ob + i * 1) rfl rB (.slice ai (N i) ci) hbi Try.isAgg26 ?_
     simp only [Act.put, pu]
     refine qw_value (by rfl) (.int .i64 (N i : Nat)) (exec_len_s 26 _ rfl ai (N i) ci rfl sl_natsX) ?_
     simp only [Act.put, pu]
     refine qw_value (by rfl) (.bool true) (exec_lt_b _ _ _ _ rfl (N i : Nat) 1 rfl rfl true (decide_eq_true (by omega))) ?_
     simp only [Act.put, pu]
     refine qw_pick false (v := .bool true) (by rfl) rfl rfl rfl ?_
     simp only [Act.put, pu]
     refine qw_move (by rfl) rfl rfl ?_
     simp only [Act.put, pu]
     refine qw_skip (by rfl) ?_
     simp only [Act.put, pu]
     refine qw_skip (by rfl) ?_
     simp only [Act.put, pu]
     refine qw_skip (by rfl) ?_
     simp only [Act.put, pu]
     refine qw_skip (by rfl) ?_
     simp only [Act.put, pu]
     refine qw_skip (by rfl) ?_
     simp only [Act.put, pu]
     refine qw_skip (by rfl) ?_
     simp only [Act.put, pu]
     refine qw_pick true (v := .bool true) (by rfl) rfl rfl rfl ?_
     simp only [Act.put, pu]
     refine qw_nil ?_
     intro w4 hqb
     replace sb := below_on sb (Nat.le_refl _) hqb
     clear hqb
     (repeat ((fail_if_success with_reducible refine rg ?_); go_step))
     refine wp_region_pw ?_
     refine pw_value (by rfl) (.bool false) (fun _ => rfl) ?_
     simp only [Act.put, pu]
     refine pw_nil ?_
     go_wp2
     go_ret
     exact ⟨by rw [HF.out]; rfl, sb⟩
    ·by_cases c3 : 7 < N i
     ·have HF : Hid (tbB n N = false) := tbB_no hlt (.inr (.inr c3))
      clear h8
      (repeat ((fail_if_success with_reducible refine rg ?_); go_step))
      refine wp_region_pw ?_
      refine pw_mv (by rfl) rfl rfl ?_
      simp only [Act.put, pu]
      refine pw_mv (by rfl) rfl rfl ?_
      simp only [Act.put, pu]
      refine pw_value (by rfl) (.int .i64 n) (exec_len_s 25 _ rfl (some ⟨gb, ob, none⟩) (n) (c) rfl sl_mx) ?_
      simp only [Act.put, pu]
      refine pw_value (by rfl) (.bool true) (exec_lt_b _ _ _ _ rfl i n rfl rfl true (decide_eq_true (by omega))) ?_
      simp only [Act.put, pu]
      refine pw_nil ?_
      have rB := (HR.out.belowAll sb)
      (repeat ((fail_if_success with_reducible refine rg ?_); go_step))
      refine wp_region_qw (by kernel_rfl) (by kernel_rfl) ?_
      refine qw_move (by rfl) rfl rfl ?_
      simp only [Act.put, pu]
      refine qw_move (by rfl) rfl rfl ?_
      simp only [Act.put, pu]
      refine qw_value (by rfl) (.pointer (some ⟨gb, ob + i * 1, none⟩)) ((exec_index_s 25 _ _ rfl (gb) (ob) (n) (c) rfl (i) rfl (hlt) _ Try.underlying25 1 Try.sizeOf26)) ?_
      simp only [Act.put, pu]
      refine qw_loadcR (by rfl) 26 _ rfl _ (ob + i * 1) rfl rB (.slice ai (N i) ci) hbi Try.isAgg26 ?_
      simp only [Act.put, pu]
      refine qw_value (by rfl) (.int .i64 (N i : Nat)) (exec_len_s 26 _ rfl ai (N i) ci rfl sl_natsX) ?_
      simp only [Act.put, pu]
      refine qw_move (by rfl) rfl rfl ?_
      simp only [Act.put, pu]
      refine qw_value (by rfl) (.pointer (some ⟨gb, ob + 0 * 1, none⟩)) ((exec_index_s 25 _ _ rfl (gb) (ob) (n) (c) rfl (0) rfl (by omega) _ Try.underlying25 1 Try.sizeOf26)) ?_
      simp only [Act.put, pu]
      refine qw_loadcR (by rfl) 26 _ rfl _ (ob + 0 * 1) rfl rB (.slice a0 (N 0) c0) hb0 Try.isAgg26 ?_
      simp only [Act.put, pu]
      refine qw_value (by rfl) (.int .i64 (N 0 : Nat)) (exec_len_s 26 _ rfl a0 (N 0) c0 rfl sl_natsX) ?_
      simp only [Act.put, pu]
      refine qw_value (by rfl) (.bool false) (exec_neq_k .i64 _ _ _ _ rfl (N i : Nat) (N 0 : Nat) rfl rfl false (by rw [decide_eq_true (by omega)]; rfl)) ?_
      simp only [Act.put, pu]
      refine qw_move (by rfl) rfl rfl ?_
      simp only [Act.put, pu]
      refine qw_move (by rfl) rfl rfl ?_
      simp only [Act.put, pu]
      refine qw_move (by rfl) rfl rfl ?_
      simp only [Act.put, pu]
      refine qw_value (by rfl) (.pointer (some ⟨gb, ob + i * 1, none⟩)) ((exec_index_s 25 _ _ rfl (gb) (ob) (n) (c) rfl (i) rfl (hlt) _ Try.underlying25 1 Try.sizeOf26)) ?_
      simp only [Act.put, pu]
      refine qw_loadcR (by rfl) 26 _ rfl _ (ob + i * 1) rfl rB (.slice ai (N i) ci) hbi Try.isAgg26 ?_
      simp only [Act.put, pu]
      refine qw_value (by rfl) (.int .i64 (N i : Nat)) (exec_len_s 26 _ rfl ai (N i) ci rfl sl_natsX) ?_
      simp only [Act.put, pu]
      refine qw_value (by rfl) (.bool false) (exec_lt_b _ _ _ _ rfl (N i : Nat) 1 rfl rfl false (decide_eq_false (by omega))) ?_
      simp only [Act.put, pu]
      refine qw_pick false (v := .bool false) (by rfl) rfl rfl rfl ?_
      simp only [Act.put, pu]
      refine qw_move (by rfl) rfl rfl ?_
      simp only [Act.put, pu]
      refine qw_move (by rfl) rfl rfl ?_
      simp only [Act.put, pu]
      refine qw_move (by rfl) rfl rfl ?_
      simp only [Act.put, pu]
      refine qw_value (by rfl) (.pointer (some ⟨gb, ob + i * 1, none⟩)) ((exec_index_s 25 _ _ rfl (gb) (ob) (n) (c) rfl (i) rfl (hlt) _ Try.underlying25 1 Try.sizeOf26)) ?_
      simp only [Act.put, pu]
      refine qw_loadcR (by rfl) 26 _ rfl _ (ob + i * 1) rfl rB (.slice ai (N i) ci) hbi Try.isAgg26 ?_
      simp only [Act.put, pu]
      refine qw_value (by rfl) (.int .i64 (N i : Nat)) (exec_len_s 26 _ rfl ai (N i) ci rfl sl_natsX) ?_
      simp only [Act.put, pu]
      refine qw_value (by rfl) (.bool true) (exec_gt_i _ _ _ _ rfl (N i : Nat) 7 rfl rfl true (decide_eq_true (by omega))) ?_
      simp only [Act.put, pu]
      refine qw_pick false (v := .bool true) (by rfl) rfl rfl rfl ?_
      simp only [Act.put, pu]
      refine qw_nil ?_
      intro w4 hqb
      replace sb := below_on sb (Nat.le_refl _) hqb
      clear hqb
      (repeat ((fail_if_success with_reducible refine rg ?_); go_step))
      refine wp_region_pw ?_
      refine pw_value (by rfl) (.bool false) (fun _ => rfl) ?_
      simp only [Act.put, pu]
      refine pw_nil ?_
      go_wp2
      go_ret
      exact ⟨by rw [HF.out]; rfl, sb⟩
     ·have HX : Hid (∀ j, j < i + 1 → N j = N 0 ∧ 1 ≤ N j ∧ N j ≤ 7) := fun j hj => by
       by_cases e : j = i
       ·rw [e]; omega
       ·exact h8 j (by omega)
      clear h8
      (repeat ((fail_if_success with_reducible refine rg ?_); go_step))
      refine wp_region_pw ?_
      refine pw_mv (by rfl) rfl rfl ?_
      simp only [Act.put, pu]
      refine pw_mv (by rfl) rfl rfl ?_
      simp only [Act.put, pu]
      refine pw_value (by rfl) (.int .i64 n) (exec_len_s 25 _ rfl (some ⟨gb, ob, none⟩) (n) (c) rfl sl_mx) ?_
      simp only [Act.put, pu]
      refine pw_value (by rfl) (.bool true) (exec_lt_b _ _ _ _ rfl i n rfl rfl true (decide_eq_true (by omega))) ?_
      simp only [Act.put, pu]
      refine pw_nil ?_
      have rB := (HR.out.belowAll sb)
      (repeat ((fail_if_success with_reducible refine rg ?_); go_step))
      refine wp_region_qw (by kernel_rfl) (by kernel_rfl) ?_
      refine qw_move (by rfl) rfl rfl ?_
      simp only [Act.put, pu]
      refine qw_move (by rfl) rfl rfl ?_
      simp only [Act.put, pu]
      refine qw_value (by rfl) (.pointer (some ⟨gb, ob + i * 1, none⟩)) ((exec_index_s 25 _ _ rfl (gb) (ob) (n) (c) rfl (i) rfl (hlt) _ Try.underlying25 1 Try.sizeOf26)) ?_
      simp only [Act.put, pu]
      refine qw_loadcR (by rfl) 26 _ rfl _ (ob + i * 1) rfl rB (.slice ai (N i) ci) hbi Try.isAgg26 ?_
      simp only [Act.put, pu]
      refine qw_value (by rfl) (.int .i64 (N i : Nat)) (exec_len_s 26 _ rfl ai (N i) ci rfl sl_natsX) ?_
      simp only [Act.put, pu]
      refine qw_move (by rfl) rfl rfl ?_
      simp only [Act.put, pu]
      refine qw_value (by rfl) (.pointer (some ⟨gb, ob + 0 * 1, none⟩)) ((exec_index_s 25 _ _ rfl (gb) (ob) (n) (c) rfl (0) rfl (by omega) _ Try.underlying25 1 Try.sizeOf26)) ?_
      simp only [Act.put, pu]
      refine qw_loadcR (by rfl) 26 _ rfl _ (ob + 0 * 1) rfl rB (.slice a0 (N 0) c0) hb0 Try.isAgg26 ?_
      simp only [Act.put, pu]
      refine qw_value (by rfl) (.int .i64 (N 0 : Nat)) (exec_len_s 26 _ rfl a0 (N 0) c0 rfl sl_natsX) ?_
      simp only [Act.put, pu]
      refine qw_value (by rfl) (.bool false) (exec_neq_k .i64 _ _ _ _ rfl (N i : Nat) (N 0 : Nat) rfl rfl false (by rw [decide_eq_true (by omega)]; rfl)) ?_
      simp only [Act.put, pu]
      refine qw_move (by rfl) rfl rfl ?_
      simp only [Act.put, pu]
      refine qw_move (by rfl) rfl rfl ?_
      simp only [Act.put, pu]
      refine qw_move (by rfl) rfl rfl ?_
      simp only [Act.put, pu]
      refine qw_value (by rfl) (.pointer (some ⟨gb, ob + i * 1, none⟩)) ((exec_index_s 25 _ _ rfl (gb) (ob) (n) (c) rfl (i) rfl (hlt) _ Try.underlying25 1 Try.sizeOf26)) ?_
      simp only [Act.put, pu]
      refine qw_loadcR (by rfl) 26 _ rfl _ (ob + i * 1) rfl rB (.slice ai (N i) ci) hbi Try.isAgg26 ?_
      simp only [Act.put, pu]
      refine qw_value (by rfl) (.int .i64 (N i : Nat)) (exec_len_s 26 _ rfl ai (N i) ci rfl sl_natsX) ?_
      simp only [Act.put, pu]
      refine qw_value (by rfl) (.bool false) (exec_lt_b _ _ _ _ rfl (N i : Nat) 1 rfl rfl false (decide_eq_false (by omega))) ?_
      simp only [Act.put, pu]
      refine qw_pick false (v := .bool false) (by rfl) rfl rfl rfl ?_
      simp only [Act.put, pu]
      refine qw_move (by rfl) rfl rfl ?_
      simp only [Act.put, pu]
      refine qw_move (by rfl) rfl rfl ?_
      simp only [Act.put, pu]
      refine qw_move (by rfl) rfl rfl ?_
      simp only [Act.put, pu]
      refine qw_value (by rfl) (.pointer (some ⟨gb, ob + i * 1, none⟩)) ((exec_index_s 25 _ _ rfl (gb) (ob) (n) (c) rfl (i) rfl (hlt) _ Try.underlying25 1 Try.sizeOf26)) ?_
      simp only [Act.put, pu]
      refine qw_loadcR (by rfl) 26 _ rfl _ (ob + i * 1) rfl rB (.slice ai (N i) ci) hbi Try.isAgg26 ?_
      simp only [Act.put, pu]
      refine qw_value (by rfl) (.int .i64 (N i : Nat)) (exec_len_s 26 _ rfl ai (N i) ci rfl sl_natsX) ?_
      simp only [Act.put, pu]
      refine qw_value (by rfl) (.bool false) (exec_gt_i _ _ _ _ rfl (N i : Nat) 7 rfl rfl false (decide_eq_false (by omega))) ?_
      simp only [Act.put, pu]
      refine qw_pick false (v := .bool false) (by rfl) rfl rfl rfl ?_
      simp only [Act.put, pu]
      refine qw_nil ?_
      intro w4 hqb
      replace sb := below_on sb (Nat.le_refl _) hqb
      clear hqb
      (repeat ((fail_if_success with_reducible refine rg ?_); go_step))
      refine wp_region_pw ?_
      refine pw_mv (by rfl) rfl rfl ?_
      simp only [Act.put, pu]
      refine pw_value (by rfl) (.int .i64 ((i + 1 : Nat) : Int)) (exec_add_in _ _ _ _ rfl i 1 rfl rfl (by omega)) ?_
      simp only [Act.put, pu]
      refine pw_as (by rfl) rfl rfl ?_
      simp only [Act.put, pu]
      refine pw_nil ?_
      go_wp2
      go_roundg x
      case measure => omega
      case rel => exact ⟨i + 1, by omega, rfl, HX.out, sb⟩
   ·have HF : Hid (tbB n N = false) := tbB_no hlt (.inl c1)
    clear h8
    (repeat ((fail_if_success with_reducible refine rg ?_); go_step))
    refine wp_region_pw ?_
    refine pw_mv (by rfl) rfl rfl ?_
    simp only [Act.put, pu]
    refine pw_mv (by rfl) rfl rfl ?_
    simp only [Act.put, pu]
    refine pw_value (by rfl) (.int .i64 n) (exec_len_s 25 _ rfl (some ⟨gb, ob, none⟩) (n) (c) rfl sl_mx) ?_
    simp only [Act.put, pu]
    refine pw_value (by rfl) (.bool true) (exec_lt_b _ _ _ _ rfl i n rfl rfl true (decide_eq_true (by omega))) ?_
    simp only [Act.put, pu]
    refine pw_nil ?_
    have rB := (HR.out.belowAll sb)
    (repeat ((fail_if_success with_reducible refine rg ?_); go_step))
    refine wp_region_qw (by kernel_rfl) (by kernel_rfl) ?_
    refine qw_move (by rfl) rfl rfl ?_
    simp only [Act.put, pu]
    refine qw_move (by rfl) rfl rfl ?_
    simp only [Act.put, pu]
    refine qw_value (by rfl) (.pointer (some ⟨gb, ob + i * 1, none⟩)) ((exec_index_s 25 _ _ rfl (gb) (ob) (n) (c) rfl (i) rfl (hlt) _ Try.underlying25 1 Try.sizeOf26)) ?_
    simp only [Act.put, pu]
    refine qw_loadcR (by rfl) 26 _ rfl _ (ob + i * 1) rfl rB (.slice ai (N i) ci) hbi Try.isAgg26 ?_
    simp only [Act.put, pu]
    refine qw_value (by rfl) (.int .i64 (N i : Nat)) (exec_len_s 26 _ rfl ai (N i) ci rfl sl_natsX) ?_
    simp only [Act.put, pu]
    refine qw_move (by rfl) rfl rfl ?_
    simp only [Act.put, pu]
    refine qw_value (by rfl) (.pointer (some ⟨gb, ob + 0 * 1, none⟩)) ((exec_index_s 25 _ _ rfl (gb) (ob) (n) (c) rfl (0) rfl (by omega) _ Try.underlying25 1 Try.sizeOf26)) ?_
    simp only [Act.put, pu]
    refine qw_loadcR (by rfl) 26 _ rfl _ (ob + 0 * 1) rfl rB (.slice a0 (N 0) c0) hb0 Try.isAgg26 ?_
    simp only [Act.put, pu]
    refine qw_value (by rfl) (.int .i64 (N 0 : Nat)) (exec_len_s 26 _ rfl a0 (N 0) c0 rfl sl_natsX) ?_
    simp only [Act.put, pu]
    refine qw_value (by rfl) (.bool true) (exec_neq_k .i64 _ _ _ _ rfl (N i : Nat) (N 0 : Nat) rfl rfl true (by rw [decide_eq_false (by omega)]; rfl)) ?_
    simp only [Act.put, pu]
    refine qw_move (by rfl) rfl rfl ?_
    simp only [Act.put, pu]
    refine qw_skip (by rfl) ?_
    simp only [Act.put, pu]
    refine qw_skip (by rfl) ?_
    simp only [Act.put, pu]
    refine qw_skip (by rfl) ?_
    simp only [Act.put, pu]
    refine qw_skip (by rfl) ?_
    simp only [Act.put, pu]
    refine qw_skip (by rfl) ?_
    simp only [Act.put, pu]
    refine qw_skip (by rfl) ?_
    simp only [Act.put, pu]
    refine qw_pick true (v := .bool true) (by rfl) rfl rfl rfl ?_
    simp only [Act.put, pu]
    refine qw_move (by rfl) rfl rfl ?_
    simp only [Act.put, pu]
    refine qw_skip (by rfl) ?_
    simp only [Act.put, pu]
    refine qw_skip (by rfl) ?_
    simp only [Act.put, pu]
    refine qw_skip (by rfl) ?_
    simp only [Act.put, pu]
    refine qw_skip (by rfl) ?_
    simp only [Act.put, pu]
    refine qw_skip (by rfl) ?_
    simp only [Act.put, pu]
    refine qw_skip (by rfl) ?_
    simp only [Act.put, pu]
    refine qw_pick true (v := .bool true) (by rfl) rfl rfl rfl ?_
    simp only [Act.put, pu]
    refine qw_nil ?_
    intro w4 hqb
    replace sb := below_on sb (Nat.le_refl _) hqb
    clear hqb
    (repeat ((fail_if_success with_reducible refine rg ?_); go_step))
    refine wp_region_pw ?_
    refine pw_value (by rfl) (.bool false) (fun _ => rfl) ?_
    simp only [Act.put, pu]
    refine pw_nil ?_
    go_wp2
    go_ret
    exact ⟨by rw [HF.out]; rfl, sb⟩
set_option maxRecDepth 100000 in
set_option maxHeartbeats 2000000 in
theorem rxby_any (ab : Option Addr) (n c : Nat) (S : Nat → Value) (gb ob : Nat) (bcs : Array Value) (tb : TypeId) (N : Nat → Nat) (M : Nat → Nat → Nat) (w : World) (hn : n < 4611686018427387904) (hNn : ∀ i, i < n → N i < 4611686018427387904) (hna : VsAt w ab n S gb ob bcs tb) (hS : ∀ i, i < n → NrAt w (S i) (N i) (M i)) :
  Calls Try.prog 25 #[.slice ab n c] w fun e w' => e = .returned (.string ⟨(xmB n N M).toArray⟩) ∧ Below w.heap.size w w' := by
 have htb := fun w' (hb : Below w.heap.size w w') => reven_any ab n c S gb ob bcs tb N w' hn hNn (hna.below hb) (fun i hi => by
  obtain ⟨ai, ci, _, _, _, _, e, _⟩ := hS i hi
  exact ⟨ai, ci, e⟩)
 cases hT : tbB n N
 ·rw [hT] at htb
  rw [show xmB n N M = [] by unfold xmB; rw [if_neg (by rw [hT]; decide)]]
  clear hS hna hNn
  go_enter Try.func25, Try.ntmps25
  have sb := sbmk w
  (repeat ((fail_if_success with_reducible refine rg ?_); go_step))
  refine wp_region_pw ?_
  refine pw_move (by rfl) (.inr rfl) rfl ?_
  simp only [Act.put, pu]
  refine pw_nil ?_
  (repeat ((fail_if_success with_reducible refine rg ?_); go_step))
  refine wp_region_pw ?_
  refine pw_mv (by rfl) rfl rfl ?_
  simp only [Act.put, pu]
  refine pw_callB (by rfl) 52 _ _ rfl Try.func52 (by kernel_rfl) #[.slice ab n c] rfl _ (htb _ sb) ?_
  intro z1001 k
  simp only [Act.put, pu]
  replace sb := sb.trans (k.below w.heap.size sb.size (by simp <;> omega))
  clear k
  refine pw_value (by rfl) (.bool true) (exec_not _ _ rfl false rfl) ?_
  simp only [Act.put, pu]
  refine pw_nil ?_
  (repeat ((fail_if_success with_reducible refine rg ?_); go_step))
  refine wp_region_pw ?_
  refine pw_move (by rfl) (.inr rfl) rfl ?_
  simp only [Act.put, pu]
  refine pw_nil ?_
  go_wp2
  go_ret
  exact ⟨rfl, sb⟩
 rw [hT] at htb
 obtain ⟨n1, n2, k1, k2, hNk⟩ := tbB_is hT
 have HE : Hid (xmB n N M = xmL n (N 0) (fun t => M (t / N 0) (t % N 0))) := by
  show _ = _
  unfold xmB
  rw [if_pos hT]
 have HS : Hid (∀ i, i < n → ∃ ai ci gi oi ics ti, S i = .slice ai (N 0) ci ∧ NatsAt w ai (N 0) (M i) gi oi ics ti) := fun i hi => by
  obtain ⟨ai, ci, gi, oi, ics, ti, e, h⟩ := hS i hi
  rw [hNk i hi] at e h
  exact ⟨ai, ci, gi, oi, ics, ti, e, h⟩
 obtain ⟨k, hk⟩ : ∃ k, N 0 = k := ⟨_, rfl⟩
 rw [hk] at HE HS k1 k2
 obtain ⟨G, hG⟩ : ∃ G : Nat → Nat, G = fun t => M (t / k) (t % k) := ⟨_, rfl⟩
 have HG : Hid (∀ i j, j < k → M i j = G (i * k + j)) := fun i j hj => by
  rw [hG]
  show _ = M _ _
  rw [ix_div i hj, ix_mod i hj]
 have HGl : Hid (∀ t, t < n * k → G t < 2 ^ 256) := fun t ht => by
  rw [hG]
  have h1 : t / k < n := Nat.div_lt_of_lt_mul (by rw [Nat.mul_comm]; exact ht)
  obtain ⟨ai, ci, gi, oi, ics, ti, e, h⟩ := HS.out _ h1
  exact h.lt _ (Nat.mod_lt _ (by omega))
 rw [← hG] at HE
 have HB : Hid (VsAt w ab n S gb ob bcs tb) := hna
 clear hS hna hG hNk hk hT
 have hnk : n * k ≤ 25 * 7 := Nat.mul_le_mul n2 k2
 have HL : Hid (∀ t, t ≤ n * k → (UInt8.ofNat n :: UInt8.ofNat k :: xmT G (t)).length + 64 ≤ 100000) := fun t ht => by
  show (xmT G t).length + 1 + 1 + 64 ≤ 100000
  have := xmT_length (G := G) (t := t) (fun i hi => HGl.out i (by omega))
  omega
 obtain ⟨ie, hie, hze, hsz⟩ := info_u8x
 have hs1 : ¬ 1 * ie.size > 2 ^ 24 := by rw [hsz]; decide
 have hs2 : ¬ 1 * ie.size = 0 := by rw [hsz]; decide
 have hs3 : ¬ 2 * ie.size > 2 ^ 24 := by rw [hsz]; decide
 have hs4 : ¬ 2 * ie.size = 0 := by rw [hsz]; decide
 have hl1 := fun a => lit_y1 a ie.size hsz
 have hl2 := fun a b => lit_y2 a b ie.size hsz
 clear hsz hNn
 obtain ⟨a0, c0, g0, o0, ics0, t0, e0, h0⟩ := HS.out 0 (by omega)
 obtain hx | ⟨rfl, rB, hbt⟩ := HB.out.at'
 ·exact absurd hx (by omega)
 have hb0 := hbt 0 (by omega)
 rw [e0] at hb0
 have HR : Hid (RowR w gb bcs tb) := rB
 have HBt : Hid (∀ i, i < n → bcs[ob + i * 1]? = some (S i)) := hbt
 clear hbt e0 h0 rB HB
 go_enter Try.func25, Try.ntmps25
 have sb := sbmk w
 (repeat ((fail_if_success with_reducible refine rg ?_); go_step))
 refine wp_region_pw ?_
 refine pw_move (by rfl) (.inr rfl) rfl ?_
 simp only [Act.put, pu]
 refine pw_nil ?_
 (repeat ((fail_if_success with_reducible refine rg ?_); go_step))
 refine wp_region_pw ?_
 refine pw_mv (by rfl) rfl rfl ?_
 simp only [Act.put, pu]
 refine pw_callB (by rfl) 52 _ _ rfl Try.func52 (by kernel_rfl) #[.slice (some ⟨gb, ob, none⟩) n c] rfl _ (htb _ sb) ?_
 intro z1001 k
 simp only [Act.put, pu]
 replace sb := sb.trans (k.below w.heap.size sb.size (by simp <;> omega))
 clear k
 refine pw_value (by rfl) (.bool false) (exec_not _ _ rfl true rfl) ?_
 simp only [Act.put, pu]
 refine pw_nil ?_
 clear htb
 have rB := HR.out.belowAll sb
 (repeat ((fail_if_success with_reducible refine rg ?_); go_step))
 refine wp_region_pw ?_
 refine pw_mv (by rfl) rfl rfl ?_
 simp only [Act.put, pu]
 refine pw_value (by rfl) (.int .i64 n) (exec_len_s 25 _ rfl (some ⟨gb, ob, none⟩) (n) (c) rfl sl_mx) ?_
 simp only [Act.put, pu]
 refine pw_value (by rfl) (.int .u8 (n : Nat)) (y_conv _ _ _ rfl .i64 .u8 Try.underlying3 Try.underlying5 (n : Nat) _ rfl (wr8 _ (by omega))) ?_
 simp only [Act.put, pu]
 refine pw_mv (by rfl) rfl rfl ?_
 simp only [Act.put, pu]
 refine pw_value (by rfl) (.pointer (some ⟨gb, ob + 0 * 1, none⟩)) ((exec_index_s 25 _ _ rfl (gb) (ob) (n) (c) rfl (0) rfl (by omega) _ Try.underlying25 1 Try.sizeOf26)) ?_
 simp only [Act.put, pu]
 refine pw_loadk (by rfl) 26 _ rfl _ (ob + 0 * 1) rfl rB (.slice a0 k c0) hb0 Try.isAgg26 ?_
 simp only [Act.put, pu]
 refine pw_value (by rfl) (.int .i64 k) (exec_len_s 26 _ rfl (a0) (k) (c0) rfl sl_natsX) ?_
 simp only [Act.put, pu]
 refine pw_value (by rfl) (.int .u8 (k : Nat)) (y_conv _ _ _ rfl .i64 .u8 Try.underlying3 Try.underlying5 (k : Nat) _ rfl (wr8 _ (by omega))) ?_
 simp only [Act.put, pu]
 refine pw_litr (by rfl) 72 5 2 _ rfl #[.int .u8 (n : Nat), .int .u8 (k : Nat)] ie _ Try.underlying72 hie hze hs3 hs4 [(0, .int .u8 (n : Nat)), (1, .int .u8 (k : Nat))] rfl (hl2 _ _) ?_
 intro gB z3008 n0 rX k
 simp only [Act.put, pu]
 have bB := Nat.le_trans sb.size n0
 clear n0
 replace sb := sb.trans (k.below w.heap.size sb.size (by simp <;> omega))
 clear k
 refine pw_run (by rfl) (.string ⟨([UInt8.ofNat n, UInt8.ofNat k]).toArray⟩) _ (y_str _ rfl gB 0 2 2 [UInt8.ofNat n, UInt8.ofNat k] rfl rfl _ rX.r (cell_y2 _ _ (by omega) (by omega))) ?_
 simp only [Act.put, pu]
 refine pw_as (by rfl) rfl rfl ?_
 simp only [Act.put, pu]
 refine pw_nil ?_
 clear rX rB
 (repeat ((fail_if_success with_reducible refine rg ?_); go_step))
 refine wp_region_pw ?_
 refine pw_value (by rfl) (.int .i64 0) (fun _ => rfl) ?_
 simp only [Act.put, pu]
 refine pw_nil ?_
 go_wp2_with fail
 go_loopg [3, 4, 5, 6] n (fun x s3 s4 s5 s6 wr => ∃ i : Nat, i + x = n ∧ s4 = .int .i64 i ∧ s3 = .string ⟨((UInt8.ofNat n :: UInt8.ofNat k :: xmT G (i * k))).toArray⟩ ∧ Below w.heap.size w wr)
 case atStart => exact ⟨0, by omega, rfl, by rw [Nat.zero_mul]; rfl, sb⟩
 case round =>
  clear sb
  obtain ⟨i, hi, rfl, rfl, sb⟩ := hrel
  cases gk with
  | zero =>
   obtain rfl : i = n := by omega
   clear hi HG HGl HL HS HBt
   (repeat ((fail_if_success with_reducible refine rg ?_); go_step))
   refine wp_region_pw ?_
   refine pw_mv (by rfl) rfl rfl ?_
   simp only [Act.put, pu]
   refine pw_mv (by rfl) rfl rfl ?_
   simp only [Act.put, pu]
   refine pw_value (by rfl) (.int .i64 i) (exec_len_s 25 _ rfl (some ⟨gb, ob, none⟩) (i) (c) rfl sl_mx) ?_
   simp only [Act.put, pu]
   refine pw_value (by rfl) (.bool false) (exec_lt_b _ _ _ _ rfl i i rfl rfl false (decide_eq_false (Int.lt_irrefl _))) ?_
   simp only [Act.put, pu]
   refine pw_nil ?_
   (repeat ((fail_if_success with_reducible refine rg ?_); go_step))
   refine wp_region_pw ?_
   refine pw_mv (by rfl) rfl rfl ?_
   simp only [Act.put, pu]
   refine pw_as (by rfl) rfl rfl ?_
   simp only [Act.put, pu]
   refine pw_nil ?_
   go_wp2
   go_ret
   exact ⟨by rw [HE.out]; rfl, sb⟩
  | succ x =>
   have hlt : i < n := by omega
   obtain ⟨ai, ci, gi, oi, ics, ti, ei, hi'⟩ := HS.out i hlt
   have hbi := HBt.out i hlt
   rw [ei] at hbi
   obtain hx | ⟨rfl, _, _⟩ := hi'.at'
   ·exact absurd hx (by omega)
   have HI : Hid (NatsAt w (some ⟨gi, oi, none⟩) k (M i) gi oi ics ti) := hi'
   clear ei hi'
   (repeat ((fail_if_success with_reducible refine rg ?_); go_step))
   refine wp_region_pw ?_
   refine pw_mv (by rfl) rfl rfl ?_
   simp only [Act.put, pu]
   refine pw_mv (by rfl) rfl rfl ?_
   simp only [Act.put, pu]
   refine pw_value (by rfl) (.int .i64 n) (exec_len_s 25 _ rfl (some ⟨gb, ob, none⟩) (n) (c) rfl sl_mx) ?_
   simp only [Act.put, pu]
   refine pw_value (by rfl) (.bool true) (exec_lt_b _ _ _ _ rfl i n rfl rfl true (decide_eq_true (by omega))) ?_
   simp only [Act.put, pu]
   refine pw_nil ?_
   (repeat ((fail_if_success with_reducible refine rg ?_); go_step))
   refine wp_region_pw ?_
   refine pw_value (by rfl) (.int .i64 0) (fun _ => rfl) ?_
   simp only [Act.put, pu]
   refine pw_nil ?_
   go_wp2_with fail
   go_loopg [3, 5, 6] k (fun y s3 s5 s6 wr => ∃ j : Nat, j + y = k ∧ s5 = .int .i64 j ∧ s3 = .string ⟨((UInt8.ofNat n :: UInt8.ofNat k :: xmT G (i * k + j))).toArray⟩ ∧ Below w.heap.size w wr)
   case atStart => exact ⟨0, by omega, rfl, rfl, sb⟩
   case round =>
    clear sb
    obtain ⟨j, hj, rfl, rfl, sb⟩ := hrel
    have rB := HR.out.belowAll sb
    cases gk with
    | zero =>
     obtain rfl : j = k := by omega
     rw [← Nat.succ_mul]
     clear hj
     (repeat ((fail_if_success with_reducible refine rg ?_); go_step))
     refine wp_region_pw ?_
     refine pw_mv (by rfl) rfl rfl ?_
     simp only [Act.put, pu]
     refine pw_mv (by rfl) rfl rfl ?_
     simp only [Act.put, pu]
     refine pw_mv (by rfl) rfl rfl ?_
     simp only [Act.put, pu]
     refine pw_value (by rfl) (.pointer (some ⟨gb, ob + i * 1, none⟩)) ((exec_index_s 25 _ _ rfl (gb) (ob) (n) (c) rfl (i) rfl (hlt) _ Try.underlying25 1 Try.sizeOf26)) ?_
     simp only [Act.put, pu]
     refine pw_loadk (by rfl) 26 _ rfl _ (ob + i * 1) rfl rB (.slice (some ⟨gi, oi, none⟩) j ci) hbi Try.isAgg26 ?_
     simp only [Act.put, pu]
     refine pw_value (by rfl) (.int .i64 j) (exec_len_s 26 _ rfl (some ⟨gi, oi, none⟩) (j) (ci) rfl sl_natsX) ?_
     simp only [Act.put, pu]
     refine pw_value (by rfl) (.bool false) (exec_lt_b _ _ _ _ rfl j j rfl rfl false (decide_eq_false (Int.lt_irrefl _))) ?_
     simp only [Act.put, pu]
     refine pw_nil ?_
     clear rB
     (repeat ((fail_if_success with_reducible refine rg ?_); go_step))
     refine wp_region_pw ?_
     refine pw_mv (by rfl) rfl rfl ?_
     simp only [Act.put, pu]
     refine pw_value (by rfl) (.int .i64 ((i + 1 : Nat) : Int)) (exec_add_in _ _ _ _ rfl i 1 rfl rfl (by omega)) ?_
     simp only [Act.put, pu]
     refine pw_as (by rfl) rfl rfl ?_
     simp only [Act.put, pu]
     refine pw_nil ?_
     go_wp2
     go_roundg x
     case measure => omega
     case rel => exact ⟨i + 1, by omega, rfl, rfl, sb⟩
    | succ y =>
     have hjk : j < k := by omega
     obtain hx | ⟨_, rI, hbt⟩ := (HI.out.below sb).at'
     ·exact absurd hx (by omega)
     have hbj := hbt j hjk
     have hij := ix_lt hlt hjk
     have hlt6 := HGl.out _ hij
     have hll := HL.out _ (Nat.le_of_lt hij)
     have hnx : (UInt8.ofNat n :: UInt8.ofNat k :: xmT G (i * k + j)) ++ [UInt8.ofNat (need (G (i * k + j)))] ++ bytesL (G (i * k + j)) (need (G (i * k + j))) = (UInt8.ofNat n :: UInt8.ofNat k :: xmT G (i * k + (j + 1))) := by
      show _ = UInt8.ofNat n :: UInt8.ofNat k :: (xmT G (i * k + j) ++ xmN (G (i * k + j)))
      simp [xmN]
     have hby := fun w' => rbytes_any (G (i * k + j)) w' hlt6
     rw [show bytesOf (G (i * k + j)) = ⟨(bytesL (G (i * k + j)) (need (G (i * k + j)))).toArray⟩ from rfl] at hby
     have hbl := bytesL_length (G (i * k + j)) (need (G (i * k + j)))
     have hnd := need_le _ hlt6
     rw [HG.out i j hjk] at hbj
     clear hbt hlt6
     generalize bytesL (G (i * k + j)) (need (G (i * k + j))) = L at *
     generalize need (G (i * k + j)) = nd at *
     generalize G (i * k + j) = X at *
     generalize (UInt8.ofNat n :: UInt8.ofNat k :: xmT G (i * k + j)) = A0 at *
     have HC1 : Hid (A0 ++ [UInt8.ofNat nd] ++ L = (UInt8.ofNat n :: UInt8.ofNat k :: xmT G (i * k + (j + 1)))) := hnx
     clear hnx
     (repeat ((fail_if_success with_reducible refine rg ?_); go_step))
     refine wp_region_pw ?_
     refine pw_mv (by rfl) rfl rfl ?_
     simp only [Act.put, pu]
     refine pw_mv (by rfl) rfl rfl ?_
     simp only [Act.put, pu]
     refine pw_mv (by rfl) rfl rfl ?_
     simp only [Act.put, pu]
     refine pw_value (by rfl) (.pointer (some ⟨gb, ob + i * 1, none⟩)) ((exec_index_s 25 _ _ rfl (gb) (ob) (n) (c) rfl (i) rfl (hlt) _ Try.underlying25 1 Try.sizeOf26)) ?_
     simp only [Act.put, pu]
     refine pw_loadk (by rfl) 26 _ rfl _ (ob + i * 1) rfl rB (.slice (some ⟨gi, oi, none⟩) k ci) hbi Try.isAgg26 ?_
     simp only [Act.put, pu]
     refine pw_value (by rfl) (.int .i64 k) (exec_len_s 26 _ rfl (some ⟨gi, oi, none⟩) (k) (ci) rfl sl_natsX) ?_
     simp only [Act.put, pu]
     refine pw_value (by rfl) (.bool true) (exec_lt_b _ _ _ _ rfl j k rfl rfl true (decide_eq_true (by omega))) ?_
     simp only [Act.put, pu]
     refine pw_nil ?_
     (repeat ((fail_if_success with_reducible refine rg ?_); go_step))
     refine wp_region_pw ?_
     refine pw_mv (by rfl) rfl rfl ?_
     simp only [Act.put, pu]
     refine pw_mv (by rfl) rfl rfl ?_
     simp only [Act.put, pu]
     refine pw_value (by rfl) (.pointer (some ⟨gb, ob + i * 1, none⟩)) ((exec_index_s 25 _ _ rfl (gb) (ob) (n) (c) rfl (i) rfl (hlt) _ Try.underlying25 1 Try.sizeOf26)) ?_
     simp only [Act.put, pu]
     refine pw_loadk (by rfl) 26 _ rfl _ (ob + i * 1) rfl rB (.slice (some ⟨gi, oi, none⟩) k ci) hbi Try.isAgg26 ?_
     simp only [Act.put, pu]
     refine pw_mv (by rfl) rfl rfl ?_
     simp only [Act.put, pu]
     refine pw_value (by rfl) (.pointer (some ⟨gi, oi + j * 4, none⟩)) ((exec_index_s 26 _ _ rfl gi oi (k) (ci) rfl (j) rfl (hjk) _ Try.underlying26 4 size_nat4)) ?_
     simp only [Act.put, pu]
     refine pw_loadm (by rfl) 52 _ rfl _ (oi + j * 4) rfl rI (natC X) hbj _ Try.underlying52 rfl size_nat ?_
     simp only [Act.put, pu]
     refine pw_callB (by rfl) 26 _ _ rfl Try.func26 (by kernel_rfl) #[.agg (natC X)] rfl _ (hby _) ?_
     intro z10007 k
     simp only [Act.put, pu]
     replace sb := sb.trans (k.below w.heap.size sb.size (by simp <;> omega))
     clear k
     refine pw_as (by rfl) rfl rfl ?_
     simp only [Act.put, pu]
     refine pw_nil ?_
     clear rI hbj hby rB
     (repeat ((fail_if_success with_reducible refine rg ?_); go_step))
     refine wp_region_pw ?_
     refine pw_mv (by rfl) rfl rfl ?_
     simp only [Act.put, pu]
     refine pw_mv (by rfl) rfl rfl ?_
     simp only [Act.put, pu]
     refine pw_value (by rfl) (.int .i64 nd) (fun w' => (y_lenS _ _ rfl L rfl Try.underlying9 w').trans (by rw [hbl])) ?_
     simp only [Act.put, pu]
     refine pw_value (by rfl) (.int .u8 (nd : Nat)) (y_conv _ _ _ rfl .i64 .u8 Try.underlying3 Try.underlying5 (nd : Nat) _ rfl (wr8 _ (by omega))) ?_
     simp only [Act.put, pu]
     refine pw_litr (by rfl) 72 5 1 _ rfl #[.int .u8 (nd : Nat)] ie _ Try.underlying72 hie hze hs1 hs2 [(0, .int .u8 (nd : Nat))] rfl (hl1 _) ?_
     intro gB z11004 n0 rX k
     simp only [Act.put, pu]
     have bB := Nat.le_trans sb.size n0
     clear n0
     replace sb := sb.trans (k.below w.heap.size sb.size (by simp <;> omega))
     clear k
     refine pw_run (by rfl) (.string ⟨([UInt8.ofNat nd]).toArray⟩) _ (y_str _ rfl gB 0 1 1 [UInt8.ofNat nd] rfl rfl _ rX.r (cell_y1 _ (by omega))) ?_
     simp only [Act.put, pu]
     refine pw_value (by rfl) (.string ⟨(A0 ++ [UInt8.ofNat nd]).toArray⟩) (yx_cat _ _ _ _ rfl A0 [UInt8.ofNat nd] rfl rfl (by simp only [List.length_cons, List.length_nil]; omega)) ?_
     simp only [Act.put, pu]
     refine pw_mv (by rfl) rfl rfl ?_
     simp only [Act.put, pu]
     refine pw_value (by rfl) (.string ⟨(A0 ++ [UInt8.ofNat nd] ++ L).toArray⟩) (yx_cat _ _ _ _ rfl (A0 ++ [UInt8.ofNat nd]) L rfl rfl (by rw [List.length_append, hbl]; simp only [List.length_cons, List.length_nil]; omega)) ?_
     simp only [Act.put, pu]
     refine pw_as (by rfl) rfl rfl ?_
     simp only [Act.put, pu]
     refine pw_nil ?_
     clear rX
     (repeat ((fail_if_success with_reducible refine rg ?_); go_step))
     refine wp_region_pw ?_
     refine pw_mv (by rfl) rfl rfl ?_
     simp only [Act.put, pu]
     refine pw_value (by rfl) (.int .i64 ((j + 1 : Nat) : Int)) (exec_add_in _ _ _ _ rfl j 1 rfl rfl (by omega)) ?_
     simp only [Act.put, pu]
     refine pw_as (by rfl) rfl rfl ?_
     simp only [Act.put, pu]
     refine pw_nil ?_
     go_wp2
     go_roundg y
     case measure => omega
     case rel => exact ⟨j + 1, by omega, rfl, by rw [← HC1.out, List.append_assoc]; rfl, sb⟩
end Go.Proofs.Ytnkpfcbcmfhjkaa
