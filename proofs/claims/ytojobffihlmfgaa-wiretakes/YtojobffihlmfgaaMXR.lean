/- The document's even, Bytes. -/
import Derived.Test.YtojobffihlmfgaaMA
import Derived.Test.YtojobffihlmfgaaBT
import Derived.Laws.Concat
import Derived.Test.YtojobffihlmfgaaMB
import Derived.Test.YtojobffihlmfgaaTA
namespace Go.Proofs.Ytojobffihlmfgaa
open Go.RowKit
set_option linter.unusedVariables false
set_option linter.unusedSectionVars false
set_option linter.unusedSimpArgs false
theorem yx_cat {P : Program} {o : Oper} {ρ : Operand → Value} (t : TypeId) (x y : Operand) (u : TypeId) (ho : o.op = .binOp .add t x y u) (a b : List UInt8) (hx : ρ x = .string ⟨a.toArray⟩) (hy : ρ y = .string ⟨b.toArray⟩) (h : a.length + b.length ≤ 9223372036854775807) (w : World) :
  (execOp ρ o).run P w = .ok (.value (.string ⟨(a ++ b).toArray⟩)) w := by
 have hr := run_string_add_sum (P := P) w ⟨a.toArray⟩ ⟨b.toArray⟩ (by simpa [ByteArray.size] using h)
 rw [ByteArray.mk_append_mk] at hr
 unfold execOp
 simp only [ho, hx, hy]
 simp [eqGuard, binOp, hr]
theorem info_u8x : ∃ i, Try.prog.info? 5 = some i ∧ i.zero = some (.int .u8 0) ∧ i.size = 1 := by
 obtain ⟨i, h1, h2, h3, _⟩ := info_u8
 exact ⟨i, h1, h2, h3⟩
theorem lit_y1 (a : Int) (k : Nat) (hk : k = 1) : Instr.fill (fun i => some (i * k, k)) ((Array.range (1 * k)).map ((Value.int .u8 0).cells[· % (Value.int .u8 0).cells.size]!)) [(0, .int .u8 a)] = some #[.int .u8 a] := by
 subst hk
 kernel_rfl
theorem lit_y2 (a b : Int) (k : Nat) (hk : k = 1) : Instr.fill (fun i => some (i * k, k)) ((Array.range (2 * k)).map ((Value.int .u8 0).cells[· % (Value.int .u8 0).cells.size]!)) [(0, .int .u8 a), (1, .int .u8 b)] = some #[.int .u8 a, .int .u8 b] := by
 subst hk
 kernel_rfl
theorem yb_of {x : Nat} (h : x < 256) : (UInt8.ofNat x).toNat = x := by
 rw [UInt8.toNat_ofNat']
 exact Nat.mod_eq_of_lt h
theorem cell_y1 (x : Nat) (h : x < 256) : ∀ j, j < [UInt8.ofNat x].length → (#[.int .u8 (x : Int)] : Array Value)[0 + j]? = some (.int .u8 (yb [UInt8.ofNat x] j : Nat)) := by
 intro j hj
 obtain rfl : j = 0 := by simpa using hj
 show some (Value.int .u8 (x : Int)) = some (.int .u8 ((UInt8.ofNat x).toNat : Nat))
 rw [yb_of h]
theorem cell_y2 (x y : Nat) (h : x < 256) (h' : y < 256) : ∀ j, j < [UInt8.ofNat x, UInt8.ofNat y].length → (#[.int .u8 (x : Int), .int .u8 (y : Int)] : Array Value)[0 + j]? = some (.int .u8 (yb [UInt8.ofNat x, UInt8.ofNat y] j : Nat)) := by
 intro j hj
 have hj2 : j < 2 := hj
 obtain rfl | rfl : j = 0 ∨ j = 1 := by omega
 ·show some (Value.int .u8 (x : Int)) = some (.int .u8 ((UInt8.ofNat x).toNat : Nat))
  rw [yb_of h]
 ·show some (Value.int .u8 (y : Int)) = some (.int .u8 ((UInt8.ofNat y).toNat : Nat))
  rw [yb_of h']
theorem tbB_no {n : Nat} {N : Nat → Nat} {i : Nat} (hi : i < n) (h : N i ≠ N 0 ∨ N i < 1 ∨ 7 < N i) : tbB n N = false := by
 cases hT : tbB n N
 ·rfl
 ·obtain ⟨_, _, h3, h4, h5⟩ := tbB_is hT
  have := h5 i hi
  omega
theorem tbB_end {n : Nat} {N : Nat → Nat} (h : ∀ j, j < n → N j = N 0 ∧ 1 ≤ N j ∧ N j ≤ 7) : tbB n N = (decide ((1 : Int) ≤ n) && decide ((n : Int) ≤ 25)) := by
 unfold tbB ccB
 by_cases h0 : 1 ≤ n
 ·have h1 := h 0 (by omega)
  rw [decide_eq_true (show (1 : Int) ≤ (N 0 : Nat) by omega), decide_eq_true (show ((N 0 : Nat) : Int) ≤ 7 by omega), Bool.and_true, Bool.and_true]
  have : anB (fun k => !decide ((N k : Int) = N 0)) n = false := by
   cases ha : anB (fun k => !decide ((N k : Int) = N 0)) n
   ·rfl
   ·obtain ⟨k, hk, e⟩ := (anB_iff _ n).1 ha
    have := (h k hk).1
    rw [this, decide_eq_true rfl] at e
    cases e
  rw [this, Bool.not_false, Bool.and_true]
 ·rw [decide_eq_false (show ¬ (1 : Int) ≤ n by omega)]
  rfl
set_option maxRecDepth 100000 in
set_option maxHeartbeats 2000000 in
theorem reven_any (ab : Option Addr) (n c : Nat) (S : Nat → Value) (gb ob : Nat) (bcs : Array Value) (tb : TypeId) (N : Nat → Nat) (w : World) (hn : n < 4611686018427387904) (hNn : ∀ i, i < n → N i < 4611686018427387904) (hna : VsAt w ab n S gb ob bcs tb) (hN : ∀ i, i < n → ∃ ai ci, S i = .slice ai (N i) ci) :
  Calls Try.prog 61 #[.slice ab n c] w fun e w' => e = .returned (.bool (tbB n N)) ∧ Below w.heap.size w w' := by
 have HB : Hid (VsAt w ab n S gb ob bcs tb) := hna
 clear hna
 go_enter Try.func61, Try.ntmps61
 have sb := sbmk w
 (repeat ((fail_if_success with_reducible refine rg ?_); go_step))
 refine wp_region_pw ?_
 refine pw_value (by rfl) (.bool false) (fun _ => rfl) ?_
 simp only [Act.put, pu]
 refine pw_nil ?_
 (repeat ((fail_if_success with_reducible refine rg ?_); go_step))
 refine wp_region_pw ?_
 refine pw_value (by rfl) (.int .i64 0) (fun _ => rfl) ?_
 simp only [Act.put, pu]
 refine pw_nil ?_
 go_wp2_with fail
 go_loopg [3] n (fun x s3 wr => ∃ i : Nat, i + x = n ∧ s3 = .int .i64 i ∧ (∀ j, j < i → N j = N 0 ∧ 1 ≤ N j ∧ N j ≤ 7) ∧ Below w.heap.size w wr)
 case atStart => exact ⟨0, by omega, rfl, fun j hj => absurd hj (by omega), sb⟩
 case round =>
  clear sb
  obtain ⟨i, hi, rfl, h8, sb⟩ := hrel
  cases gk with
  | zero =>
   obtain rfl : i = n := by omega
   have HT : Hid (tbB i N = (decide ((1 : Int) ≤ i) && decide ((i : Int) ≤ 25))) := tbB_end h8
   clear hi HB hN h8
   by_cases h1 : 1 ≤ i
   ·obtain ⟨b, hb⟩ : ∃ b, decide ((i : Int) ≤ 25) = b := ⟨_, rfl⟩
    (repeat ((fail_if_success with_reducible refine rg ?_); go_step))
    refine wp_region_pw ?_
    refine pw_mv (by rfl) rfl rfl ?_
    simp only [Act.put, pu]
    refine pw_mv (by rfl) rfl rfl ?_
    simp only [Act.put, pu]
    refine pw_value (by rfl) (.int .i64 i) (exec_len_s 26 _ rfl (ab) (i) (c) rfl sl_mx) ?_
    simp only [Act.put, pu]
    refine pw_value (by rfl) (.bool false) (exec_lt_b _ _ _ _ rfl i i rfl rfl false (decide_eq_false (Int.lt_irrefl _))) ?_
    simp only [Act.put, pu]
    refine pw_nil ?_
    (repeat ((fail_if_success with_reducible refine rg ?_); go_step))
    refine wp_region_pw ?_
    refine pw_mv (by rfl) rfl rfl ?_
    simp only [Act.put, pu]
    refine pw_value (by rfl) (.int .i64 i) (exec_len_s 26 _ rfl (ab) (i) (c) rfl sl_mx) ?_
    simp only [Act.put, pu]
    refine pw_value (by rfl) (.bool true) (exec_geq_i _ _ _ _ rfl ((i : Nat)) (1) rfl rfl true (decide_eq_true (by omega))) ?_
    simp only [Act.put, pu]
    refine pw_mv (by rfl) rfl rfl ?_
    simp only [Act.put, pu]
    refine pw_mv (by rfl) rfl rfl ?_
    simp only [Act.put, pu]
    refine pw_value (by rfl) (.int .i64 i) (exec_len_s 26 _ rfl (ab) (i) (c) rfl sl_mx) ?_
    simp only [Act.put, pu]
    refine pw_value (by rfl) (.bool b) (exec_leq_i _ _ _ _ rfl ((i : Nat)) (25) rfl rfl b hb) ?_
    simp only [Act.put, pu]
    refine pw_pick (by rfl) true (v := .bool b) rfl rfl rfl ?_
    simp only [Act.put, pu]
    refine pw_as (by rfl) rfl rfl ?_
    simp only [Act.put, pu]
    refine pw_nil ?_
    go_wp2
    go_ret
    exact ⟨by rw [HT.out, hb, decide_eq_true (show (1 : Int) ≤ (i : Nat) by omega)]; rfl, sb⟩
   ·skip
    (repeat ((fail_if_success with_reducible refine rg ?_); go_step))
    refine wp_region_pw ?_
    refine pw_mv (by rfl) rfl rfl ?_
    simp only [Act.put, pu]
    refine pw_mv (by rfl) rfl rfl ?_
    simp only [Act.put, pu]
    refine pw_value (by rfl) (.int .i64 i) (exec_len_s 26 _ rfl (ab) (i) (c) rfl sl_mx) ?_
    simp only [Act.put, pu]
    refine pw_value (by rfl) (.bool false) (exec_lt_b _ _ _ _ rfl i i rfl rfl false (decide_eq_false (Int.lt_irrefl _))) ?_
    simp only [Act.put, pu]
    refine pw_nil ?_
    (repeat ((fail_if_success with_reducible refine rg ?_); go_step))
    refine wp_region_pw ?_
    refine pw_mv (by rfl) rfl rfl ?_
    simp only [Act.put, pu]
    refine pw_value (by rfl) (.int .i64 i) (exec_len_s 26 _ rfl (ab) (i) (c) rfl sl_mx) ?_
    simp only [Act.put, pu]
    refine pw_value (by rfl) (.bool false) (exec_geq_i _ _ _ _ rfl ((i : Nat)) (1) rfl rfl false (decide_eq_false (by omega))) ?_
    simp only [Act.put, pu]
    refine pw_mv (by rfl) rfl rfl ?_
    simp only [Act.put, pu]
    refine pw_skip (by rfl) ?_
    simp only [Act.put, pu]
    refine pw_skip (by rfl) ?_
    simp only [Act.put, pu]
    refine pw_skip (by rfl) ?_
    simp only [Act.put, pu]
    refine pw_pick (by rfl) false (v := .bool false) rfl rfl rfl ?_
    simp only [Act.put, pu]
    refine pw_as (by rfl) rfl rfl ?_
    simp only [Act.put, pu]
    refine pw_nil ?_
    go_wp2
    go_ret
    exact ⟨by rw [HT.out, decide_eq_false (show ¬ (1 : Int) ≤ (i : Nat) by omega)]; rfl, sb⟩
  | succ x =>
   have hlt : i < n := by omega
   obtain ⟨ai, ci, ei⟩ := hN i hlt
   obtain ⟨a0, c0, e0⟩ := hN 0 (by omega)
   obtain h0 | ⟨rfl, rB, hbt⟩ := HB.out.at'
   ·exact absurd h0 (by omega)
   have hbi := hbt i hlt
   have hb0 := hbt 0 (by omega)
   rw [ei] at hbi
   rw [e0] at hb0
   have HR : Hid (RowR w gb bcs tb) := rB
   have hni := hNn i hlt
   have hn0 := hNn 0 (by omega)
   clear hbt hN rB ei e0 hNn
   by_cases c1 : N i = N 0
   ·by_cases c2 : N i < 1
    ·have HF : Hid (tbB n N = false) := tbB_no hlt (.inr (.inl c2))
     clear h8
     (repeat ((fail_if_success with_reducible refine rg ?_); go_step))
     refine wp_region_pw ?_
     refine pw_mv (by rfl) rfl rfl ?_
     simp only [Act.put, pu]
     refine pw_mv (by rfl) rfl rfl ?_
     simp only [Act.put, pu]
     refine pw_value (by rfl) (.int .i64 n) (exec_len_s 26 _ rfl (some ⟨gb, ob, none⟩) (n) (c) rfl sl_mx) ?_
     simp only [Act.put, pu]
     refine pw_value (by rfl) (.bool true) (exec_lt_b _ _ _ _ rfl i n rfl rfl true (decide_eq_true (by omega))) ?_
     simp only [Act.put, pu]
     refine pw_nil ?_
     have rB := (HR.out.belowAll sb)
     (repeat ((fail_if_success with_reducible refine rg ?_); go_step))
     refine wp_region_qw (by kernel_rfl) (by kernel_rfl) ?_
     refine qw_move (by rfl) rfl rfl ?_
     simp only [Act.put, pu]
     refine qw_move (by rfl) rfl rfl ?_
     simp only [Act.put, pu]
     refine qw_value (by rfl) (.pointer (some ⟨gb, ob + i * 1, none⟩)) ((exec_index_s 26 _ _ rfl (gb) (ob) (n) (c) rfl (i) rfl (hlt) _ Try.underlying26 1 Try.sizeOf27)) ?_
     simp only [Act.put, pu]
     refine qw_loadcR (by rfl) 27 _ rfl _ (ob + i * 1) rfl rB (.slice ai (N i) ci) hbi Try.isAgg27 ?_
     simp only [Act.put, pu]
     refine qw_value (by rfl) (.int .i64 (N i : Nat)) (exec_len_s 27 _ rfl ai (N i) ci rfl sl_natsX) ?_
     simp only [Act.put, pu]
     refine qw_move (by rfl) rfl rfl ?_
     simp only [Act.put, pu]
     refine qw_value (by rfl) (.pointer (some ⟨gb, ob + 0 * 1, none⟩)) ((exec_index_s 26 _ _ rfl (gb) (ob) (n) (c) rfl (0) rfl (by omega) _ Try.underlying26 1 Try.sizeOf27)) ?_
     simp only [Act.put, pu]
     refine qw_loadcR (by rfl) 27 _ rfl _ (ob + 0 * 1) rfl rB (.slice a0 (N 0) c0) hb0 Try.isAgg27 ?_
     simp only [Act.put, pu]
     refine qw_value (by rfl) (.int .i64 (N 0 : Nat)) (exec_len_s 27 _ rfl a0 (N 0) c0 rfl sl_natsX) ?_
     simp only [Act.put, pu]
     refine qw_value (by rfl) (.bool false) (exec_neq_k .i64 _ _ _ _ rfl (N i : Nat) (N 0 : Nat) rfl rfl false (by rw [decide_eq_true (by omega)]; rfl)) ?_
     simp only [Act.put, pu]
     refine qw_move (by rfl) rfl rfl ?_
     simp only [Act.put, pu]
     refine qw_move (by rfl) rfl rfl ?_
     simp only [Act.put, pu]
     refine qw_move (by rfl) rfl rfl ?_
     simp only [Act.put, pu]
     refine qw_value (by rfl) (.pointer (some ⟨gb, ob + i * 1, none⟩)) ((exec_index_s 26 _ _ rfl (gb) (ob) (n) (c) rfl (i) rfl (hlt) _ Try.underlying26 1 Try.sizeOf27)) ?_
     simp only [Act.put, pu]
     refine qw_loadcR (by rfl) 27 _ rfl _ (ob + i * 1) rfl rB (.slice ai (N i) ci) hbi Try.isAgg27 ?_
     simp only [Act.put, pu]
     refine qw_value (by rfl) (.int .i64 (N i : Nat)) (exec_len_s 27 _ rfl ai (N i) ci rfl sl_natsX) ?_
     simp only [Act.put, pu]
     refine qw_value (by rfl) (.bool true) (exec_lt_b _ _ _ _ rfl (N i : Nat) 1 rfl rfl true (decide_eq_true (by omega))) ?_
     simp only [Act.put, pu]
     refine qw_pick false (v := .bool true) (by rfl) rfl rfl rfl ?_
     simp only [Act.put, pu]
     refine qw_move (by rfl) rfl rfl ?_
     simp only [Act.put, pu]
     refine qw_skip (by rfl) ?_
     simp only [Act.put, pu]
     refine qw_skip (by rfl) ?_
     simp only [Act.put, pu]
     refine qw_skip (by rfl) ?_
     simp only [Act.put, pu]
     refine qw_skip (by rfl) ?_
     simp only [Act.put, pu]
     refine qw_skip (by rfl) ?_
     simp only [Act.put, pu]
     refine qw_skip (by rfl) ?_
     simp only [Act.put, pu]
     refine qw_pick true (v := .bool true) (by rfl) rfl rfl rfl ?_
     simp only [Act.put, pu]
     refine qw_nil ?_
     intro w4 hqb
     replace sb := below_on sb (Nat.le_refl _) hqb
     clear hqb
     (repeat ((fail_if_success with_reducible refine rg ?_); go_step))
     refine wp_region_pw ?_
     refine pw_value (by rfl) (.bool false) (fun _ => rfl) ?_
     simp only [Act.put, pu]
     refine pw_nil ?_
     go_wp2
     go_ret
     exact ⟨by rw [HF.out]; rfl, sb⟩
    ·by_cases c3 : 7 < N i
     ·have HF : Hid (tbB n N = false) := tbB_no hlt (.inr (.inr c3))
      clear h8
      (repeat ((fail_if_success with_reducible refine rg ?_); go_step))
      refine wp_region_pw ?_
      refine pw_mv (by rfl) rfl rfl ?_
      simp only [Act.put, pu]
      refine pw_mv (by rfl) rfl rfl ?_
      simp only [Act.put, pu]
      refine pw_value (by rfl) (.int .i64 n) (exec_len_s 26 _ rfl (some ⟨gb, ob, none⟩) (n) (c) rfl sl_mx) ?_
      simp only [Act.put, pu]
      refine pw_value (by rfl) (.bool true) (exec_lt_b _ _ _ _ rfl i n rfl rfl true (decide_eq_true (by omega))) ?_
      simp only [Act.put, pu]
      refine pw_nil ?_
      have rB := (HR.out.belowAll sb)
      (repeat ((fail_if_success with_reducible refine rg ?_); go_step))
      refine wp_region_qw (by kernel_rfl) (by kernel_rfl) ?_
      refine qw_move (by rfl) rfl rfl ?_
      simp only [Act.put, pu]
      refine qw_move (by rfl) rfl rfl ?_
      simp only [Act.put, pu]
      refine qw_value (by rfl) (.pointer (some ⟨gb, ob + i * 1, none⟩)) ((exec_index_s 26 _ _ rfl (gb) (ob) (n) (c) rfl (i) rfl (hlt) _ Try.underlying26 1 Try.sizeOf27)) ?_
      simp only [Act.put, pu]
      refine qw_loadcR (by rfl) 27 _ rfl _ (ob + i * 1) rfl rB (.slice ai (N i) ci) hbi Try.isAgg27 ?_
      simp only [Act.put, pu]
      refine qw_value (by rfl) (.int .i64 (N i : Nat)) (exec_len_s 27 _ rfl ai (N i) ci rfl sl_natsX) ?_
      simp only [Act.put, pu]
      refine qw_move (by rfl) rfl rfl ?_
      simp only [Act.put, pu]
      refine qw_value (by rfl) (.pointer (some ⟨gb, ob + 0 * 1, none⟩)) ((exec_index_s 26 _ _ rfl (gb) (ob) (n) (c) rfl (0) rfl (by omega) _ Try.underlying26 1 Try.sizeOf27)) ?_
      simp only [Act.put, pu]
      refine qw_loadcR (by rfl) 27 _ rfl _ (ob + 0 * 1) rfl rB (.slice a0 (N 0) c0) hb0 Try.isAgg27 ?_
      simp only [Act.put, pu]
      refine qw_value (by rfl) (.int .i64 (N 0 : Nat)) (exec_len_s 27 _ rfl a0 (N 0) c0 rfl sl_natsX) ?_
      simp only [Act.put, pu]
      refine qw_value (by rfl) (.bool false) (exec_neq_k .i64 _ _ _ _ rfl (N i : Nat) (N 0 : Nat) rfl rfl false (by rw [decide_eq_true (by omega)]; rfl)) ?_
      simp only [Act.put, pu]
      refine qw_move (by rfl) rfl rfl ?_
      simp only [Act.put, pu]
      refine qw_move (by rfl) rfl rfl ?_
      simp only [Act.put, pu]
      refine qw_move (by rfl) rfl rfl ?_
      simp only [Act.put, pu]
      refine qw_value (by rfl) (.pointer (some ⟨gb, ob + i * 1, none⟩)) ((exec_index_s 26 _ _ rfl (gb) (ob) (n) (c) rfl (i) rfl (hlt) _ Try.underlying26 1 Try.sizeOf27)) ?_
      simp only [Act.put, pu]
      refine qw_loadcR (by rfl) 27 _ rfl _ (ob + i * 1) rfl rB (.slice ai (N i) ci) hbi Try.isAgg27 ?_
      simp only [Act.put, pu]
      refine qw_value (by rfl) (.int .i64 (N i : Nat)) (exec_len_s 27 _ rfl ai (N i) ci rfl sl_natsX) ?_
      simp only [Act.put, pu]
      refine qw_value (by rfl) (.bool false) (exec_lt_b _ _ _ _ rfl (N i : Nat) 1 rfl rfl false (decide_eq_false (by omega))) ?_
      simp only [Act.put, pu]
      refine qw_pick false (v := .bool false) (by rfl) rfl rfl rfl ?_
      simp only [Act.put, pu]
      refine qw_move (by rfl) rfl rfl ?_
      simp only [Act.put, pu]
      refine qw_move (by rfl) rfl rfl ?_
      simp only [Act.put, pu]
      refine qw_move (by rfl) rfl rfl ?_
      simp only [Act.put, pu]
      refine qw_value (by rfl) (.pointer (some ⟨gb, ob + i * 1, none⟩)) ((exec_index_s 26 _ _ rfl (gb) (ob) (n) (c) rfl (i) rfl (hlt) _ Try.underlying26 1 Try.sizeOf27)) ?_
      simp only [Act.put, pu]
      refine qw_loadcR (by rfl) 27 _ rfl _ (ob + i * 1) rfl rB (.slice ai (N i) ci) hbi Try.isAgg27 ?_
      simp only [Act.put, pu]
      refine qw_value (by rfl) (.int .i64 (N i : Nat)) (exec_len_s 27 _ rfl ai (N i) ci rfl sl_natsX) ?_
      simp only [Act.put, pu]
      refine qw_value (by rfl) (.bool true) (exec_gt_i _ _ _ _ rfl (N i : Nat) 7 rfl rfl true (decide_eq_true (by omega))) ?_
      simp only [Act.put, pu]
      refine qw_pick false (v := .bool true) (by rfl) rfl rfl rfl ?_
      simp only [Act.put, pu]
      refine qw_nil ?_
      intro w4 hqb
      replace sb := below_on sb (Nat.le_refl _) hqb
      clear hqb
      (repeat ((fail_if_success with_reducible refine rg ?_); go_step))
      refine wp_region_pw ?_
      refine pw_value (by rfl) (.bool false) (fun _ => rfl) ?_
      simp only [Act.put, pu]
      refine pw_nil ?_
      go_wp2
      go_ret
      exact ⟨by rw [HF.out]; rfl, sb⟩
     ·have HX : Hid (∀ j, j < i + 1 → N j = N 0 ∧ 1 ≤ N j ∧ N j ≤ 7) := fun j hj => by
       by_cases e : j = i
       ·rw [e]; omega
       ·exact h8 j (by omega)
      clear h8
      (repeat ((fail_if_success with_reducible refine rg ?_); go_step))
      refine wp_region_pw ?_
      refine pw_mv (by rfl) rfl rfl ?_
      simp only [Act.put, pu]
      refine pw_mv (by rfl) rfl rfl ?_
      simp only [Act.put, pu]
      refine pw_value (by rfl) (.int .i64 n) (exec_len_s 26 _ rfl (some ⟨gb, ob, none⟩) (n) (c) rfl sl_mx) ?_
      simp only [Act.put, pu]
      refine pw_value (by rfl) (.bool true) (exec_lt_b _ _ _ _ rfl i n rfl rfl true (decide_eq_true (by omega))) ?_
      simp only [Act.put, pu]
      refine pw_nil ?_
      have rB := (HR.out.belowAll sb)
      (repeat ((fail_if_success with_reducible refine rg ?_); go_step))
      refine wp_region_qw (by kernel_rfl) (by kernel_rfl) ?_
      refine qw_move (by rfl) rfl rfl ?_
      simp only [Act.put, pu]
      refine qw_move (by rfl) rfl rfl ?_
      simp only [Act.put, pu]
      refine qw_value (by rfl) (.pointer (some ⟨gb, ob + i * 1, none⟩)) ((exec_index_s 26 _ _ rfl (gb) (ob) (n) (c) rfl (i) rfl (hlt) _ Try.underlying26 1 Try.sizeOf27)) ?_
      simp only [Act.put, pu]
      refine qw_loadcR (by rfl) 27 _ rfl _ (ob + i * 1) rfl rB (.slice ai (N i) ci) hbi Try.isAgg27 ?_
      simp only [Act.put, pu]
      refine qw_value (by rfl) (.int .i64 (N i : Nat)) (exec_len_s 27 _ rfl ai (N i) ci rfl sl_natsX) ?_
      simp only [Act.put, pu]
      refine qw_move (by rfl) rfl rfl ?_
      simp only [Act.put, pu]
      refine qw_value (by rfl) (.pointer (some ⟨gb, ob + 0 * 1, none⟩)) ((exec_index_s 26 _ _ rfl (gb) (ob) (n) (c) rfl (0) rfl (by omega) _ Try.underlying26 1 Try.sizeOf27)) ?_
      simp only [Act.put, pu]
      refine qw_loadcR (by rfl) 27 _ rfl _ (ob + 0 * 1) rfl rB (.slice a0 (N 0) c0) hb0 Try.isAgg27 ?_
      simp only [Act.put, pu]
      refine qw_value (by rfl) (.int .i64 (N 0 : Nat)) (exec_len_s 27 _ rfl a0 (N 0) c0 rfl sl_natsX) ?_
      simp only [Act.put, pu]
      refine qw_value (by rfl) (.bool false) (exec_neq_k .i64 _ _ _ _ rfl (N i : Nat) (N 0 : Nat) rfl rfl false (by rw [decide_eq_true (by omega)]; rfl)) ?_
      simp only [Act.put, pu]
      refine qw_move (by rfl) rfl rfl ?_
      simp only [Act.put, pu]
      refine qw_move (by rfl) rfl rfl ?_
      simp only [Act.put, pu]
      refine qw_move (by rfl) rfl rfl ?_
      simp only [Act.put, pu]
      refine qw_value (by rfl) (.pointer (some ⟨gb, ob + i * 1, none⟩)) ((exec_index_s 26 _ _ rfl (gb) (ob) (n) (c) rfl (i) rfl (hlt) _ Try.underlying26 1 Try.sizeOf27)) ?_
      simp only [Act.put, pu]
      refine qw_loadcR (by rfl) 27 _ rfl _ (ob + i * 1) rfl rB (.slice ai (N i) ci) hbi Try.isAgg27 ?_
      simp only [Act.put, pu]
      refine qw_value (by rfl) (.int .i64 (N i : Nat)) (exec_len_s 27 _ rfl ai (N i) ci rfl sl_natsX) ?_
      simp only [Act.put, pu]
      refine qw_value (by rfl) (.bool false) (exec_lt_b _ _ _ _ rfl (N i : Nat) 1 rfl rfl false (decide_eq_false (by omega))) ?_
      simp only [Act.put, pu]
      refine qw_pick false (v := .bool false) (by rfl) rfl rfl rfl ?_
      simp only [Act.put, pu]
      refine qw_move (by rfl) rfl rfl ?_
      simp only [Act.put, pu]
      refine qw_move (by rfl) rfl rfl ?_
      simp only [Act.put, pu]
      refine qw_move (by rfl) rfl rfl ?_
      simp only [Act.put, pu]
      refine qw_value (by rfl) (.pointer (some ⟨gb, ob + i * 1, none⟩)) ((exec_index_s 26 _ _ rfl (gb) (ob) (n) (c) rfl (i) rfl (hlt) _ Try.underlying26 1 Try.sizeOf27)) ?_
      simp only [Act.put, pu]
      refine qw_loadcR (by rfl) 27 _ rfl _ (ob + i * 1) rfl rB (.slice ai (N i) ci) hbi Try.isAgg27 ?_
      simp only [Act.put, pu]
      refine qw_value (by rfl) (.int .i64 (N i : Nat)) (exec_len_s 27 _ rfl ai (N i) ci rfl sl_natsX) ?_
      simp only [Act.put, pu]
      refine qw_value (by rfl) (.bool false) (exec_gt_i _ _ _ _ rfl (N i : Nat) 7 rfl rfl false (decide_eq_false (by omega))) ?_
      simp only [Act.put, pu]
      refine qw_pick false (v := .bool false) (by rfl) rfl rfl rfl ?_
      simp only [Act.put, pu]
      refine qw_nil ?_
      intro w4 hqb
      replace sb := below_on sb (Nat.le_refl _) hqb
      clear hqb
      (repeat ((fail_if_success with_reducible refine rg ?_); go_step))
      refine wp_region_pw ?_
      refine pw_mv (by rfl) rfl rfl ?_
      simp only [Act.put, pu]
      refine pw_value (by rfl) (.int .i64 ((i + 1 : Nat) : Int)) (exec_add_in _ _ _ _ rfl i 1 rfl rfl (by omega)) ?_
      simp only [Act.put, pu]
      refine pw_as (by rfl) rfl rfl ?_
      simp only [Act.put, pu]
      refine pw_nil ?_
      go_wp2
      go_roundg x
      case measure => omega
      case rel => exact ⟨i + 1, by omega, rfl, HX.out, sb⟩
   ·have HF : Hid (tbB n N = false) := tbB_no hlt (.inl c1)
    clear h8
    (repeat ((fail_if_success with_reducible refine rg ?_); go_step))
    refine wp_region_pw ?_
    refine pw_mv (by rfl) rfl rfl ?_
    simp only [Act.put, pu]
    refine pw_mv (by rfl) rfl rfl ?_
    simp only [Act.put, pu]
    refine pw_value (by rfl) (.int .i64 n) (exec_len_s 26 _ rfl (some ⟨gb, ob, none⟩) (n) (c) rfl sl_mx) ?_
    simp only [Act.put, pu]
    refine pw_value (by rfl) (.bool true) (exec_lt_b _ _ _ _ rfl i n rfl rfl true (decide_eq_true (by omega))) ?_
    simp only [Act.put, pu]
    refine pw_nil ?_
    have rB := (HR.out.belowAll sb)
    (repeat ((fail_if_success with_reducible refine rg ?_); go_step))
    refine wp_region_qw (by kernel_rfl) (by kernel_rfl) ?_
    refine qw_move (by rfl) rfl rfl ?_
    simp only [Act.put, pu]
    refine qw_move (by rfl) rfl rfl ?_
    simp only [Act.put, pu]
    refine qw_value (by rfl) (.pointer (some ⟨gb, ob + i * 1, none⟩)) ((exec_index_s 26 _ _ rfl (gb) (ob) (n) (c) rfl (i) rfl (hlt) _ Try.underlying26 1 Try.sizeOf27)) ?_
    simp only [Act.put, pu]
    refine qw_loadcR (by rfl) 27 _ rfl _ (ob + i * 1) rfl rB (.slice ai (N i) ci) hbi Try.isAgg27 ?_
    simp only [Act.put, pu]
    refine qw_value (by rfl) (.int .i64 (N i : Nat)) (exec_len_s 27 _ rfl ai (N i) ci rfl sl_natsX) ?_
    simp only [Act.put, pu]
    refine qw_move (by rfl) rfl rfl ?_
    simp only [Act.put, pu]
    refine qw_value (by rfl) (.pointer (some ⟨gb, ob + 0 * 1, none⟩)) ((exec_index_s 26 _ _ rfl (gb) (ob) (n) (c) rfl (0) rfl (by omega) _ Try.underlying26 1 Try.sizeOf27)) ?_
    simp only [Act.put, pu]
    refine qw_loadcR (by rfl) 27 _ rfl _ (ob + 0 * 1) rfl rB (.slice a0 (N 0) c0) hb0 Try.isAgg27 ?_
    simp only [Act.put, pu]
    refine qw_value (by rfl) (.int .i64 (N 0 : Nat)) (exec_len_s 27 _ rfl a0 (N 0) c0 rfl sl_natsX) ?_
    simp only [Act.put, pu]
    refine qw_value (by rfl) (.bool true) (exec_neq_k .i64 _ _ _ _ rfl (N i : Nat) (N 0 : Nat) rfl rfl true (by rw [decide_eq_false (by omega)]; rfl)) ?_
    simp only [Act.put, pu]
    refine qw_move (by rfl) rfl rfl ?_
    simp only [Act.put, pu]
    refine qw_skip (by rfl) ?_
    simp only [Act.put, pu]
    refine qw_skip (by rfl) ?_
    simp only [Act.put, pu]
    refine qw_skip (by rfl) ?_
    simp only [Act.put, pu]
    refine qw_skip (by rfl) ?_
    simp only [Act.put, pu]
    refine qw_skip (by rfl) ?_
    simp only [Act.put, pu]
    refine qw_skip (by rfl) ?_
    simp only [Act.put, pu]
    refine qw_pick true (v := .bool true) (by rfl) rfl rfl rfl ?_
    simp only [Act.put, pu]
    refine qw_move (by rfl) rfl rfl ?_
    simp only [Act.put, pu]
    refine qw_skip (by rfl) ?_
    simp only [Act.put, pu]
    refine qw_skip (by rfl) ?_
    simp only [Act.put, pu]
    refine qw_skip (by rfl) ?_
    simp only [Act.put, pu]
    refine qw_skip (by rfl) ?_
    simp only [Act.put, pu]
    refine qw_skip (by rfl) ?_
    simp only [Act.put, pu]
    refine qw_skip (by rfl) ?_
    simp only [Act.put, pu]
    refine qw_pick true (v := .bool true) (by rfl) rfl rfl rfl ?_
    simp only [Act.put, pu]
    refine qw_nil ?_
    intro w4 hqb
    replace sb := below_on sb (Nat.le_refl _) hqb
    clear hqb
    (repeat ((fail_if_success with_reducible refine rg ?_); go_step))
    refine wp_region_pw ?_
    refine pw_value (by rfl) (.bool false) (fun _ => rfl) ?_
    simp only [Act.put, pu]
    refine pw_nil ?_
    go_wp2
    go_ret
    exact ⟨by rw [HF.out]; rfl, sb⟩
set_option maxRecDepth 100000 in
set_option maxHeartbeats 2000000 in
theorem rxby_any (ab : Option Addr) (n c : Nat) (S : Nat → Value) (gb ob : Nat) (bcs : Array Value) (tb : TypeId) (N : Nat → Nat) (M : Nat → Nat → Nat) (w : World) (hn : n < 4611686018427387904) (hNn : ∀ i, i < n → N i < 4611686018427387904) (hna : VsAt w ab n S gb ob bcs tb) (hS : ∀ i, i < n → NrAt w (S i) (N i) (M i)) :
  Calls Try.prog 37 #[.slice ab n c] w fun e w' => e = .returned (.string ⟨(xmB n N M).toArray⟩) ∧ Below w.heap.size w w' := by
 have htb := fun w' (hb : Below w.heap.size w w') => reven_any ab n c S gb ob bcs tb N w' hn hNn (hna.below hb) (fun i hi => by
  obtain ⟨ai, ci, _, _, _, _, e, _⟩ := hS i hi
  exact ⟨ai, ci, e⟩)
 cases hT : tbB n N
 ·rw [hT] at htb
  rw [show xmB n N M = [] by unfold xmB; rw [if_neg (by rw [hT]; decide)]]
  clear hS hna hNn
  go_enter Try.func37, Try.ntmps37
  have sb := sbmk w
  (repeat ((fail_if_success with_reducible refine rg ?_); go_step))
  refine wp_region_pw ?_
  refine pw_move (by rfl) (.inr rfl) rfl ?_
  simp only [Act.put, pu]
  refine pw_nil ?_
  (repeat ((fail_if_success with_reducible refine rg ?_); go_step))
  refine wp_region_pw ?_
  refine pw_mv (by rfl) rfl rfl ?_
  simp only [Act.put, pu]
  refine pw_callB (by rfl) 61 _ _ rfl Try.func61 (by kernel_rfl) #[.slice ab n c] rfl _ (htb _ sb) ?_
  intro z1001 k
  simp only [Act.put, pu]
  replace sb := sb.trans (k.below w.heap.size sb.size (by simp <;> omega))
  clear k
  refine pw_value (by rfl) (.bool true) (exec_not _ _ rfl false rfl) ?_
  simp only [Act.put, pu]
  refine pw_nil ?_
  (repeat ((fail_if_success with_reducible refine rg ?_); go_step))
  refine wp_region_pw ?_
  refine pw_move (by rfl) (.inr rfl) rfl ?_
  simp only [Act.put, pu]
  refine pw_nil ?_
  go_wp2
  go_ret
  exact ⟨rfl, sb⟩
 rw [hT] at htb
 obtain ⟨n1, n2, k1, k2, hNk⟩ := tbB_is hT
 have HE : Hid (xmB n N M = xmL n (N 0) (fun t => M (t / N 0) (t % N 0))) := by
  show _ = _
  unfold xmB
  rw [if_pos hT]
 have HS : Hid (∀ i, i < n → ∃ ai ci gi oi ics ti, S i = .slice ai (N 0) ci ∧ NatsAt w ai (N 0) (M i) gi oi ics ti) := fun i hi => by
  obtain ⟨ai, ci, gi, oi, ics, ti, e, h⟩ := hS i hi
  rw [hNk i hi] at e h
  exact ⟨ai, ci, gi, oi, ics, ti, e, h⟩
 obtain ⟨k, hk⟩ : ∃ k, N 0 = k := ⟨_, rfl⟩
 rw [hk] at HE HS k1 k2
 obtain ⟨G, hG⟩ : ∃ G : Nat → Nat, G = fun t => M (t / k) (t % k) := ⟨_, rfl⟩
 have HG : Hid (∀ i j, j < k → M i j = G (i * k + j)) := fun i j hj => by
  rw [hG]
  show _ = M _ _
  rw [ix_div i hj, ix_mod i hj]
 have HGl : Hid (∀ t, t < n * k → G t < 2 ^ 256) := fun t ht => by
  rw [hG]
  have h1 : t / k < n := Nat.div_lt_of_lt_mul (by rw [Nat.mul_comm]; exact ht)
  obtain ⟨ai, ci, gi, oi, ics, ti, e, h⟩ := HS.out _ h1
  exact h.lt _ (Nat.mod_lt _ (by omega))
 rw [← hG] at HE
 have HB : Hid (VsAt w ab n S gb ob bcs tb) := hna
 clear hS hna hG hNk hk hT
 have hnk : n * k ≤ 25 * 7 := Nat.mul_le_mul n2 k2
 have HL : Hid (∀ t, t ≤ n * k → (UInt8.ofNat n :: UInt8.ofNat k :: xmT G (t)).length + 64 ≤ 100000) := fun t ht => by
  show (xmT G t).length + 1 + 1 + 64 ≤ 100000
  have := xmT_length (G := G) (t := t) (fun i hi => HGl.out i (by omega))
  omega
 obtain ⟨ie, hie, hze, hsz⟩ := info_u8x
 have hs1 : ¬ 1 * ie.size > 2 ^ 24 := by rw [hsz]; decide
 have hs2 : ¬ 1 * ie.size = 0 := by rw [hsz]; decide
 have hs3 : ¬ 2 * ie.size > 2 ^ 24 := by rw [hsz]; decide
 have hs4 : ¬ 2 * ie.size = 0 := by rw [hsz]; decide
 have hl1 := fun a => lit_y1 a ie.size hsz
 have hl2 := fun a b => lit_y2 a b ie.size hsz
 clear hsz hNn
 obtain ⟨a0, c0, g0, o0, ics0, t0, e0, h0⟩ := HS.out 0 (by omega)
 obtain hx | ⟨rfl, rB, hbt⟩ := HB.out.at'
 ·exact absurd hx (by omega)
 have hb0 := hbt 0 (by omega)
 rw [e0] at hb0
 have HR : Hid (RowR w gb bcs tb) := rB
 have HBt : Hid (∀ i, i < n → bcs[ob + i * 1]? = some (S i)) := hbt
 clear hbt e0 h0 rB HB
 go_enter Try.func37, Try.ntmps37
 have sb := sbmk w
 (repeat ((fail_if_success with_reducible refine rg ?_); go_step))
 refine wp_region_pw ?_
 refine pw_move (by rfl) (.inr rfl) rfl ?_
 simp only [Act.put, pu]
 refine pw_nil ?_
 (repeat ((fail_if_success with_reducible refine rg ?_); go_step))
 refine wp_region_pw ?_
 refine pw_mv (by rfl) rfl rfl ?_
 simp only [Act.put, pu]
 refine pw_callB (by rfl) 61 _ _ rfl Try.func61 (by kernel_rfl) #[.slice (some ⟨gb, ob, none⟩) n c] rfl _ (htb _ sb) ?_
 intro z1001 k
 simp only [Act.put, pu]
 replace sb := sb.trans (k.below w.heap.size sb.size (by simp <;> omega))
 clear k
 refine pw_value (by rfl) (.bool false) (exec_not _ _ rfl true rfl) ?_
 simp only [Act.put, pu]
 refine pw_nil ?_
 clear htb
 have rB := HR.out.belowAll sb
 (repeat ((fail_if_success with_reducible refine rg ?_); go_step))
 refine wp_region_pw ?_
 refine pw_mv (by rfl) rfl rfl ?_
 simp only [Act.put, pu]
 refine pw_value (by rfl) (.int .i64 n) (exec_len_s 26 _ rfl (some ⟨gb, ob, none⟩) (n) (c) rfl sl_mx) ?_
 simp only [Act.put, pu]
 refine pw_value (by rfl) (.int .u8 (n : Nat)) (y_conv _ _ _ rfl .i64 .u8 Try.underlying3 Try.underlying5 (n : Nat) _ rfl (wr8 _ (by omega))) ?_
 simp only [Act.put, pu]
 refine pw_mv (by rfl) rfl rfl ?_
 simp only [Act.put, pu]
 refine pw_value (by rfl) (.pointer (some ⟨gb, ob + 0 * 1, none⟩)) ((exec_index_s 26 _ _ rfl (gb) (ob) (n) (c) rfl (0) rfl (by omega) _ Try.underlying26 1 Try.sizeOf27)) ?_
 simp only [Act.put, pu]
 refine pw_loadk (by rfl) 27 _ rfl _ (ob + 0 * 1) rfl rB (.slice a0 k c0) hb0 Try.isAgg27 ?_
 simp only [Act.put, pu]
 refine pw_value (by rfl) (.int .i64 k) (exec_len_s 27 _ rfl (a0) (k) (c0) rfl sl_natsX) ?_
 simp only [Act.put, pu]
 refine pw_value (by rfl) (.int .u8 (k : Nat)) (y_conv _ _ _ rfl .i64 .u8 Try.underlying3 Try.underlying5 (k : Nat) _ rfl (wr8 _ (by omega))) ?_
 simp only [Act.put, pu]
 refine pw_litr (by rfl) 81 5 2 _ rfl #[.int .u8 (n : Nat), .int .u8 (k : Nat)] ie _ Try.underlying81 hie hze hs3 hs4 [(0, .int .u8 (n : Nat)), (1, .int .u8 (k : Nat))] rfl (hl2 _ _) ?_
 intro gB z3008 n0 rX k
 simp only [Act.put, pu]
 have bB := Nat.le_trans sb.size n0
 clear n0
 replace sb := sb.trans (k.below w.heap.size sb.size (by simp <;> omega))
 clear k
 refine pw_run (by rfl) (.string ⟨([UInt8.ofNat n, UInt8.ofNat k]).toArray⟩) _ (y_str _ rfl gB 0 2 2 [UInt8.ofNat n, UInt8.ofNat k] rfl rfl _ rX.r (cell_y2 _ _ (by omega) (by omega))) ?_
 simp only [Act.put, pu]
 refine pw_as (by rfl) rfl rfl ?_
 simp only [Act.put, pu]
 refine pw_nil ?_
 clear rX rB
 (repeat ((fail_if_success with_reducible refine rg ?_); go_step))
 refine wp_region_pw ?_
 refine pw_value (by rfl) (.int .i64 0) (fun _ => rfl) ?_
 simp only [Act.put, pu]
 refine pw_nil ?_
 go_wp2_with fail
 go_loopg [3, 4, 5, 6] n (fun x s3 s4 s5 s6 wr => ∃ i : Nat, i + x = n ∧ s4 = .int .i64 i ∧ s3 = .string ⟨((UInt8.ofNat n :: UInt8.ofNat k :: xmT G (i * k))).toArray⟩ ∧ Below w.heap.size w wr)
 case atStart => exact ⟨0, by omega, rfl, by rw [Nat.zero_mul]; rfl, sb⟩
 case round =>
  clear sb
  obtain ⟨i, hi, rfl, rfl, sb⟩ := hrel
  cases gk with
  | zero =>
   obtain rfl : i = n := by omega
   clear hi HG HGl HL HS HBt
   (repeat ((fail_if_success with_reducible refine rg ?_); go_step))
   refine wp_region_pw ?_
   refine pw_mv (by rfl) rfl rfl ?_
   simp only [Act.put, pu]
   refine pw_mv (by rfl) rfl rfl ?_
   simp only [Act.put, pu]
   refine pw_value (by rfl) (.int .i64 i) (exec_len_s 26 _ rfl (some ⟨gb, ob, none⟩) (i) (c) rfl sl_mx) ?_
   simp only [Act.put, pu]
   refine pw_value (by rfl) (.bool false) (exec_lt_b _ _ _ _ rfl i i rfl rfl false (decide_eq_false (Int.lt_irrefl _))) ?_
   simp only [Act.put, pu]
   refine pw_nil ?_
   (repeat ((fail_if_success with_reducible refine rg ?_); go_step))
   refine wp_region_pw ?_
   refine pw_mv (by rfl) rfl rfl ?_
   simp only [Act.put, pu]
   refine pw_as (by rfl) rfl rfl ?_
   simp only [Act.put, pu]
   refine pw_nil ?_
   go_wp2
   go_ret
   exact ⟨by rw [HE.out]; rfl, sb⟩
  | succ x =>
   have hlt : i < n := by omega
   obtain ⟨ai, ci, gi, oi, ics, ti, ei, hi'⟩ := HS.out i hlt
   have hbi := HBt.out i hlt
   rw [ei] at hbi
   obtain hx | ⟨rfl, _, _⟩ := hi'.at'
   ·exact absurd hx (by omega)
   have HI : Hid (NatsAt w (some ⟨gi, oi, none⟩) k (M i) gi oi ics ti) := hi'
   clear ei hi'
   (repeat ((fail_if_success with_reducible refine rg ?_); go_step))
   refine wp_region_pw ?_
   refine pw_mv (by rfl) rfl rfl ?_
   simp only [Act.put, pu]
   refine pw_mv (by rfl) rfl rfl ?_
   simp only [Act.put, pu]
   refine pw_value (by rfl) (.int .i64 n) (exec_len_s 26 _ rfl (some ⟨gb, ob, none⟩) (n) (c) rfl sl_mx) ?_
   simp only [Act.put, pu]
   refine pw_value (by rfl) (.bool true) (exec_lt_b _ _ _ _ rfl i n rfl rfl true (decide_eq_true (by omega))) ?_
   simp only [Act.put, pu]
   refine pw_nil ?_
   (repeat ((fail_if_success with_reducible refine rg ?_); go_step))
   refine wp_region_pw ?_
   refine pw_value (by rfl) (.int .i64 0) (fun _ => rfl) ?_
   simp only [Act.put, pu]
   refine pw_nil ?_
   go_wp2_with fail
   go_loopg [3, 5, 6] k (fun y s3 s5 s6 wr => ∃ j : Nat, j + y = k ∧ s5 = .int .i64 j ∧ s3 = .string ⟨((UInt8.ofNat n :: UInt8.ofNat k :: xmT G (i * k + j))).toArray⟩ ∧ Below w.heap.size w wr)
   case atStart => exact ⟨0, by omega, rfl, rfl, sb⟩
   case round =>
    clear sb
    obtain ⟨j, hj, rfl, rfl, sb⟩ := hrel
    have rB := HR.out.belowAll sb
    cases gk with
    | zero =>
     obtain rfl : j = k := by omega
     rw [← Nat.succ_mul]
     clear hj
     (repeat ((fail_if_success with_reducible refine rg ?_); go_step))
     refine wp_region_pw ?_
     refine pw_mv (by rfl) rfl rfl ?_
     simp only [Act.put, pu]
     refine pw_mv (by rfl) rfl rfl ?_
     simp only [Act.put, pu]
     refine pw_mv (by rfl) rfl rfl ?_
     simp only [Act.put, pu]
     refine pw_value (by rfl) (.pointer (some ⟨gb, ob + i * 1, none⟩)) ((exec_index_s 26 _ _ rfl (gb) (ob) (n) (c) rfl (i) rfl (hlt) _ Try.underlying26 1 Try.sizeOf27)) ?_
     simp only [Act.put, pu]
     refine pw_loadk (by rfl) 27 _ rfl _ (ob + i * 1) rfl rB (.slice (some ⟨gi, oi, none⟩) j ci) hbi Try.isAgg27 ?_
     simp only [Act.put, pu]
     refine pw_value (by rfl) (.int .i64 j) (exec_len_s 27 _ rfl (some ⟨gi, oi, none⟩) (j) (ci) rfl sl_natsX) ?_
     simp only [Act.put, pu]
     refine pw_value (by rfl) (.bool false) (exec_lt_b _ _ _ _ rfl j j rfl rfl false (decide_eq_false (Int.lt_irrefl _))) ?_
     simp only [Act.put, pu]
     refine pw_nil ?_
     clear rB
     (repeat ((fail_if_success with_reducible refine rg ?_); go_step))
     refine wp_region_pw ?_
     refine pw_mv (by rfl) rfl rfl ?_
     simp only [Act.put, pu]
     refine pw_value (by rfl) (.int .i64 ((i + 1 : Nat) : Int)) (exec_add_in _ _ _ _ rfl i 1 rfl rfl (by omega)) ?_
     simp only [Act.put, pu]
     refine pw_as (by rfl) rfl rfl ?_
     simp only [Act.put, pu]
     refine pw_nil ?_
     go_wp2
     go_roundg x
     case measure => omega
     case rel => exact ⟨i + 1, by omega, rfl, rfl, sb⟩
    | succ y =>
     have hjk : j < k := by omega
     obtain hx | ⟨_, rI, hbt⟩ := (HI.out.below sb).at'
     ·exact absurd hx (by omega)
     have hbj := hbt j hjk
     have hij := ix_lt hlt hjk
     have hlt6 := HGl.out _ hij
     have hll := HL.out _ (Nat.le_of_lt hij)
     have hnx : (UInt8.ofNat n :: UInt8.ofNat k :: xmT G (i * k + j)) ++ [UInt8.ofNat (need (G (i * k + j)))] ++ bytesL (G (i * k + j)) (need (G (i * k + j))) = (UInt8.ofNat n :: UInt8.ofNat k :: xmT G (i * k + (j + 1))) := by
      show _ = UInt8.ofNat n :: UInt8.ofNat k :: (xmT G (i * k + j) ++ xmN (G (i * k + j)))
      simp [xmN]
     have hby := fun w' => rbytes_any (G (i * k + j)) w' hlt6
     rw [show bytesOf (G (i * k + j)) = ⟨(bytesL (G (i * k + j)) (need (G (i * k + j)))).toArray⟩ from rfl] at hby
     have hbl := bytesL_length (G (i * k + j)) (need (G (i * k + j)))
     have hnd := need_le _ hlt6
     rw [HG.out i j hjk] at hbj
     clear hbt hlt6
     generalize bytesL (G (i * k + j)) (need (G (i * k + j))) = L at *
     generalize need (G (i * k + j)) = nd at *
     generalize G (i * k + j) = X at *
     generalize (UInt8.ofNat n :: UInt8.ofNat k :: xmT G (i * k + j)) = A0 at *
     have HC1 : Hid (A0 ++ [UInt8.ofNat nd] ++ L = (UInt8.ofNat n :: UInt8.ofNat k :: xmT G (i * k + (j + 1)))) := hnx
     clear hnx
     (repeat ((fail_if_success with_reducible refine rg ?_); go_step))
     refine wp_region_pw ?_
     refine pw_mv (by rfl) rfl rfl ?_
     simp only [Act.put, pu]
     refine pw_mv (by rfl) rfl rfl ?_
     simp only [Act.put, pu]
     refine pw_mv (by rfl) rfl rfl ?_
     simp only [Act.put, pu]
     refine pw_value (by rfl) (.pointer (some ⟨gb, ob + i * 1, none⟩)) ((exec_index_s 26 _ _ rfl (gb) (ob) (n) (c) rfl (i) rfl (hlt) _ Try.underlying26 1 Try.sizeOf27)) ?_
     simp only [Act.put, pu]
     refine pw_loadk (by rfl) 27 _ rfl _ (ob + i * 1) rfl rB (.slice (some ⟨gi, oi, none⟩) k ci) hbi Try.isAgg27 ?_
     simp only [Act.put, pu]
     refine pw_value (by rfl) (.int .i64 k) (exec_len_s 27 _ rfl (some ⟨gi, oi, none⟩) (k) (ci) rfl sl_natsX) ?_
     simp only [Act.put, pu]
     refine pw_value (by rfl) (.bool true) (exec_lt_b _ _ _ _ rfl j k rfl rfl true (decide_eq_true (by omega))) ?_
     simp only [Act.put, pu]
     refine pw_nil ?_
     (repeat ((fail_if_success with_reducible refine rg ?_); go_step))
     refine wp_region_pw ?_
     refine pw_mv (by rfl) rfl rfl ?_
     simp only [Act.put, pu]
     refine pw_mv (by rfl) rfl rfl ?_
     simp only [Act.put, pu]
     refine pw_value (by rfl) (.pointer (some ⟨gb, ob + i * 1, none⟩)) ((exec_index_s 26 _ _ rfl (gb) (ob) (n) (c) rfl (i) rfl (hlt) _ Try.underlying26 1 Try.sizeOf27)) ?_
     simp only [Act.put, pu]
     refine pw_loadk (by rfl) 27 _ rfl _ (ob + i * 1) rfl rB (.slice (some ⟨gi, oi, none⟩) k ci) hbi Try.isAgg27 ?_
     simp only [Act.put, pu]
     refine pw_mv (by rfl) rfl rfl ?_
     simp only [Act.put, pu]
     refine pw_value (by rfl) (.pointer (some ⟨gi, oi + j * 4, none⟩)) ((exec_index_s 27 _ _ rfl gi oi (k) (ci) rfl (j) rfl (hjk) _ Try.underlying27 4 size_nat4)) ?_
     simp only [Act.put, pu]
     refine pw_loadm (by rfl) 51 _ rfl _ (oi + j * 4) rfl rI (natC X) hbj _ Try.underlying51 rfl size_nat ?_
     simp only [Act.put, pu]
     refine pw_callB (by rfl) 44 _ _ rfl Try.func44 (by kernel_rfl) #[.agg (natC X)] rfl _ (hby _) ?_
     intro z10007 k
     simp only [Act.put, pu]
     replace sb := sb.trans (k.below w.heap.size sb.size (by simp <;> omega))
     clear k
     refine pw_as (by rfl) rfl rfl ?_
     simp only [Act.put, pu]
     refine pw_nil ?_
     clear rI hbj hby rB
     (repeat ((fail_if_success with_reducible refine rg ?_); go_step))
     refine wp_region_pw ?_
     refine pw_mv (by rfl) rfl rfl ?_
     simp only [Act.put, pu]
     refine pw_mv (by rfl) rfl rfl ?_
     simp only [Act.put, pu]
     refine pw_value (by rfl) (.int .i64 nd) (fun w' => (y_lenS _ _ rfl L rfl Try.underlying9 w').trans (by rw [hbl])) ?_
     simp only [Act.put, pu]
     refine pw_value (by rfl) (.int .u8 (nd : Nat)) (y_conv _ _ _ rfl .i64 .u8 Try.underlying3 Try.underlying5 (nd : Nat) _ rfl (wr8 _ (by omega))) ?_
     simp only [Act.put, pu]
     refine pw_litr (by rfl) 81 5 1 _ rfl #[.int .u8 (nd : Nat)] ie _ Try.underlying81 hie hze hs1 hs2 [(0, .int .u8 (nd : Nat))] rfl (hl1 _) ?_
     intro gB z11004 n0 rX k
     simp only [Act.put, pu]
     have bB := Nat.le_trans sb.size n0
     clear n0
     replace sb := sb.trans (k.below w.heap.size sb.size (by simp <;> omega))
     clear k
     refine pw_run (by rfl) (.string ⟨([UInt8.ofNat nd]).toArray⟩) _ (y_str _ rfl gB 0 1 1 [UInt8.ofNat nd] rfl rfl _ rX.r (cell_y1 _ (by omega))) ?_
     simp only [Act.put, pu]
     refine pw_value (by rfl) (.string ⟨(A0 ++ [UInt8.ofNat nd]).toArray⟩) (yx_cat _ _ _ _ rfl A0 [UInt8.ofNat nd] rfl rfl (by simp only [List.length_cons, List.length_nil]; omega)) ?_
     simp only [Act.put, pu]
     refine pw_mv (by rfl) rfl rfl ?_
     simp only [Act.put, pu]
     refine pw_value (by rfl) (.string ⟨(A0 ++ [UInt8.ofNat nd] ++ L).toArray⟩) (yx_cat _ _ _ _ rfl (A0 ++ [UInt8.ofNat nd]) L rfl rfl (by rw [List.length_append, hbl]; simp only [List.length_cons, List.length_nil]; omega)) ?_
     simp only [Act.put, pu]
     refine pw_as (by rfl) rfl rfl ?_
     simp only [Act.put, pu]
     refine pw_nil ?_
     clear rX
     (repeat ((fail_if_success with_reducible refine rg ?_); go_step))
     refine wp_region_pw ?_
     refine pw_mv (by rfl) rfl rfl ?_
     simp only [Act.put, pu]
     refine pw_value (by rfl) (.int .i64 ((j + 1 : Nat) : Int)) (exec_add_in _ _ _ _ rfl j 1 rfl rfl (by omega)) ?_
     simp only [Act.put, pu]
     refine pw_as (by rfl) rfl rfl ?_
     simp only [Act.put, pu]
     refine pw_nil ?_
     go_wp2
     go_roundg y
     case measure => omega
     case rel => exact ⟨j + 1, by omega, rfl, by rw [← HC1.out, List.append_assoc]; rfl, sb⟩
end Go.Proofs.Ytojobffihlmfgaa
/- The document's Take. -/
namespace Go.Proofs.Ytojobffihlmfgaa
open Go.RowKit
set_option linter.unusedVariables false
set_option linter.unusedSectionVars false
set_option linter.unusedSimpArgs false
theorem yx_gt8 {P : Program} {o : Oper} {ρ : Operand → Value} (t : TypeId) (x y : Operand) (u : TypeId) (ho : o.op = .binOp .gtr t x y u) (n m : Int) (hx : ρ x = .int .u8 n) (hy : ρ y = .int .u8 m) (b : Bool) (hb : decide (m < n) = b) (w : World) :
  (execOp ρ o).run P w = .ok (.value (.bool b)) w := by
 subst hb
 unfold execOp
 simp only [ho, hx, hy]
 simp [go_sem]
/-- Own slices of so many naturals. -/
structure FamN (w : World) (base : Nat) (V : Nat → Value) (k : Nat) (F : Nat → Nat → Nat) (m : Nat) : Prop where
 own : ∀ j, j < m → OwnN w base (V j) k (F j)
section
variable {w w2 : World} {base m k : Nat} {V : Nat → Value} {F : Nat → Nat → Nat}
theorem FamN.on (h : FamN w base V k F m) {S : List Nat} (kk : Kept S w w2) (hS : ∀ j, j < m → ∀ b, (V j).ownBlock = some b → b ∉ S) : FamN w2 base V k F m := ⟨fun j hj => (h.own j hj).on kk (hS j hj)⟩
theorem FamN.below (h : FamN w base V k F m) (hb : Below w.heap.size w w2) : FamN w2 base V k F m := h.on (Kept.ofBelow hb) (fun _ _ => own_ne0 _)
theorem famN_nil (w : World) (base : Nat) (V : Nat → Value) (k : Nat) (F : Nat → Nat → Nat) : FamN w base V k F 0 := ⟨fun j hj => absurd hj (by omega)⟩
theorem FamN.add (h : FamN w base V k F m) {v : Value} (hv : OwnN w base v k (F m)) : FamN w base (uxV V m v) k F (m + 1) := ⟨fun j hj => by
 by_cases e : j = m
 ·subst e; rw [uxV_at]; exact hv
 ·rw [uxV_lt V v (by omega)]; exact h.own j (by omega)⟩
end
theorem lit_slv (ab : Option Addr) (n c k : Nat) (hk : k = 1) : Instr.fill (fun i => some (i * k, k)) ((Array.range (1 * k)).map ((Value.slice none 0 0).cells[· % (Value.slice none 0 0).cells.size]!)) [(0, .slice ab n c)] = some #[.slice ab n c] := by
 subst hk
 kernel_rfl
theorem drop_yb {l r : List UInt8} {at' : Nat} (h : l.drop at' = r) (hl : at' < l.length) : yb l at' = yb r 0 := by
 rw [← h]
 unfold yb
 rw [List.getD_eq_getElem?_getD, List.getD_eq_getElem?_getD, List.getElem?_drop, Nat.add_zero]
theorem drop_mid {l r : List UInt8} {at' b : Nat} (h : l.drop at' = r) : (l.take (at' + 1 + b)).drop (at' + 1) = (r.take (1 + b)).drop 1 := by
 subst h
 apply List.ext_getElem?
 intro i
 rw [List.getElem?_drop, List.getElem?_drop, List.getElem?_take, List.getElem?_take, List.getElem?_drop]
 by_cases hi : i < b
 ·rw [if_pos (by omega), if_pos (by omega), show at' + 1 + i = at' + (1 + i) by omega]
 ·rw [if_neg (by omega), if_neg (by omega)]
theorem tkE_bad {r : List UInt8} (h : r.length ≤ yb r 0) : tkE r = 4 := if_pos h
theorem tkE_go {r : List UInt8} (h : ¬ r.length ≤ yb r 0) : tkE r = takeE ⟨((r.take (1 + yb r 0)).drop 1).toArray⟩ ∧ tkA r = takeN ⟨((r.take (1 + yb r 0)).drop 1).toArray⟩ ∧ tkR r = r.drop (1 + yb r 0) := ⟨if_neg h, if_neg h, if_neg h⟩
/-- What comes out, as all naturals are taken. -/
theorem xt_end {l r0 : List UInt8} {n k : Nat} (hX : l = UInt8.ofNat n :: UInt8.ofNat k :: r0) (n2 : n ≤ 25) (k2 : k ≤ 7) (hok : ∀ s, s < n * k → tkE (tkS r0 s) = 0) :
  (xmB n (fun _ => k) (fun a b => tkG r0 (a * k + b)) = l → XmV n k (tkG r0) ∧ l = xmL n k (tkG r0)) ∧ (xmB n (fun _ => k) (fun a b => tkG r0 (a * k + b)) ≠ l → ∀ n k G, XmV n k G → l ≠ xmL n k G) := by
 obtain ⟨e1, e2⟩ := tkS_is r0 (n * k) hok
 by_cases hc : 1 ≤ n ∧ 1 ≤ k
 ·have hT : tbB n (fun _ => k) = true := by
   rw [tbB_end (N := fun _ => k) (fun j _ => ⟨rfl, hc.2, k2⟩), decide_eq_true (by omega), decide_eq_true (by omega)]
   rfl
  have hB : xmB n (fun _ => k) (fun a b => tkG r0 (a * k + b)) = xmL n k (tkG r0) := by
   unfold xmB
   rw [if_pos hT]
   show UInt8.ofNat n :: UInt8.ofNat k :: xmT _ (n * k) = UInt8.ofNat n :: UInt8.ofNat k :: xmT _ (n * k)
   rw [xmT_congr (G' := tkG r0) (fun t ht => by
    show tkG r0 (t / k * k + t % k) = tkG r0 t
    rw [Nat.mul_comm, Nat.div_add_mod])]
  rw [hB]
  refine ⟨fun h => ⟨⟨hc.1, n2, hc.2, k2, e2⟩, h.symm⟩, fun h n' k' G' hv => ?_⟩
  refine xm_rest (n := n) (k := k) (G := tkG r0) (r := tkS r0 (n * k)) (by omega) (by omega) (by rw [← e1]; exact hX) e2 (fun h0 => h ?_) hv
  rw [hX]
  unfold xmL
  rw [h0, List.append_nil] at e1
  rw [← e1]
 ·have hT : tbB n (fun _ => k) = false := by
   cases h : tbB n (fun _ => k)
   ·rfl
   ·obtain ⟨h1, _, h3, _⟩ := tbB_is h
    exact absurd ⟨h1, h3⟩ hc
  have hB : xmB n (fun _ => k) (fun a b => tkG r0 (a * k + b)) = [] := by
   unfold xmB
   rw [if_neg (by rw [hT]; decide)]
  rw [hB]
  refine ⟨fun h => (by rw [hX] at h; cases h), fun _ => xm_few (.inr ?_)⟩
  have b0 : yb l 0 = n := by rw [hX]; exact yb_of (by omega)
  have b1 : yb l 1 = k := by rw [hX]; exact yb_of (by omega)
  rw [b0, b1]
  cases h : ccB n k
  ·rfl
  ·obtain ⟨h1, _, h3, _⟩ := ccB_is h
   exact absurd ⟨h1, h3⟩ hc
end Go.Proofs.Ytojobffihlmfgaa
/- The document's Take of layer 16, with where its rows lie. -/
namespace Go.Proofs.Ytojobffihlmfgaa
open Go.RowKit
set_option linter.unusedVariables false
set_option linter.unusedSectionVars false
set_option linter.unusedSimpArgs false
set_option maxRecDepth 100000 in
set_option maxHeartbeats 2000000 in
theorem rxtk_in (l : List UInt8) (w : World) (hl : l.length ≤ 100000) :
  Calls Try.prog 18 #[.string ⟨(l).toArray⟩] w fun e w' => ((∃ n k G ao co S gO oO ocs tO, XmV n k G ∧ l = xmL n k G ∧ e = .returned (.tuple #[.slice ao n co, .int .i64 0]) ∧ (∀ (w3 : World) (T : List Nat), Kept T w' w3 → (∀ g ∈ T, g < w.heap.size ∨ w'.heap.size ≤ g) → VsAt w3 ao n S gO oO ocs tO ∧ ∀ i, i < n → NrAt w3 (S i) k (fun j => G (i * k + j)))) ∨ ((∀ n k G, XmV n k G → l ≠ xmL n k G) ∧ e = .returned (.tuple #[.slice none 0 0, .int .i64 4]))) ∧ Below w.heap.size w w' := by
 by_cases h2 : l.length < 2
 ·have HN : Hid (∀ n k G, XmV n k G → l ≠ xmL n k G) := xm_few (.inl h2)
  go_enter Try.func18, Try.ntmps18
  have sb := sbmk w
  (repeat ((fail_if_success with_reducible refine rg ?_); go_step))
  refine wp_region_pw ?_
  refine pw_value (by rfl) (.slice none 0 0) ((fun _ => rfl)) ?_
  simp only [Act.put, pu]
  refine pw_value (by rfl) (.int .i64 0) (fun _ => rfl) ?_
  simp only [Act.put, pu]
  refine pw_nil ?_
  (repeat ((fail_if_success with_reducible refine rg ?_); go_step))
  refine wp_region_pw ?_
  refine pw_mv (by rfl) rfl rfl ?_
  simp only [Act.put, pu]
  refine pw_value (by rfl) (.int .i64 l.length) (y_lenS _ _ rfl l rfl Try.underlying9) ?_
  simp only [Act.put, pu]
  refine pw_value (by rfl) (.bool true) (exec_lt_b _ _ _ _ rfl l.length 2 rfl rfl true (decide_eq_true (by omega))) ?_
  simp only [Act.put, pu]
  refine pw_mv (by rfl) rfl rfl ?_
  simp only [Act.put, pu]
  refine pw_skip (by rfl) ?_
  simp only [Act.put, pu]
  refine pw_skip (by rfl) ?_
  simp only [Act.put, pu]
  refine pw_skip (by rfl) ?_
  simp only [Act.put, pu]
  refine pw_pick (by rfl) true (v := .bool true) rfl rfl rfl ?_
  simp only [Act.put, pu]
  refine pw_mv (by rfl) rfl rfl ?_
  simp only [Act.put, pu]
  refine pw_skip (by rfl) ?_
  simp only [Act.put, pu]
  refine pw_skip (by rfl) ?_
  simp only [Act.put, pu]
  refine pw_skip (by rfl) ?_
  simp only [Act.put, pu]
  refine pw_pick (by rfl) true (v := .bool true) rfl rfl rfl ?_
  simp only [Act.put, pu]
  refine pw_nil ?_
  (repeat ((fail_if_success with_reducible refine rg ?_); go_step))
  refine wp_region_pw ?_
  refine pw_value (by rfl) (.slice none 0 0) ((fun _ => rfl)) ?_
  simp only [Act.put, pu]
  refine pw_value (by rfl) (.int .i64 4) (fun _ => rfl) ?_
  simp only [Act.put, pu]
  refine pw_nil ?_
  go_wp2
  go_ret2
  exact ⟨.inr ⟨HN.out, rfl⟩, sb⟩
 have hlt0 := yb_lt l 0
 have hlt1 := yb_lt l 1
 have HX := two_bytes (l := l) (by omega)
 have HF : (25 < yb l 0 ∨ 7 < yb l 1) → (∀ n k G, XmV n k G → l ≠ xmL n k G) := fun h => xm_few (.inr (by
  cases hc : ccB (yb l 0) (yb l 1)
  ·rfl
  ·have := ccB_is hc
   omega))
 obtain ⟨n, h0⟩ : ∃ n, yb l 0 = n := ⟨_, rfl⟩
 obtain ⟨k, h1⟩ : ∃ k, yb l 1 = k := ⟨_, rfl⟩
 rw [h0] at hlt0 HX HF
 rw [h1] at hlt1 HX HF
 by_cases h25 : 25 < n
 ·have HN : Hid (∀ n k G, XmV n k G → l ≠ xmL n k G) := HF (.inl h25)
  clear HF HX
  go_enter Try.func18, Try.ntmps18
  have sb := sbmk w
  (repeat ((fail_if_success with_reducible refine rg ?_); go_step))
  refine wp_region_pw ?_
  refine pw_value (by rfl) (.slice none 0 0) ((fun _ => rfl)) ?_
  simp only [Act.put, pu]
  refine pw_value (by rfl) (.int .i64 0) (fun _ => rfl) ?_
  simp only [Act.put, pu]
  refine pw_nil ?_
  (repeat ((fail_if_success with_reducible refine rg ?_); go_step))
  refine wp_region_pw ?_
  refine pw_mv (by rfl) rfl rfl ?_
  simp only [Act.put, pu]
  refine pw_value (by rfl) (.int .i64 l.length) (y_lenS _ _ rfl l rfl Try.underlying9) ?_
  simp only [Act.put, pu]
  refine pw_value (by rfl) (.bool false) (exec_lt_b _ _ _ _ rfl l.length 2 rfl rfl false (decide_eq_false (by omega))) ?_
  simp only [Act.put, pu]
  refine pw_mv (by rfl) rfl rfl ?_
  simp only [Act.put, pu]
  refine pw_mv (by rfl) rfl rfl ?_
  simp only [Act.put, pu]
  refine pw_value (by rfl) (.int .u8 (n : Nat)) (fun w' => (y_index _ _ _ rfl Try.underlying9 l rfl .i64 0 rfl (by omega) w').trans (by rw [h0])) ?_
  simp only [Act.put, pu]
  refine pw_value (by rfl) (.bool true) (yx_gt8 _ _ _ _ rfl (n : Nat) 25 rfl rfl true (decide_eq_true (by omega))) ?_
  simp only [Act.put, pu]
  refine pw_pick (by rfl) false (v := .bool true) rfl rfl rfl ?_
  simp only [Act.put, pu]
  refine pw_mv (by rfl) rfl rfl ?_
  simp only [Act.put, pu]
  refine pw_skip (by rfl) ?_
  simp only [Act.put, pu]
  refine pw_skip (by rfl) ?_
  simp only [Act.put, pu]
  refine pw_skip (by rfl) ?_
  simp only [Act.put, pu]
  refine pw_pick (by rfl) true (v := .bool true) rfl rfl rfl ?_
  simp only [Act.put, pu]
  refine pw_nil ?_
  (repeat ((fail_if_success with_reducible refine rg ?_); go_step))
  refine wp_region_pw ?_
  refine pw_value (by rfl) (.slice none 0 0) ((fun _ => rfl)) ?_
  simp only [Act.put, pu]
  refine pw_value (by rfl) (.int .i64 4) (fun _ => rfl) ?_
  simp only [Act.put, pu]
  refine pw_nil ?_
  go_wp2
  go_ret2
  exact ⟨.inr ⟨HN.out, rfl⟩, sb⟩
 by_cases h7 : 7 < k
 ·have HN : Hid (∀ n k G, XmV n k G → l ≠ xmL n k G) := HF (.inr h7)
  clear HF HX
  go_enter Try.func18, Try.ntmps18
  have sb := sbmk w
  (repeat ((fail_if_success with_reducible refine rg ?_); go_step))
  refine wp_region_pw ?_
  refine pw_value (by rfl) (.slice none 0 0) ((fun _ => rfl)) ?_
  simp only [Act.put, pu]
  refine pw_value (by rfl) (.int .i64 0) (fun _ => rfl) ?_
  simp only [Act.put, pu]
  refine pw_nil ?_
  (repeat ((fail_if_success with_reducible refine rg ?_); go_step))
  refine wp_region_pw ?_
  refine pw_mv (by rfl) rfl rfl ?_
  simp only [Act.put, pu]
  refine pw_value (by rfl) (.int .i64 l.length) (y_lenS _ _ rfl l rfl Try.underlying9) ?_
  simp only [Act.put, pu]
  refine pw_value (by rfl) (.bool false) (exec_lt_b _ _ _ _ rfl l.length 2 rfl rfl false (decide_eq_false (by omega))) ?_
  simp only [Act.put, pu]
  refine pw_mv (by rfl) rfl rfl ?_
  simp only [Act.put, pu]
  refine pw_mv (by rfl) rfl rfl ?_
  simp only [Act.put, pu]
  refine pw_value (by rfl) (.int .u8 (n : Nat)) (fun w' => (y_index _ _ _ rfl Try.underlying9 l rfl .i64 0 rfl (by omega) w').trans (by rw [h0])) ?_
  simp only [Act.put, pu]
  refine pw_value (by rfl) (.bool false) (yx_gt8 _ _ _ _ rfl (n : Nat) 25 rfl rfl false (decide_eq_false (by omega))) ?_
  simp only [Act.put, pu]
  refine pw_pick (by rfl) false (v := .bool false) rfl rfl rfl ?_
  simp only [Act.put, pu]
  refine pw_mv (by rfl) rfl rfl ?_
  simp only [Act.put, pu]
  refine pw_mv (by rfl) rfl rfl ?_
  simp only [Act.put, pu]
  refine pw_value (by rfl) (.int .u8 (k : Nat)) (fun w' => (y_index _ _ _ rfl Try.underlying9 l rfl .i64 1 rfl (by omega) w').trans (by rw [h1])) ?_
  simp only [Act.put, pu]
  refine pw_value (by rfl) (.bool true) (yx_gt8 _ _ _ _ rfl (k : Nat) 7 rfl rfl true (decide_eq_true (by omega))) ?_
  simp only [Act.put, pu]
  refine pw_pick (by rfl) false (v := .bool true) rfl rfl rfl ?_
  simp only [Act.put, pu]
  refine pw_nil ?_
  (repeat ((fail_if_success with_reducible refine rg ?_); go_step))
  refine wp_region_pw ?_
  refine pw_value (by rfl) (.slice none 0 0) ((fun _ => rfl)) ?_
  simp only [Act.put, pu]
  refine pw_value (by rfl) (.int .i64 4) (fun _ => rfl) ?_
  simp only [Act.put, pu]
  refine pw_nil ?_
  go_wp2
  go_ret2
  exact ⟨.inr ⟨HN.out, rfl⟩, sb⟩
 clear HF
 obtain ⟨r0, hr⟩ : ∃ r0, l.drop 2 = r0 := ⟨_, rfl⟩
 rw [hr] at HX
 have HNo : Hid (∀ t, t < n * k → (∀ s, s < t → tkE (tkS r0 s) = 0) → tkE (tkS r0 t) = 4 → (∀ n k G, XmV n k G → l ≠ xmL n k G)) := fun t ht hs hE n' k' G' hv => by
  obtain ⟨e1, e2⟩ := tkS_is r0 t hs
  exact xm_no (n := n) (k := k) (t := t) (G := tkG r0) (r := tkS r0 t) (by omega) (by omega) (by rw [← e1]; exact HX) e2 ht (by rw [tkN_eq, hE]; rfl) hv
 have HEn : Hid ((∀ s, s < n * k → tkE (tkS r0 s) = 0) → (xmB n (fun _ => k) (fun a b => tkG r0 (a * k + b)) = l → XmV n k (tkG r0) ∧ l = xmL n k (tkG r0)) ∧ (xmB n (fun _ => k) (fun a b => tkG r0 (a * k + b)) ≠ l → (∀ n k G, XmV n k G → l ≠ xmL n k G))) := fun hs => xt_end HX (by omega) (by omega) hs
 have HLt : Hid (∀ t, (∀ s, s < t → tkE (tkS r0 s) = 0) → ∀ s, s < t → tkG r0 s < 2 ^ 256) := fun t hs => (tkS_is r0 t hs).2
 clear HX
 obtain ⟨ie, hie, hze, hsz, hby⟩ := info_nat'
 obtain ⟨is', his, hzs, hszs, hbys⟩ := info_slb
 have hs1 : ¬ 1 * ie.size > 2 ^ 24 := by rw [hsz]; decide
 have hs2 : ¬ 1 * ie.size = 0 := by rw [hsz]; decide
 have hs3 : ¬ 1 * is'.size > 2 ^ 24 := by rw [hszs]; decide
 have hs4 : ¬ 1 * is'.size = 0 := by rw [hszs]; decide
 have hl1 := fun A => lit_one A ie.size hsz
 have hls := fun ab n c => lit_slv ab n c is'.size hszs
 clear hsz hby
 go_enter Try.func18, Try.ntmps18
 have sb := sbmk w
 (repeat ((fail_if_success with_reducible refine rg ?_); go_step))
 refine wp_region_pw ?_
 refine pw_value (by rfl) (.slice none 0 0) ((fun _ => rfl)) ?_
 simp only [Act.put, pu]
 refine pw_value (by rfl) (.int .i64 0) (fun _ => rfl) ?_
 simp only [Act.put, pu]
 refine pw_nil ?_
 (repeat ((fail_if_success with_reducible refine rg ?_); go_step))
 refine wp_region_pw ?_
 refine pw_mv (by rfl) rfl rfl ?_
 simp only [Act.put, pu]
 refine pw_value (by rfl) (.int .i64 l.length) (y_lenS _ _ rfl l rfl Try.underlying9) ?_
 simp only [Act.put, pu]
 refine pw_value (by rfl) (.bool false) (exec_lt_b _ _ _ _ rfl l.length 2 rfl rfl false (decide_eq_false (by omega))) ?_
 simp only [Act.put, pu]
 refine pw_mv (by rfl) rfl rfl ?_
 simp only [Act.put, pu]
 refine pw_mv (by rfl) rfl rfl ?_
 simp only [Act.put, pu]
 refine pw_value (by rfl) (.int .u8 (n : Nat)) (fun w' => (y_index _ _ _ rfl Try.underlying9 l rfl .i64 0 rfl (by omega) w').trans (by rw [h0])) ?_
 simp only [Act.put, pu]
 refine pw_value (by rfl) (.bool false) (yx_gt8 _ _ _ _ rfl (n : Nat) 25 rfl rfl false (decide_eq_false (by omega))) ?_
 simp only [Act.put, pu]
 refine pw_pick (by rfl) false (v := .bool false) rfl rfl rfl ?_
 simp only [Act.put, pu]
 refine pw_mv (by rfl) rfl rfl ?_
 simp only [Act.put, pu]
 refine pw_mv (by rfl) rfl rfl ?_
 simp only [Act.put, pu]
 refine pw_value (by rfl) (.int .u8 (k : Nat)) (fun w' => (y_index _ _ _ rfl Try.underlying9 l rfl .i64 1 rfl (by omega) w').trans (by rw [h1])) ?_
 simp only [Act.put, pu]
 refine pw_value (by rfl) (.bool false) (yx_gt8 _ _ _ _ rfl (k : Nat) 7 rfl rfl false (decide_eq_false (by omega))) ?_
 simp only [Act.put, pu]
 refine pw_pick (by rfl) false (v := .bool false) rfl rfl rfl ?_
 simp only [Act.put, pu]
 refine pw_nil ?_
 (repeat ((fail_if_success with_reducible refine rg ?_); go_step))
 refine wp_region_pw ?_
 refine pw_value (by rfl) (.slice none 0 0) ((fun _ => rfl)) ?_
 simp only [Act.put, pu]
 refine pw_nil ?_
 (repeat ((fail_if_success with_reducible refine rg ?_); go_step))
 refine wp_region_pw ?_
 refine pw_value (by rfl) (.int .i64 2) (fun _ => rfl) ?_
 simp only [Act.put, pu]
 refine pw_nil ?_
 (repeat ((fail_if_success with_reducible refine rg ?_); go_step))
 refine wp_region_pw ?_
 refine pw_value (by rfl) (.int .i64 0) (fun _ => rfl) ?_
 simp only [Act.put, pu]
 refine pw_nil ?_
 go_wp2_with fail
 go_loopg [4, 5, 6, 7, 8, 9, 10, 11] n (fun x s4 s5 s6 s7 s8 s9 s10 s11 wr => ∃ (i p0 : Nat) (V : Nat → Value), i + x = n ∧ s6 = .int .i64 i ∧ s5 = .int .i64 p0 ∧ Hid (l.drop p0 = tkS r0 (i * k)) ∧ p0 ≤ l.length ∧ (∀ s, s < i * k → tkE (tkS r0 s) = 0) ∧ OwnE 1 27 wr w.heap.size s4 i (fun a => #[V a]) ∧ FamN wr w.heap.size V k (fun a b => tkG r0 (a * k + b)) i ∧ (∀ j, j < i → ∀ b, (V j).ownBlock = some b → s4.ownBlock ≠ some b) ∧ Below w.heap.size w wr)
 case atStart => exact ⟨0, 2, fun _ => .slice none 0 0, by omega, rfl, rfl, (by show l.drop 2 = tkS r0 (0 * k); rw [Nat.zero_mul]; exact hr), by omega, fun s hs => absurd hs (by omega), ownE_nil _ _ _ _, famN_nil _ _ _ _ _, fun j hj => absurd hj (by omega), sb⟩
 case round =>
  clear sb
  obtain ⟨i, p0, V, hi, rfl, rfl, hp0, hpl, hok, hO, hA, zhOxhA, sb⟩ := hrel
  cases gk with
  | zero =>
   have hin : n = i := by omega
   clear hi
   subst hin
   have hEn := HEn.out hok
   have HLx : Hid (∀ s, s < n * k → tkG r0 s < 2 ^ 256) := HLt.out _ hok
   obtain ⟨ao, co, gO, cur, rfl, _, hEl⟩ := ownE_els (k := 1) (C := fun a => #[V a]) (fun _ => rfl) hO
   have hgO : n = 0 ∨ w.heap.size ≤ gO := hEl.at'.imp id fun ⟨e, _⟩ => own_base hO gO (by rw [e]; simp [Value.ownBlock])
   have hVs : VsAt _ ao n V gO 0 cur 27 := ⟨hEl.at'.imp id fun ⟨q1, q2, q3⟩ => ⟨q1, q2, fun j hj => q3 j hj 0 _ rfl⟩⟩
   have HNr : Hid (∀ w', FamN w' w.heap.size V k (fun a b => tkG r0 (a * k + b)) n → ∀ j, j < n → NrAt w' (V j) k (fun b => tkG r0 (j * k + b))) := fun w' hA j hj => by
    have h := hA.own j hj
    obtain ⟨av, cv, e⟩ := own_shape h
    rw [e] at h ⊢
    obtain ⟨_, gv, cuv, hn⟩ := ownN_nats h (fun b hb => HLx.out _ (ix_lt hj hb))
    exact ⟨av, cv, gv, 0, cuv, 51, rfl, hn⟩
   have hby := fun w' (h : VsAt w' ao n V gO 0 cur 27) (hA : FamN w' w.heap.size V k (fun a b => tkG r0 (a * k + b)) n) => rxby_any ao n co V gO 0 cur 27 (fun _ => k) (fun a b => tkG r0 (a * k + b)) w' (by omega) (fun _ _ => by omega) h (HNr.out w' hA)
   clear hO hEl zhOxhA HEn HNo HLt hok hp0 HLx hl1 hls
   generalize xmB n (fun _ => k) (fun a b => tkG r0 (a * k + b)) = XB at *
   by_cases hXl : XB = l
   ·obtain ⟨hv1, hv2⟩ := hEn.1 hXl
    have HV : Hid (XmV n k (tkG r0)) := hv1
    have HQ : Hid (l = xmL n k (tkG r0)) := hv2
    have hne : decide (XB = l) = !false := decide_eq_true hXl
    clear hEn hXl hv1 hv2
    (repeat ((fail_if_success with_reducible refine rg ?_); go_step))
    refine wp_region_pw ?_
    refine pw_mv (by rfl) rfl rfl ?_
    simp only [Act.put, pu]
    refine pw_mv (by rfl) rfl rfl ?_
    simp only [Act.put, pu]
    refine pw_value (by rfl) (.int .u8 (n : Nat)) (fun w' => (y_index _ _ _ rfl Try.underlying9 l rfl .i64 0 rfl (by omega) w').trans (by rw [h0])) ?_
    simp only [Act.put, pu]
    refine pw_value (by rfl) (.int .i64 (n : Nat)) (y_conv _ _ _ rfl .u8 .i64 Try.underlying5 Try.underlying3 (n : Nat) _ rfl (by rw [IntKind.wrap_i64]; omega)) ?_
    simp only [Act.put, pu]
    refine pw_value (by rfl) (.bool false) (exec_lt_b _ _ _ _ rfl n n rfl rfl false (decide_eq_false (Int.lt_irrefl _))) ?_
    simp only [Act.put, pu]
    refine pw_nil ?_
    (repeat ((fail_if_success with_reducible refine rg ?_); go_step))
    refine wp_region_pw ?_
    refine pw_mv (by rfl) rfl rfl ?_
    simp only [Act.put, pu]
    refine pw_callB (by rfl) 37 _ _ rfl Try.func37 (by kernel_rfl) #[.slice ao n co] rfl _ (hby _ hVs hA) ?_
    intro z21001 k
    simp only [Act.put, pu]
    replace hVs := hVs.below k.nil
    replace hA := hA.below k.nil
    replace sb := sb.trans (k.below w.heap.size sb.size (by simp <;> omega))
    clear k
    refine pw_mv (by rfl) rfl rfl ?_
    simp only [Act.put, pu]
    refine pw_value (by rfl) (.bool false) (y_neS _ _ _ _ rfl XB l rfl rfl false hne) ?_
    simp only [Act.put, pu]
    refine pw_nil ?_
    (repeat ((fail_if_success with_reducible refine rg ?_); go_step))
    refine wp_region_pw ?_
    refine pw_mv (by rfl) rfl rfl ?_
    simp only [Act.put, pu]
    refine pw_as (by rfl) rfl rfl ?_
    simp only [Act.put, pu]
    refine pw_value (by rfl) (.int .i64 0) (fun _ => rfl) ?_
    simp only [Act.put, pu]
    refine pw_nil ?_
    go_wp2
    go_ret2
    exact ⟨.inl ⟨n, k, _, ao, co, V, gO, 0, cur, _, HV.out, HQ.out, rfl, fun w3 T kk hT => ⟨⟨hgO.elim .inl fun hg => hVs.at'.imp id fun ⟨q1, q2, q3⟩ => ⟨q1, kk.rowR q2 (fun hm => absurd (hT _ hm) (by have := q2.lt; omega)), q3⟩⟩, HNr.out w3 (hA.on kk (fun j hj b hb hm => absurd (hT _ hm) (by have := ((hA.own j hj).lt b hb).1; have := ((hA.own j hj).lt b hb).2; omega)))⟩⟩, sb⟩
   ·have HN : Hid (∀ n k G, XmV n k G → l ≠ xmL n k G) := hEn.2 hXl
    have hne : decide (XB = l) = !true := decide_eq_false hXl
    clear hEn hXl
    (repeat ((fail_if_success with_reducible refine rg ?_); go_step))
    refine wp_region_pw ?_
    refine pw_mv (by rfl) rfl rfl ?_
    simp only [Act.put, pu]
    refine pw_mv (by rfl) rfl rfl ?_
    simp only [Act.put, pu]
    refine pw_value (by rfl) (.int .u8 (n : Nat)) (fun w' => (y_index _ _ _ rfl Try.underlying9 l rfl .i64 0 rfl (by omega) w').trans (by rw [h0])) ?_
    simp only [Act.put, pu]
    refine pw_value (by rfl) (.int .i64 (n : Nat)) (y_conv _ _ _ rfl .u8 .i64 Try.underlying5 Try.underlying3 (n : Nat) _ rfl (by rw [IntKind.wrap_i64]; omega)) ?_
    simp only [Act.put, pu]
    refine pw_value (by rfl) (.bool false) (exec_lt_b _ _ _ _ rfl n n rfl rfl false (decide_eq_false (Int.lt_irrefl _))) ?_
    simp only [Act.put, pu]
    refine pw_nil ?_
    (repeat ((fail_if_success with_reducible refine rg ?_); go_step))
    refine wp_region_pw ?_
    refine pw_mv (by rfl) rfl rfl ?_
    simp only [Act.put, pu]
    refine pw_callB (by rfl) 37 _ _ rfl Try.func37 (by kernel_rfl) #[.slice ao n co] rfl _ (hby _ hVs hA) ?_
    intro z21001 k
    simp only [Act.put, pu]
    replace hVs := hVs.below k.nil
    replace hA := hA.below k.nil
    replace sb := sb.trans (k.below w.heap.size sb.size (by simp <;> omega))
    clear k
    refine pw_mv (by rfl) rfl rfl ?_
    simp only [Act.put, pu]
    refine pw_value (by rfl) (.bool true) (y_neS _ _ _ _ rfl XB l rfl rfl true hne) ?_
    simp only [Act.put, pu]
    refine pw_nil ?_
    (repeat ((fail_if_success with_reducible refine rg ?_); go_step))
    refine wp_region_pw ?_
    refine pw_value (by rfl) (.slice none 0 0) ((fun _ => rfl)) ?_
    simp only [Act.put, pu]
    refine pw_value (by rfl) (.int .i64 4) (fun _ => rfl) ?_
    simp only [Act.put, pu]
    refine pw_nil ?_
    go_wp2
    go_ret2
    exact ⟨.inr ⟨HN.out, rfl⟩, sb⟩
  | succ x =>
   have hlt : i < n := by omega
   (repeat ((fail_if_success with_reducible refine rg ?_); go_step))
   refine wp_region_pw ?_
   refine pw_mv (by rfl) rfl rfl ?_
   simp only [Act.put, pu]
   refine pw_mv (by rfl) rfl rfl ?_
   simp only [Act.put, pu]
   refine pw_value (by rfl) (.int .u8 (n : Nat)) (fun w' => (y_index _ _ _ rfl Try.underlying9 l rfl .i64 0 rfl (by omega) w').trans (by rw [h0])) ?_
   simp only [Act.put, pu]
   refine pw_value (by rfl) (.int .i64 (n : Nat)) (y_conv _ _ _ rfl .u8 .i64 Try.underlying5 Try.underlying3 (n : Nat) _ rfl (by rw [IntKind.wrap_i64]; omega)) ?_
   simp only [Act.put, pu]
   refine pw_value (by rfl) (.bool true) (exec_lt_b _ _ _ _ rfl i n rfl rfl true (decide_eq_true (by omega))) ?_
   simp only [Act.put, pu]
   refine pw_nil ?_
   (repeat ((fail_if_success with_reducible refine rg ?_); go_step))
   refine wp_region_pw ?_
   refine pw_value (by rfl) (.slice none 0 0) ((fun _ => rfl)) ?_
   simp only [Act.put, pu]
   refine pw_nil ?_
   (repeat ((fail_if_success with_reducible refine rg ?_); go_step))
   refine wp_region_pw ?_
   refine pw_value (by rfl) (.int .i64 0) (fun _ => rfl) ?_
   simp only [Act.put, pu]
   refine pw_nil ?_
   go_wp2_with fail
   go_loopg [5, 7, 8, 9, 10, 11] k (fun y s5 s7 s8 s9 s10 s11 wr => ∃ (j p1 : Nat), j + y = k ∧ s8 = .int .i64 j ∧ s5 = .int .i64 p1 ∧ Hid (l.drop p1 = tkS r0 (i * k + j)) ∧ p1 ≤ l.length ∧ (∀ s, s < i * k + j → tkE (tkS r0 s) = 0) ∧ OwnN wr w.heap.size s7 j ((fun a b => tkG r0 (a * k + b)) i) ∧ OwnE 1 27 wr w.heap.size u4 i (fun a => #[V a]) ∧ FamN wr w.heap.size V k (fun a b => tkG r0 (a * k + b)) i ∧ (∀ j, j < i → ∀ b, (V j).ownBlock = some b → s7.ownBlock ≠ some b) ∧ (∀ b, u4.ownBlock = some b → s7.ownBlock ≠ some b) ∧ Below w.heap.size w wr)
   case atStart => exact ⟨0, p0, by omega, rfl, rfl, hp0, hpl, hok, ownN_nil _ _ _, hO, hA, fun _ _ _ _ => nofun, fun _ _ => nofun, sb⟩
   case round =>
    clear sb hO hA hok hp0 hpl
    obtain ⟨j, p1, hj, rfl, rfl, hp1, hpl, hok, hR, hO, hA, zhRxhA, zhRxhO, sb⟩ := hrel
    cases gk with
    | zero =>
     have hjk : k = j := by omega
     clear hj
     subst hjk
     rw [← Nat.succ_mul] at hok hp1
     obtain ⟨ar, cr, rfl⟩ := own_shape hR
     obtain ⟨C, hC⟩ : ∃ C : Nat → Array Value, C = fun a => #[uxV V i (.slice ar k cr) a] := ⟨_, rfl⟩
     have hO2 : OwnE 1 27 wr w.heap.size u4 i C := by
      unfold OwnE at hO ⊢
      rw [esC_congr (D := C) (fun a ha => by rw [hC]; dsimp only; rw [uxV_lt V _ ha])] at hO
      exact hO
     have HC1 : Hid (∀ a, (C a).size = 1) := fun a => by rw [hC]; rfl
     have hCi : C i = #[.slice ar k cr] := by rw [hC]; dsimp only; rw [uxV_at]
     have HCo : Hid ((C i).all (·.oneCell') = true) := by show _ = true; rw [hCi]; simp [Value.oneCell']
     have hli := (hls ar k cr).trans (congrArg some hCi.symm)
     have zhO2xhA := zhOxhA
     have zhRxhO2 := zhRxhO
     have zhO2xhR := own_sym zhRxhO2
     clear hO zhOxhA zhRxhO HNo HEn HLt
     (repeat ((fail_if_success with_reducible refine rg ?_); go_step))
     refine wp_region_pw ?_
     refine pw_mv (by rfl) rfl rfl ?_
     simp only [Act.put, pu]
     refine pw_mv (by rfl) rfl rfl ?_
     simp only [Act.put, pu]
     refine pw_value (by rfl) (.int .u8 (k : Nat)) (fun w' => (y_index _ _ _ rfl Try.underlying9 l rfl .i64 1 rfl (by omega) w').trans (by rw [h1])) ?_
     simp only [Act.put, pu]
     refine pw_value (by rfl) (.int .i64 (k : Nat)) (y_conv _ _ _ rfl .u8 .i64 Try.underlying5 Try.underlying3 (k : Nat) _ rfl (by rw [IntKind.wrap_i64]; omega)) ?_
     simp only [Act.put, pu]
     refine pw_value (by rfl) (.bool false) (exec_lt_b _ _ _ _ rfl k k rfl rfl false (decide_eq_false (Int.lt_irrefl _))) ?_
     simp only [Act.put, pu]
     refine pw_nil ?_
     (repeat ((fail_if_success with_reducible refine rg ?_); go_step))
     refine wp_region_pw ?_
     refine pw_mv (by rfl) rfl rfl ?_
     simp only [Act.put, pu]
     refine pw_mv (by rfl) rfl rfl ?_
     simp only [Act.put, pu]
     refine pw_litr (by rfl) 26 27 1 _ rfl (C i) is' _ Try.underlying26 his hzs hs3 hs4 [(0, .slice ar k cr)] rfl hli ?_
     intro gA z20002 n0 rA k
     simp only [Act.put, pu]
     have ehO2xA := hO2.new n0
     have ehRxA := hR.new n0
     have bA := Nat.le_trans sb.size n0
     clear n0
     replace hO2 := hO2.on k (own_ne0 _)
     replace hA := hA.below k.nil
     replace hR := hR.on k (own_ne0 _)
     replace sb := sb.trans (k.below w.heap.size sb.size (by simp <;> omega))
     clear k
     refine pw_appE (by rfl) _ _ (26) rfl (w.heap.size) 27 is' _ 1 24 Try.underlying26 his hzs hszs hbys rfl (by decide) (by decide) (_) (i) (C) (HC1.out) rfl hO2 gA _ rfl rA (HCo.out) ((by omega)) sb.size ?_
     have h0 := hO2
     clear hO2
     intro v1 z20003 hO2 k hp
     simp only [Act.put, pu]
     have zt := fun j hj => own_two (hA.own j hj) hp (zhO2xhA j hj)
     replace hA := hA.on k (fun j hj => own_nin2 (zhO2xhA j hj))
     clear zhO2xhA
     have zhO2xhA := zt
     clear zt
     have zt := own_two hR hp zhO2xhR
     replace hR := hR.on k (own_nin2 zhO2xhR)
     clear zhO2xhR zhRxhO2
     have zhO2xhR := zt
     have zhRxhO2 := own_sym zt
     clear zt
     clear hp
     replace sb := sb.trans (k.below w.heap.size sb.size h0.base)
     clear h0
     clear k
     refine pw_as (by rfl) rfl rfl ?_
     simp only [Act.put, pu]
     refine pw_nil ?_
     have hA2 := hA.add hR
     have zz : ∀ j, j < i + 1 → ∀ b, (uxV V i (.slice ar k cr) j).ownBlock = some b → v1.ownBlock ≠ some b := fun j hj b hb => by
      by_cases e : j = i
      ·subst e; rw [uxV_at] at hb; exact zhO2xhR b hb
      ·rw [uxV_lt V _ (by omega)] at hb; exact zhO2xhA j (by omega) b hb
     rw [hC] at hO2
     clear hA hR zhO2xhA zhRxhO2 zhO2xhR hC hCi HC1 HCo hli zhRxhA
     (repeat ((fail_if_success with_reducible refine rg ?_); go_step))
     refine wp_region_pw ?_
     refine pw_mv (by rfl) rfl rfl ?_
     simp only [Act.put, pu]
     refine pw_value (by rfl) (.int .i64 ((i + 1 : Nat) : Int)) (exec_add_in _ _ _ _ rfl i 1 rfl rfl (by omega)) ?_
     simp only [Act.put, pu]
     refine pw_as (by rfl) rfl rfl ?_
     simp only [Act.put, pu]
     refine pw_nil ?_
     go_wp2
     go_roundg x
     case measure => omega
     case rel => exact ⟨i + 1, p1, _, by omega, rfl, rfl, hp1, hpl, hok, hO2, hA2, zz, sb⟩
    | succ y =>
     have hjk : j < k := by omega
     have hij := ix_lt hlt hjk
     have HNx : Hid (tkE (tkS r0 (i * k + j)) = 4 → (∀ n k G, XmV n k G → l ≠ xmL n k G)) := HNo.out _ hij hok
     have HOx : Hid (tkE (tkS r0 (i * k + j)) = 0 → ∀ s, s < i * k + (j + 1) → tkE (tkS r0 s) = 0) := fun h s hs => by
      by_cases e : s = i * k + j
      ·rw [e]; exact h
      ·exact hok s (by omega)
     have hAt : (fun a b => tkG r0 (a * k + b)) i j = tkA (tkS r0 (i * k + j)) := rfl
     have HSt : Hid (tkS r0 (i * k + (j + 1)) = tkR (tkS r0 (i * k + j))) := rfl
     obtain ⟨r, hrr⟩ : ∃ r, tkS r0 (i * k + j) = r := ⟨_, rfl⟩
     have hp2 := hp1.out
     rw [hrr] at HNx HOx hAt HSt hp2
     have hrl : r.length = l.length - p1 := by rw [← hp2, List.length_drop]
     clear hok hrr HNo HEn HLt hp1
     by_cases hpe : l.length ≤ p1
     ·have HN : Hid (∀ n k G, XmV n k G → l ≠ xmL n k G) := HNx.out (tkE_bad (by omega))
      clear HNx HOx hAt HSt hp2 hA hO hR zhRxhA zhRxhO zhOxhA
      (repeat ((fail_if_success with_reducible refine rg ?_); go_step))
      refine wp_region_pw ?_
      refine pw_mv (by rfl) rfl rfl ?_
      simp only [Act.put, pu]
      refine pw_mv (by rfl) rfl rfl ?_
      simp only [Act.put, pu]
      refine pw_value (by rfl) (.int .u8 (k : Nat)) (fun w' => (y_index _ _ _ rfl Try.underlying9 l rfl .i64 1 rfl (by omega) w').trans (by rw [h1])) ?_
      simp only [Act.put, pu]
      refine pw_value (by rfl) (.int .i64 (k : Nat)) (y_conv _ _ _ rfl .u8 .i64 Try.underlying5 Try.underlying3 (k : Nat) _ rfl (by rw [IntKind.wrap_i64]; omega)) ?_
      simp only [Act.put, pu]
      refine pw_value (by rfl) (.bool true) (exec_lt_b _ _ _ _ rfl j k rfl rfl true (decide_eq_true (by omega))) ?_
      simp only [Act.put, pu]
      refine pw_nil ?_
      (repeat ((fail_if_success with_reducible refine rg ?_); go_step))
      refine wp_region_pw ?_
      refine pw_mv (by rfl) rfl rfl ?_
      simp only [Act.put, pu]
      refine pw_mv (by rfl) rfl rfl ?_
      simp only [Act.put, pu]
      refine pw_value (by rfl) (.int .i64 l.length) (y_lenS _ _ rfl l rfl Try.underlying9) ?_
      simp only [Act.put, pu]
      refine pw_value (by rfl) (.bool true) (exec_geq_i _ _ _ _ rfl ((p1 : Nat)) (l.length) rfl rfl true (decide_eq_true (by omega))) ?_
      simp only [Act.put, pu]
      refine pw_mv (by rfl) rfl rfl ?_
      simp only [Act.put, pu]
      refine pw_skip (by rfl) ?_
      simp only [Act.put, pu]
      refine pw_skip (by rfl) ?_
      simp only [Act.put, pu]
      refine pw_skip (by rfl) ?_
      simp only [Act.put, pu]
      refine pw_skip (by rfl) ?_
      simp only [Act.put, pu]
      refine pw_skip (by rfl) ?_
      simp only [Act.put, pu]
      refine pw_skip (by rfl) ?_
      simp only [Act.put, pu]
      refine pw_skip (by rfl) ?_
      simp only [Act.put, pu]
      refine pw_skip (by rfl) ?_
      simp only [Act.put, pu]
      refine pw_skip (by rfl) ?_
      simp only [Act.put, pu]
      refine pw_skip (by rfl) ?_
      simp only [Act.put, pu]
      refine pw_pick (by rfl) true (v := .bool true) rfl rfl rfl ?_
      simp only [Act.put, pu]
      refine pw_nil ?_
      (repeat ((fail_if_success with_reducible refine rg ?_); go_step))
      refine wp_region_pw ?_
      refine pw_value (by rfl) (.slice none 0 0) ((fun _ => rfl)) ?_
      simp only [Act.put, pu]
      refine pw_value (by rfl) (.int .i64 4) (fun _ => rfl) ?_
      simp only [Act.put, pu]
      refine pw_nil ?_
      go_wp2
      go_ret2
      exact ⟨.inr ⟨HN.out, rfl⟩, sb⟩
     have hyb' := drop_yb hp2 (by omega)
     have hb256 := yb_lt l p1
     obtain ⟨b, hyb⟩ : ∃ b, yb l p1 = b := ⟨_, rfl⟩
     rw [hyb] at hyb' hb256
     have R12 : l.length - p1 - 1 < b ↔ r.length ≤ yb r 0 := by rw [← hyb', hrl]; omega
     by_cases hbd : l.length - p1 - 1 < b
     ·have HN : Hid (∀ n k G, XmV n k G → l ≠ xmL n k G) := HNx.out (tkE_bad (R12.1 hbd))
      clear HNx HOx hAt HSt hp2 hA hO hR zhRxhA zhRxhO zhOxhA R12 hyb'
      (repeat ((fail_if_success with_reducible refine rg ?_); go_step))
      refine wp_region_pw ?_
      refine pw_mv (by rfl) rfl rfl ?_
      simp only [Act.put, pu]
      refine pw_mv (by rfl) rfl rfl ?_
      simp only [Act.put, pu]
      refine pw_value (by rfl) (.int .u8 (k : Nat)) (fun w' => (y_index _ _ _ rfl Try.underlying9 l rfl .i64 1 rfl (by omega) w').trans (by rw [h1])) ?_
      simp only [Act.put, pu]
      refine pw_value (by rfl) (.int .i64 (k : Nat)) (y_conv _ _ _ rfl .u8 .i64 Try.underlying5 Try.underlying3 (k : Nat) _ rfl (by rw [IntKind.wrap_i64]; omega)) ?_
      simp only [Act.put, pu]
      refine pw_value (by rfl) (.bool true) (exec_lt_b _ _ _ _ rfl j k rfl rfl true (decide_eq_true (by omega))) ?_
      simp only [Act.put, pu]
      refine pw_nil ?_
      (repeat ((fail_if_success with_reducible refine rg ?_); go_step))
      refine wp_region_pw ?_
      refine pw_mv (by rfl) rfl rfl ?_
      simp only [Act.put, pu]
      refine pw_mv (by rfl) rfl rfl ?_
      simp only [Act.put, pu]
      refine pw_value (by rfl) (.int .i64 l.length) (y_lenS _ _ rfl l rfl Try.underlying9) ?_
      simp only [Act.put, pu]
      refine pw_value (by rfl) (.bool false) (exec_geq_i _ _ _ _ rfl ((p1 : Nat)) (l.length) rfl rfl false (decide_eq_false (by omega))) ?_
      simp only [Act.put, pu]
      refine pw_mv (by rfl) rfl rfl ?_
      simp only [Act.put, pu]
      refine pw_mv (by rfl) rfl rfl ?_
      simp only [Act.put, pu]
      refine pw_value (by rfl) (.int .i64 l.length) (y_lenS _ _ rfl l rfl Try.underlying9) ?_
      simp only [Act.put, pu]
      refine pw_mv (by rfl) rfl rfl ?_
      simp only [Act.put, pu]
      refine pw_value (by rfl) (.int .i64 ((l.length - p1 : Nat) : Int)) (exec_sub_in _ _ _ _ rfl l.length p1 rfl rfl (by omega) (by omega)) ?_
      simp only [Act.put, pu]
      refine pw_value (by rfl) (.int .i64 ((l.length - p1 - 1 : Nat) : Int)) (exec_sub_in _ _ _ _ rfl (l.length - p1) 1 rfl rfl (by omega) (by omega)) ?_
      simp only [Act.put, pu]
      refine pw_mv (by rfl) rfl rfl ?_
      simp only [Act.put, pu]
      refine pw_mv (by rfl) rfl rfl ?_
      simp only [Act.put, pu]
      refine pw_value (by rfl) (.int .u8 (b : Nat)) (fun w' => (y_index _ _ _ rfl Try.underlying9 l rfl .i64 p1 rfl (by omega) w').trans (by rw [hyb])) ?_
      simp only [Act.put, pu]
      refine pw_value (by rfl) (.int .i64 (b : Nat)) (y_conv _ _ _ rfl .u8 .i64 Try.underlying5 Try.underlying3 (b : Nat) _ rfl (by rw [IntKind.wrap_i64]; omega)) ?_
      simp only [Act.put, pu]
      refine pw_value (by rfl) (.bool true) (exec_lt_b _ _ _ _ rfl (l.length - p1 - 1 : Nat) b rfl rfl true (decide_eq_true (by omega))) ?_
      simp only [Act.put, pu]
      refine pw_pick (by rfl) false (v := .bool true) rfl rfl rfl ?_
      simp only [Act.put, pu]
      refine pw_nil ?_
      (repeat ((fail_if_success with_reducible refine rg ?_); go_step))
      refine wp_region_pw ?_
      refine pw_value (by rfl) (.slice none 0 0) ((fun _ => rfl)) ?_
      simp only [Act.put, pu]
      refine pw_value (by rfl) (.int .i64 4) (fun _ => rfl) ?_
      simp only [Act.put, pu]
      refine pw_nil ?_
      go_wp2
      go_ret2
      exact ⟨.inr ⟨HN.out, rfl⟩, sb⟩
     obtain ⟨hE1, hA1, hR1⟩ := tkE_go (r := r) (fun h => hbd (R12.2 h))
     rw [← hyb'] at hE1 hA1 hR1
     rw [hE1] at HNx HOx
     rw [hA1] at hAt
     rw [hR1] at HSt
     have hmid := drop_mid (b := b) hp2
     have hnt := fun w' => rtake_any ⟨((r.take (1 + b)).drop 1).toArray⟩ w'
     have HD : Hid (l.drop (p1 + 1 + b) = tkS r0 (i * k + (j + 1))) := by
      show _ = _
      rw [HSt.out, ← hp2, List.drop_drop]
      congr 1
      omega
     obtain ⟨sg, hsg⟩ : ∃ sg, (r.take (1 + b)).drop 1 = sg := ⟨_, rfl⟩
     rw [hsg] at hmid hnt HNx HOx hAt
     have h04 := takeE_04 ⟨sg.toArray⟩
     generalize takeE ⟨sg.toArray⟩ = E at *
     obtain ⟨X, hX⟩ : ∃ X, takeN ⟨sg.toArray⟩ = X := ⟨_, rfl⟩
     rw [hX] at hnt hAt
     clear hX hsg hE1 hA1 hR1 R12 hp2 HSt hyb' hrl
     obtain rfl | rfl := h04
     ·have HOk : Hid (∀ s, s < i * k + (j + 1) → tkE (tkS r0 s) = 0) := HOx.out rfl
      clear HNx HOx
      have zhOxhR := own_sym zhRxhO
      (repeat ((fail_if_success with_reducible refine rg ?_); go_step))
      refine wp_region_pw ?_
      refine pw_mv (by rfl) rfl rfl ?_
      simp only [Act.put, pu]
      refine pw_mv (by rfl) rfl rfl ?_
      simp only [Act.put, pu]
      refine pw_value (by rfl) (.int .u8 (k : Nat)) (fun w' => (y_index _ _ _ rfl Try.underlying9 l rfl .i64 1 rfl (by omega) w').trans (by rw [h1])) ?_
      simp only [Act.put, pu]
      refine pw_value (by rfl) (.int .i64 (k : Nat)) (y_conv _ _ _ rfl .u8 .i64 Try.underlying5 Try.underlying3 (k : Nat) _ rfl (by rw [IntKind.wrap_i64]; omega)) ?_
      simp only [Act.put, pu]
      refine pw_value (by rfl) (.bool true) (exec_lt_b _ _ _ _ rfl j k rfl rfl true (decide_eq_true (by omega))) ?_
      simp only [Act.put, pu]
      refine pw_nil ?_
      (repeat ((fail_if_success with_reducible refine rg ?_); go_step))
      refine wp_region_pw ?_
      refine pw_mv (by rfl) rfl rfl ?_
      simp only [Act.put, pu]
      refine pw_mv (by rfl) rfl rfl ?_
      simp only [Act.put, pu]
      refine pw_value (by rfl) (.int .i64 l.length) (y_lenS _ _ rfl l rfl Try.underlying9) ?_
      simp only [Act.put, pu]
      refine pw_value (by rfl) (.bool false) (exec_geq_i _ _ _ _ rfl ((p1 : Nat)) (l.length) rfl rfl false (decide_eq_false (by omega))) ?_
      simp only [Act.put, pu]
      refine pw_mv (by rfl) rfl rfl ?_
      simp only [Act.put, pu]
      refine pw_mv (by rfl) rfl rfl ?_
      simp only [Act.put, pu]
      refine pw_value (by rfl) (.int .i64 l.length) (y_lenS _ _ rfl l rfl Try.underlying9) ?_
      simp only [Act.put, pu]
      refine pw_mv (by rfl) rfl rfl ?_
      simp only [Act.put, pu]
      refine pw_value (by rfl) (.int .i64 ((l.length - p1 : Nat) : Int)) (exec_sub_in _ _ _ _ rfl l.length p1 rfl rfl (by omega) (by omega)) ?_
      simp only [Act.put, pu]
      refine pw_value (by rfl) (.int .i64 ((l.length - p1 - 1 : Nat) : Int)) (exec_sub_in _ _ _ _ rfl (l.length - p1) 1 rfl rfl (by omega) (by omega)) ?_
      simp only [Act.put, pu]
      refine pw_mv (by rfl) rfl rfl ?_
      simp only [Act.put, pu]
      refine pw_mv (by rfl) rfl rfl ?_
      simp only [Act.put, pu]
      refine pw_value (by rfl) (.int .u8 (b : Nat)) (fun w' => (y_index _ _ _ rfl Try.underlying9 l rfl .i64 p1 rfl (by omega) w').trans (by rw [hyb])) ?_
      simp only [Act.put, pu]
      refine pw_value (by rfl) (.int .i64 (b : Nat)) (y_conv _ _ _ rfl .u8 .i64 Try.underlying5 Try.underlying3 (b : Nat) _ rfl (by rw [IntKind.wrap_i64]; omega)) ?_
      simp only [Act.put, pu]
      refine pw_value (by rfl) (.bool false) (exec_lt_b _ _ _ _ rfl (l.length - p1 - 1 : Nat) b rfl rfl false (decide_eq_false (by omega))) ?_
      simp only [Act.put, pu]
      refine pw_pick (by rfl) false (v := .bool false) rfl rfl rfl ?_
      simp only [Act.put, pu]
      refine pw_nil ?_
      (repeat ((fail_if_success with_reducible refine rg ?_); go_step))
      refine wp_region_pw ?_
      refine pw_mv (by rfl) rfl rfl ?_
      simp only [Act.put, pu]
      refine pw_value (by rfl) (.int .i64 ((p1 + 1 : Nat) : Int)) (exec_add_in _ _ _ _ rfl p1 1 rfl rfl (by omega)) ?_
      simp only [Act.put, pu]
      refine pw_mv (by rfl) rfl rfl ?_
      simp only [Act.put, pu]
      refine pw_mv (by rfl) rfl rfl ?_
      simp only [Act.put, pu]
      refine pw_value (by rfl) (.int .u8 (b : Nat)) (fun w' => (y_index _ _ _ rfl Try.underlying9 l rfl .i64 p1 rfl (by omega) w').trans (by rw [hyb])) ?_
      simp only [Act.put, pu]
      refine pw_value (by rfl) (.int .i64 (b : Nat)) (y_conv _ _ _ rfl .u8 .i64 Try.underlying5 Try.underlying3 (b : Nat) _ rfl (by rw [IntKind.wrap_i64]; omega)) ?_
      simp only [Act.put, pu]
      refine pw_value (by rfl) (.int .i64 ((p1 + 1 + b : Nat) : Int)) (exec_add_in _ _ _ _ rfl (p1 + 1) b rfl rfl (by omega)) ?_
      simp only [Act.put, pu]
      refine pw_as (by rfl) rfl rfl ?_
      simp only [Act.put, pu]
      refine pw_nil ?_
      have cb := below_self sb
      (repeat ((fail_if_success with_reducible refine rg ?_); go_step))
      refine wp_region_pw ?_
      refine pw_mv (by rfl) rfl rfl ?_
      simp only [Act.put, pu]
      refine pw_mv (by rfl) rfl rfl ?_
      simp only [Act.put, pu]
      refine pw_value (by rfl) (.int .i64 ((p1 + 1 : Nat) : Int)) (exec_add_in _ _ _ _ rfl p1 1 rfl rfl (by omega)) ?_
      simp only [Act.put, pu]
      refine pw_mv (by rfl) rfl rfl ?_
      simp only [Act.put, pu]
      refine pw_value (by rfl) (.string ⟨(sg).toArray⟩) (y_mid _ _ _ _ Try.underlying9 rfl l (p1 + 1) (p1 + 1 + b) rfl rfl rfl (by omega) (by omega) _ hmid) ?_
      simp only [Act.put, pu]
      refine pw_callB (by rfl) 19 _ _ rfl Try.func19 (by kernel_rfl) #[.string ⟨(sg).toArray⟩] rfl _ (hnt _) ?_
      intro z15005 k
      simp only [Act.put, pu]
      replace cb := cb.trans (k.below _ cb.size (by simp <;> omega))
      replace sb := sb.trans (k.below w.heap.size sb.size (by simp <;> omega))
      clear k
      refine pw_mv (by rfl) rfl rfl ?_
      simp only [Act.put, pu]
      refine pw_ext (by rfl) rfl rfl rfl ?_
      simp only [Act.put, pu]
      refine pw_ext (by rfl) rfl rfl rfl ?_
      simp only [Act.put, pu]
      refine pw_new (by rfl) 51 rfl _ zero_nat ?_
      intro g10 z15009 n0 r10 k
      simp only [Act.put, pu]
      have bcbx10 := Nat.le_trans cb.size n0
      have b10 := Nat.le_trans sb.size n0
      clear n0
      replace cb := cb.trans (k.below _ cb.size (by simp <;> omega))
      replace sb := sb.trans (k.below w.heap.size sb.size (by simp <;> omega))
      clear k
      refine pw_put (by rfl) 51 _ _ rfl _ rfl r10 (natC X) rfl (by exact size_nat) (by simp only [natC_size]) (natC_one _) ?_
      clear r10
      intro z15010 r10 k
      simp only [Act.put]
      replace cb := cb.trans (k.below _ cb.size (by simp <;> omega))
      replace sb := sb.trans (k.below w.heap.size sb.size (by simp <;> omega))
      clear k
      refine pw_as (by rfl) rfl rfl ?_
      simp only [Act.put, pu]
      refine pw_nil ?_
      replace hO := hO.on (Kept.ofBelow cb) (own_ne0 _)
      replace hA := hA.below cb
      replace hR := hR.on (Kept.ofBelow cb) (own_ne0 _)
      clear cb
      (repeat ((fail_if_success with_reducible refine rg ?_); go_step))
      refine wp_region_pw ?_
      refine pw_mv (by rfl) rfl rfl ?_
      simp only [Act.put, pu]
      refine pw_value (by rfl) (.bool false) (exec_neq_k .i64 _ _ _ _ rfl 0 0 rfl rfl false rfl) ?_
      simp only [Act.put, pu]
      refine pw_nil ?_
      have hlX := (hl1 X).trans (congrArg (fun a => some (natC a)) hAt.symm)
      (repeat ((fail_if_success with_reducible refine rg ?_); go_step))
      refine wp_region_pw ?_
      refine pw_mv (by rfl) rfl rfl ?_
      simp only [Act.put, pu]
      refine pw_loadm (by rfl) 51 _ rfl _ 0 rfl r10.r _ (part_all _) _ Try.underlying51 rfl size_nat ?_
      simp only [Act.put, pu]
      refine pw_litr (by rfl) 27 51 1 _ rfl (natC ((fun a b => tkG r0 (a * k + b)) i j)) ie _ Try.underlying27 hie hze hs1 hs2 [(0, .agg (natC X))] rfl hlX ?_
      intro gA z18002 n0 rA k
      simp only [Act.put, pu]
      have ehOxA := hO.new n0
      have ehRxA := hR.new n0
      have bA := Nat.le_trans sb.size n0
      clear n0
      replace hO := hO.on k (own_ne0 _)
      replace hA := hA.below k.nil
      replace hR := hR.on k (own_ne0 _)
      replace sb := sb.trans (k.below w.heap.size sb.size (by simp <;> omega))
      clear k
      refine pw_appN (by rfl) _ _ rfl (w.heap.size) (_) (j) ((fun a b => tkG r0 (a * k + b)) i) rfl hR gA _ rfl rA ((by omega)) sb.size ?_
      have h0 := hR
      clear hR
      intro v1 z18003 hR k hp
      simp only [Act.put, pu]
      have zt := own_two hO hp zhRxhO
      replace hO := hO.on k (own_nin2 zhRxhO)
      clear zhRxhO zhOxhR
      have zhRxhO := zt
      have zhOxhR := own_sym zt
      clear zt
      have zt := fun j hj => own_two (hA.own j hj) hp (zhRxhA j hj)
      replace hA := hA.on k (fun j hj => own_nin2 (zhRxhA j hj))
      clear zhRxhA
      have zhRxhA := zt
      clear zt
      clear hp
      replace sb := sb.trans (k.below w.heap.size sb.size h0.base)
      clear h0
      clear k
      refine pw_as (by rfl) rfl rfl ?_
      simp only [Act.put, pu]
      refine pw_nil ?_
      (repeat ((fail_if_success with_reducible refine rg ?_); go_step))
      refine wp_region_pw ?_
      refine pw_mv (by rfl) rfl rfl ?_
      simp only [Act.put, pu]
      refine pw_as (by rfl) rfl rfl ?_
      simp only [Act.put, pu]
      refine pw_nil ?_
      (repeat ((fail_if_success with_reducible refine rg ?_); go_step))
      refine wp_region_pw ?_
      refine pw_mv (by rfl) rfl rfl ?_
      simp only [Act.put, pu]
      refine pw_value (by rfl) (.int .i64 ((j + 1 : Nat) : Int)) (exec_add_in _ _ _ _ rfl j 1 rfl rfl (by omega)) ?_
      simp only [Act.put, pu]
      refine pw_as (by rfl) rfl rfl ?_
      simp only [Act.put, pu]
      refine pw_nil ?_
      go_wp2
      go_roundg y
      case measure => omega
      case rel => exact ⟨j + 1, p1 + 1 + b, by omega, rfl, rfl, HD, by omega, HOk.out, hR, hO, hA, zhRxhA, zhRxhO, sb⟩
     ·have HN : Hid (∀ n k G, XmV n k G → l ≠ xmL n k G) := HNx.out rfl
      clear HNx HOx hAt HD hA hO hR zhRxhA zhRxhO zhOxhA
      (repeat ((fail_if_success with_reducible refine rg ?_); go_step))
      refine wp_region_pw ?_
      refine pw_mv (by rfl) rfl rfl ?_
      simp only [Act.put, pu]
      refine pw_mv (by rfl) rfl rfl ?_
      simp only [Act.put, pu]
      refine pw_value (by rfl) (.int .u8 (k : Nat)) (fun w' => (y_index _ _ _ rfl Try.underlying9 l rfl .i64 1 rfl (by omega) w').trans (by rw [h1])) ?_
      simp only [Act.put, pu]
      refine pw_value (by rfl) (.int .i64 (k : Nat)) (y_conv _ _ _ rfl .u8 .i64 Try.underlying5 Try.underlying3 (k : Nat) _ rfl (by rw [IntKind.wrap_i64]; omega)) ?_
      simp only [Act.put, pu]
      refine pw_value (by rfl) (.bool true) (exec_lt_b _ _ _ _ rfl j k rfl rfl true (decide_eq_true (by omega))) ?_
      simp only [Act.put, pu]
      refine pw_nil ?_
      (repeat ((fail_if_success with_reducible refine rg ?_); go_step))
      refine wp_region_pw ?_
      refine pw_mv (by rfl) rfl rfl ?_
      simp only [Act.put, pu]
      refine pw_mv (by rfl) rfl rfl ?_
      simp only [Act.put, pu]
      refine pw_value (by rfl) (.int .i64 l.length) (y_lenS _ _ rfl l rfl Try.underlying9) ?_
      simp only [Act.put, pu]
      refine pw_value (by rfl) (.bool false) (exec_geq_i _ _ _ _ rfl ((p1 : Nat)) (l.length) rfl rfl false (decide_eq_false (by omega))) ?_
      simp only [Act.put, pu]
      refine pw_mv (by rfl) rfl rfl ?_
      simp only [Act.put, pu]
      refine pw_mv (by rfl) rfl rfl ?_
      simp only [Act.put, pu]
      refine pw_value (by rfl) (.int .i64 l.length) (y_lenS _ _ rfl l rfl Try.underlying9) ?_
      simp only [Act.put, pu]
      refine pw_mv (by rfl) rfl rfl ?_
      simp only [Act.put, pu]
      refine pw_value (by rfl) (.int .i64 ((l.length - p1 : Nat) : Int)) (exec_sub_in _ _ _ _ rfl l.length p1 rfl rfl (by omega) (by omega)) ?_
      simp only [Act.put, pu]
      refine pw_value (by rfl) (.int .i64 ((l.length - p1 - 1 : Nat) : Int)) (exec_sub_in _ _ _ _ rfl (l.length - p1) 1 rfl rfl (by omega) (by omega)) ?_
      simp only [Act.put, pu]
      refine pw_mv (by rfl) rfl rfl ?_
      simp only [Act.put, pu]
      refine pw_mv (by rfl) rfl rfl ?_
      simp only [Act.put, pu]
      refine pw_value (by rfl) (.int .u8 (b : Nat)) (fun w' => (y_index _ _ _ rfl Try.underlying9 l rfl .i64 p1 rfl (by omega) w').trans (by rw [hyb])) ?_
      simp only [Act.put, pu]
      refine pw_value (by rfl) (.int .i64 (b : Nat)) (y_conv _ _ _ rfl .u8 .i64 Try.underlying5 Try.underlying3 (b : Nat) _ rfl (by rw [IntKind.wrap_i64]; omega)) ?_
      simp only [Act.put, pu]
      refine pw_value (by rfl) (.bool false) (exec_lt_b _ _ _ _ rfl (l.length - p1 - 1 : Nat) b rfl rfl false (decide_eq_false (by omega))) ?_
      simp only [Act.put, pu]
      refine pw_pick (by rfl) false (v := .bool false) rfl rfl rfl ?_
      simp only [Act.put, pu]
      refine pw_nil ?_
      (repeat ((fail_if_success with_reducible refine rg ?_); go_step))
      refine wp_region_pw ?_
      refine pw_mv (by rfl) rfl rfl ?_
      simp only [Act.put, pu]
      refine pw_value (by rfl) (.int .i64 ((p1 + 1 : Nat) : Int)) (exec_add_in _ _ _ _ rfl p1 1 rfl rfl (by omega)) ?_
      simp only [Act.put, pu]
      refine pw_mv (by rfl) rfl rfl ?_
      simp only [Act.put, pu]
      refine pw_mv (by rfl) rfl rfl ?_
      simp only [Act.put, pu]
      refine pw_value (by rfl) (.int .u8 (b : Nat)) (fun w' => (y_index _ _ _ rfl Try.underlying9 l rfl .i64 p1 rfl (by omega) w').trans (by rw [hyb])) ?_
      simp only [Act.put, pu]
      refine pw_value (by rfl) (.int .i64 (b : Nat)) (y_conv _ _ _ rfl .u8 .i64 Try.underlying5 Try.underlying3 (b : Nat) _ rfl (by rw [IntKind.wrap_i64]; omega)) ?_
      simp only [Act.put, pu]
      refine pw_value (by rfl) (.int .i64 ((p1 + 1 + b : Nat) : Int)) (exec_add_in _ _ _ _ rfl (p1 + 1) b rfl rfl (by omega)) ?_
      simp only [Act.put, pu]
      refine pw_as (by rfl) rfl rfl ?_
      simp only [Act.put, pu]
      refine pw_nil ?_
      (repeat ((fail_if_success with_reducible refine rg ?_); go_step))
      refine wp_region_pw ?_
      refine pw_mv (by rfl) rfl rfl ?_
      simp only [Act.put, pu]
      refine pw_mv (by rfl) rfl rfl ?_
      simp only [Act.put, pu]
      refine pw_value (by rfl) (.int .i64 ((p1 + 1 : Nat) : Int)) (exec_add_in _ _ _ _ rfl p1 1 rfl rfl (by omega)) ?_
      simp only [Act.put, pu]
      refine pw_mv (by rfl) rfl rfl ?_
      simp only [Act.put, pu]
      refine pw_value (by rfl) (.string ⟨(sg).toArray⟩) (y_mid _ _ _ _ Try.underlying9 rfl l (p1 + 1) (p1 + 1 + b) rfl rfl rfl (by omega) (by omega) _ hmid) ?_
      simp only [Act.put, pu]
      refine pw_callB (by rfl) 19 _ _ rfl Try.func19 (by kernel_rfl) #[.string ⟨(sg).toArray⟩] rfl _ (hnt _) ?_
      intro z15005 k
      simp only [Act.put, pu]
      replace sb := sb.trans (k.below w.heap.size sb.size (by simp <;> omega))
      clear k
      refine pw_mv (by rfl) rfl rfl ?_
      simp only [Act.put, pu]
      refine pw_ext (by rfl) rfl rfl rfl ?_
      simp only [Act.put, pu]
      refine pw_ext (by rfl) rfl rfl rfl ?_
      simp only [Act.put, pu]
      refine pw_new (by rfl) 51 rfl _ zero_nat ?_
      intro g10 z15009 n0 r10 k
      simp only [Act.put, pu]
      have b10 := Nat.le_trans sb.size n0
      clear n0
      replace sb := sb.trans (k.below w.heap.size sb.size (by simp <;> omega))
      clear k
      refine pw_put (by rfl) 51 _ _ rfl _ rfl r10 (natC X) rfl (by exact size_nat) (by simp only [natC_size]) (natC_one _) ?_
      clear r10
      intro z15010 r10 k
      simp only [Act.put]
      replace sb := sb.trans (k.below w.heap.size sb.size (by simp <;> omega))
      clear k
      refine pw_as (by rfl) rfl rfl ?_
      simp only [Act.put, pu]
      refine pw_nil ?_
      (repeat ((fail_if_success with_reducible refine rg ?_); go_step))
      refine wp_region_pw ?_
      refine pw_mv (by rfl) rfl rfl ?_
      simp only [Act.put, pu]
      refine pw_value (by rfl) (.bool true) (exec_neq_k .i64 _ _ _ _ rfl 4 0 rfl rfl true rfl) ?_
      simp only [Act.put, pu]
      refine pw_nil ?_
      (repeat ((fail_if_success with_reducible refine rg ?_); go_step))
      refine wp_region_pw ?_
      refine pw_value (by rfl) (.slice none 0 0) ((fun _ => rfl)) ?_
      simp only [Act.put, pu]
      refine pw_value (by rfl) (.int .i64 4) (fun _ => rfl) ?_
      simp only [Act.put, pu]
      refine pw_nil ?_
      go_wp2
      go_ret2
      exact ⟨.inr ⟨HN.out, rfl⟩, sb⟩
end Go.Proofs.Ytojobffihlmfgaa
