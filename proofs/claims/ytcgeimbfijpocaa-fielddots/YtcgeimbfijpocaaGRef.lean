/- The document's P, Q, Size. -/
import Derived.Test.YtcgeimbfijpocaaGKnow
namespace Go.Proofs.Ytcgeimbfijpocaa
open Go.RowKit
set_option maxRecDepth 100000 in
set_option maxHeartbeats 2000000 in
theorem rQ_any (n c : Nat) (ab : Option Addr) (G : Nat) (N : Nat → Nat) (A : Nat → Int) (gb ob : Nat) (bcs : Array Value) (tb : TypeId) (w : World) (h2 : 2 ≤ n) (hn : n < 9223372036854775808) (hL : LinksAt w ab n N A gb ob bcs tb) :
  Calls Try.prog 10 #[.agg (paC ab n c G)] w fun e w' => e = .returned (.agg (natC (N (n - 2)))) ∧ Below w.heap.size w w' := by
 obtain h0 | ⟨rfl, rB, hat⟩ := hL.at'
 ·omega
 have h1 := hat (n - 2) (by omega)
 clear hL hat
 generalize N (n - 2) = P at *
 generalize A (n - 2) = zp at *
 go_enter Try.func10, Try.ntmps10
 (repeat ((fail_if_success with_reducible refine rg ?_); go_step))
 refine wp_region_pw ?_
 refine pw_boxr (by rfl) 27 _ rfl (_) rfl ?_
 intro g1 z0 n0 r1 k
 simp only [Act.put, pu]
 have b1 : w.heap.size ≤ g1 := n0
 clear n0
 have sb := k.below w.heap.size (Nat.le_refl _) (by simp)
 clear k
 refine pw_new (by rfl) 24 rfl _ zero_nat ?_
 intro g2 z1 n0 r2 k
 simp only [Act.put, pu]
 have d1x2 := Nat.lt_of_lt_of_le r1.lt n0
 have b2 := Nat.le_trans sb.size n0
 clear n0
 replace r1 := k.row r1 (by simp <;> omega)
 replace sb := sb.trans (k.below w.heap.size sb.size (by simp <;> omega))
 clear k
 refine pw_nil ?_
 replace rB := rB.belowAll sb
 (repeat ((fail_if_success with_reducible refine rg ?_); go_step))
 refine wp_region_pw ?_
 refine pw_value (by rfl) (.pointer (some ⟨g1, 0, none⟩)) (exec_field 27 _ 0 rfl g1 0 rfl _ Try.underlying27 _ rfl 0 Try.sizeOf25) ?_
 simp only [Act.put, pu]
 refine pw_loadk (by rfl) 25 _ rfl _ (0) rfl r1.r (.slice (some ⟨gb, ob, none⟩) n c) rfl Try.isAgg25 ?_
 simp only [Act.put, pu]
 refine pw_value (by rfl) (.int .i64 n) (exec_len_s 25 _ rfl (some ⟨gb, ob, none⟩) n c rfl sl_link) ?_
 simp only [Act.put, pu]
 refine pw_value (by rfl) (.bool false) (exec_lt_b _ _ _ _ rfl n 2 rfl rfl false (decide_eq_false (by omega))) ?_
 simp only [Act.put, pu]
 refine pw_nil ?_
 (repeat ((fail_if_success with_reducible refine rg ?_); go_step))
 refine wp_region_pw ?_
 refine pw_value (by rfl) (.pointer (some ⟨g1, 0, none⟩)) (exec_field 27 _ 0 rfl g1 0 rfl _ Try.underlying27 _ rfl 0 Try.sizeOf25) ?_
 simp only [Act.put, pu]
 refine pw_loadk (by rfl) 25 _ rfl _ (0) rfl r1.r (.slice (some ⟨gb, ob, none⟩) n c) rfl Try.isAgg25 ?_
 simp only [Act.put, pu]
 refine pw_value (by rfl) (.pointer (some ⟨g1, 0, none⟩)) (exec_field 27 _ 0 rfl g1 0 rfl _ Try.underlying27 _ rfl 0 Try.sizeOf25) ?_
 simp only [Act.put, pu]
 refine pw_loadk (by rfl) 25 _ rfl _ (0) rfl r1.r (.slice (some ⟨gb, ob, none⟩) n c) rfl Try.isAgg25 ?_
 simp only [Act.put, pu]
 refine pw_value (by rfl) (.int .i64 n) (exec_len_s 25 _ rfl (some ⟨gb, ob, none⟩) n c rfl sl_link) ?_
 simp only [Act.put, pu]
 refine pw_value (by rfl) (.int .i64 ((n - 2 : Nat) : Int)) (exec_sub_in _ _ _ _ rfl n 2 rfl rfl (by omega) hn) ?_
 simp only [Act.put, pu]
 refine pw_value (by rfl) (.pointer (some ⟨gb, ob + (n - 2) * 5, none⟩)) (exec_index_s 25 _ _ rfl gb ob n c rfl (n - 2) rfl (by omega) _ Try.underlying25 5 Try.sizeOf69) ?_
 simp only [Act.put, pu]
 refine pw_value (by rfl) (.pointer (some ⟨gb, ob + (n - 2) * 5, none⟩)) (exec_field 69 _ 0 rfl gb (ob + (n - 2) * 5) rfl _ Try.underlying69 _ rfl 3 Try.sizeOf24) ?_
 simp only [Act.put, pu]
 refine pw_loadm (by rfl) 24 _ rfl _ (ob + (n - 2) * 5) rfl rB (natC P) (lk_part h1) _ Try.underlying24 rfl size_nat ?_
 simp only [Act.put, pu]
 refine pw_put (by rfl) 24 _ _ rfl _ rfl r2 (natC P) rfl (by exact size_nat) (by simp only [natC_size]) (natC_one _) ?_
 clear r2
 intro z3009 r2 k
 simp only [Act.put]
 replace r1 := k.row r1 (by simp <;> omega)
 replace sb := sb.trans (k.below w.heap.size sb.size (by simp <;> omega))
 clear k
 refine pw_nil ?_
 go_wp2
 exact ret_row rfl _ rfl r2 4 _ Try.underlying24 (by exact size_nat) rfl ⟨rfl, sb⟩
end Go.Proofs.Ytcgeimbfijpocaa
