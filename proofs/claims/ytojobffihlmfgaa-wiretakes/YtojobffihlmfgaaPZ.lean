/- The document's Same of naturals that are the same. -/
import Derived.Test.YtojobffihlmfgaaTA
import Derived.Test.YtojobffihlmfgaaFA
import Derived.Test.YtojobffihlmfgaaPY
import Derived.Test.YtojobffihlmfgaaGV
namespace Go.Proofs.Ytojobffihlmfgaa
open Go.RowKit
set_option linter.unusedVariables false
set_option maxRecDepth 100000 in
set_option maxHeartbeats 2000000 in
theorem rsame_yes (n ca ce : Nat) (ab ae : Option Addr) (a' : Nat → Nat) (gb ob ge oe : Nat) (bcs ecs : Array Value) (tb te : TypeId) (w : World) (hn : n < 9223372036854775808) (hna : NatsAt w ab n a' gb ob bcs tb) (hnb : NatsAt w ae n a' ge oe ecs te) :
  Calls Try.prog 26 #[.slice ab n ca, .slice ae n ce] w fun e w' => e = .returned (.bool true) ∧ Below w.heap.size w w' := by
 have HB : Hid (NatsAt w ab n a' gb ob bcs tb) := hna
 have HE : Hid (NatsAt w ae n a' ge oe ecs te) := hnb
 clear hna hnb
 go_enter Try.func26, Try.ntmps26
 have sb := sbmk w
 (repeat ((fail_if_success with_reducible refine rg ?_); go_step))
 refine wp_region_pw ?_
 refine pw_value (by rfl) (.bool false) (fun _ => rfl) ?_
 simp only [Act.put, pu]
 refine pw_nil ?_
 (repeat ((fail_if_success with_reducible refine rg ?_); go_step))
 refine wp_region_pw ?_
 refine pw_mv (by rfl) rfl rfl ?_
 simp only [Act.put, pu]
 refine pw_value (by rfl) (.int .i64 n) (exec_len_s 27 _ rfl ab n ca rfl sl_natsX) ?_
 simp only [Act.put, pu]
 refine pw_mv (by rfl) rfl rfl ?_
 simp only [Act.put, pu]
 refine pw_value (by rfl) (.int .i64 n) (exec_len_s 27 _ rfl ae n ce rfl sl_natsX) ?_
 simp only [Act.put, pu]
 refine pw_value (by rfl) (.bool false) (exec_neq_k .i64 _ _ _ _ rfl n n rfl rfl false (by rw [decide_eq_true rfl]; rfl)) ?_
 simp only [Act.put, pu]
 refine pw_nil ?_
 (repeat ((fail_if_success with_reducible refine rg ?_); go_step))
 refine wp_region_pw ?_
 refine pw_value (by rfl) (.int .i64 0) (fun _ => rfl) ?_
 simp only [Act.put, pu]
 refine pw_nil ?_
 go_wp2_with fail
 go_loopg [5] n (fun g s5 wr => ∃ i : Nat, i + g = n ∧ s5 = .int .i64 i ∧ Below w.heap.size w wr)
 case atStart => exact ⟨0, by omega, rfl, sb⟩
 case round =>
  clear sb
  obtain ⟨i, hi, rfl, sb⟩ := hrel
  cases gk with
  | zero =>
   obtain rfl : i = n := by omega
   clear hi
   (repeat ((fail_if_success with_reducible refine rg ?_); go_step))
   refine wp_region_pw ?_
   refine pw_mv (by rfl) rfl rfl ?_
   simp only [Act.put, pu]
   refine pw_mv (by rfl) rfl rfl ?_
   simp only [Act.put, pu]
   refine pw_value (by rfl) (.int .i64 i) (exec_len_s 27 _ rfl ab i ca rfl sl_natsX) ?_
   simp only [Act.put, pu]
   refine pw_value (by rfl) (.bool false) (exec_lt_b _ _ _ _ rfl i i rfl rfl false (decide_eq_false (Int.lt_irrefl _))) ?_
   simp only [Act.put, pu]
   refine pw_nil ?_
   (repeat ((fail_if_success with_reducible refine rg ?_); go_step))
   refine wp_region_pw ?_
   refine pw_value (by rfl) (.bool true) (fun _ => rfl) ?_
   simp only [Act.put, pu]
   refine pw_nil ?_
   go_wp2
   go_ret
   exact ⟨rfl, sb⟩
  | succ g =>
   have hlt : i < n := by omega
   (repeat ((fail_if_success with_reducible refine rg ?_); go_step))
   refine wp_region_pw ?_
   refine pw_mv (by rfl) rfl rfl ?_
   simp only [Act.put, pu]
   refine pw_mv (by rfl) rfl rfl ?_
   simp only [Act.put, pu]
   refine pw_value (by rfl) (.int .i64 n) (exec_len_s 27 _ rfl ab n ca rfl sl_natsX) ?_
   simp only [Act.put, pu]
   refine pw_value (by rfl) (.bool true) (exec_lt_b _ _ _ _ rfl i n rfl rfl true (decide_eq_true (by omega))) ?_
   simp only [Act.put, pu]
   refine pw_nil ?_
   obtain h0 | ⟨rfl, rB, hbt⟩ := (HB.out.below sb).at'
   ·exact absurd h0 (by omega)
   obtain h0 | ⟨rfl, rE, het⟩ := (HE.out.below sb).at'
   ·exact absurd h0 (by omega)
   have hbt' := hbt i hlt
   have het' := het i hlt
   clear hbt het
   (repeat ((fail_if_success with_reducible refine rg ?_); go_step))
   refine wp_region_qw (by kernel_rfl) (by kernel_rfl) ?_
   refine qw_move (by rfl) rfl rfl ?_
   simp only [Act.put, pu]
   refine qw_move (by rfl) rfl rfl ?_
   simp only [Act.put, pu]
   refine qw_value (by rfl) (.pointer (some ⟨gb, ob + i * 4, none⟩)) ((exec_index_s 27 _ _ rfl gb ob n ca rfl i rfl hlt _ Try.underlying27 4 size_nat4)) ?_
   simp only [Act.put, pu]
   refine qw_loadmR (by rfl) 51 _ rfl _ (ob + i * 4) rfl rB (natC (a' i)) hbt' _ Try.underlying51 rfl size_nat ?_
   simp only [Act.put, pu]
   refine qw_move (by rfl) rfl rfl ?_
   simp only [Act.put, pu]
   refine qw_move (by rfl) rfl rfl ?_
   simp only [Act.put, pu]
   refine qw_value (by rfl) (.pointer (some ⟨ge, oe + i * 4, none⟩)) ((exec_index_s 27 _ _ rfl ge oe n ce rfl i rfl hlt _ Try.underlying27 4 size_nat4)) ?_
   simp only [Act.put, pu]
   refine qw_loadmR (by rfl) 51 _ rfl _ (oe + i * 4) rfl rE (natC (a' i)) het' _ Try.underlying51 rfl size_nat ?_
   simp only [Act.put, pu]
   refine qw_value (by rfl) (.bool false) ((fun w' => (exec_neq_nat _ _ _ rfl (a' i) (a' i) rfl rfl w').trans (by rw [neq_no]))) ?_
   simp only [Act.put, pu]
   refine qw_nil ?_
   intro w6 hqb
   replace sb := below_on sb (Nat.le_refl _) hqb
   clear hqb
   clear rB rE hbt' het'
   (repeat ((fail_if_success with_reducible refine rg ?_); go_step))
   refine wp_region_pw ?_
   refine pw_mv (by rfl) rfl rfl ?_
   simp only [Act.put, pu]
   refine pw_value (by rfl) (.int .i64 ((i + 1 : Nat) : Int)) (exec_add_in _ _ _ _ rfl i 1 rfl rfl (by omega)) ?_
   simp only [Act.put, pu]
   refine pw_as (by rfl) rfl rfl ?_
   simp only [Act.put, pu]
   refine pw_nil ?_
   go_wp2
   go_roundg g
   case measure => omega
   case rel => exact ⟨i + 1, by omega, rfl, sb⟩
end Go.Proofs.Ytojobffihlmfgaa
/- Small groups, and lists of three; naturals that are a polynomial's. -/
namespace Go.Proofs.Ytojobffihlmfgaa
open Go.RowKit
set_option linter.unusedVariables false
def th3 (A B C i : Nat) : Nat := if i = 0 then A else if i = 1 then B else C
/-- A small group's Q; its P, its G. -/
def smQ (a0 : Int) : Nat := lN (pk2 (pkB a0) otL leL) (3 - 2)
def smP (a0 : Int) : Nat := lN (pk2 (pkB a0) otL leL) (3 - 1)
def smG (a0 : Int) : Nat := pk2 (pkB a0) otG leG
instance : NeZero 1966023127 := ⟨by decide⟩
end Go.Proofs.Ytojobffihlmfgaa
/- The document's All, Nats of layer 8, its Trim, Eval, at, Add, Same of layer 12; is. -/
namespace Go.Proofs.Ytojobffihlmfgaa
open Go.RowKit
set_option linter.unusedVariables false
set_option linter.unusedSectionVars false
section
variable {Q : Nat} [NeZero Q]
/-- A slice of ints that are a list's numbers. -/
def IlAt (w : World) (v : Value) (L : List (Fin Q)) : Prop := ∃ ab c gb ob bcs tb, v = .slice ab L.length c ∧ L.length ≤ c ∧ NumsAt w ab L.length (fun i => (pco L i).val) gb ob bcs tb
theorem IlAt.below {w w' : World} {v : Value} {L : List (Fin Q)} (h : IlAt w v L) (hb : Below w.heap.size w w') : IlAt w' v L := by
 obtain ⟨ab, c, gb, ob, bcs, tb, h1, h2, h3⟩ := h
 exact ⟨ab, c, gb, ob, bcs, tb, h1, h2, h3.below hb⟩
end
/-- The document's sums: of so many, and the power of x. -/
def rEv (q : Nat) (u : Nat → Nat) (x : Nat) : Nat → Nat × Nat
 | 0 => (0, 1)
 | k + 1 => (((rEv q u x k).1 + u k * (rEv q u x k).2 % q) % q, (rEv q u x k).2 * x % q)
end Go.Proofs.Ytojobffihlmfgaa
/- The document's All, Nats, Same, Mul, Through; is. -/
namespace Go.Proofs.Ytojobffihlmfgaa
open Go.RowKit
set_option linter.unusedVariables false
set_option linter.unusedSectionVars false
/-- The document's products, row by row. -/
def rOut (q m : Nat) (A B : Nat → Nat) : Nat → Nat → Nat
 | 0, _ => 0
 | i + 1, j => if i ≤ j ∧ j < i + m then (rOut q m A B i j + A i * B (j - i) % q) % q else rOut q m A B i j
def rIn (q m : Nat) (A B : Nat → Nat) (i k j : Nat) : Nat := if i ≤ j ∧ j < i + k then (rOut q m A B i j + A i * B (j - i) % q) % q else rOut q m A B i j
end Go.Proofs.Ytojobffihlmfgaa
/- The document's Through. -/
namespace Go.Proofs.Ytojobffihlmfgaa
open Go.RowKit
set_option linter.unusedVariables false
set_option linter.unusedSectionVars false
section
variable {Q : Nat} [NeZero Q]
end
end Go.Proofs.Ytojobffihlmfgaa
