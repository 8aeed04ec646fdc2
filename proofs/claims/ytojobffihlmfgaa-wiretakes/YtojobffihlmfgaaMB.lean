/- matrix's Deal. -/
import Derived.Test.YtojobffihlmfgaaMA
import Derived.Test.YtojobffihlmfgaaPY
import Derived.Test.YtojobffihlmfgaaSB
import Derived.Test.YtojobffihlmfgaaCO
import Derived.Test.YtojobffihlmfgaaPZ
import Derived.Test.YtojobffihlmfgaaSI
namespace Go.Proofs.Ytojobffihlmfgaa
open Go.RowKit
set_option linter.unusedVariables false
set_option linter.unusedSectionVars false
set_option linter.unusedSimpArgs false
/-- Slices of naturals, each in a block of its own. -/
structure PolAt (w : World) (base n : Nat) (V : Nat → Value) (B : Nat → Nat) (F : Nat → Nat → Nat) (m : Nat) : Prop where
 at' : ∀ j, j < m → ∃ ab c cur, V j = .slice ab n c ∧ NatsAt w ab n (F j) (B j) 0 cur 51
 low : ∀ j, j < m → base ≤ B j
 lt' : ∀ j, j < m → B j < w.heap.size
section
variable {w w2 : World} {base n m : Nat} {V : Nat → Value} {B : Nat → Nat} {F : Nat → Nat → Nat}
theorem PolAt.lt (h : PolAt w base n V B F m) {j : Nat} (hj : j < m) : B j < w.heap.size := h.lt' j hj
theorem PolAt.below (h : PolAt w base n V B F m) (hb : Below w.heap.size w w2) : PolAt w2 base n V B F m :=
 ⟨fun j hj => by
  obtain ⟨ab, c, cur, e, hn⟩ := h.at' j hj
  exact ⟨ab, c, cur, e, hn.below hb⟩, h.low, fun j hj => Nat.lt_of_lt_of_le (h.lt' j hj) hb.size⟩
theorem PolAt.on (h : PolAt w base n V B F m) {S : List Nat} (k : Kept S w w2) (hS : ∀ j, j < m → B j ∉ S) : PolAt w2 base n V B F m :=
 ⟨fun j hj => by
  obtain ⟨ab, c, cur, e, hn⟩ := h.at' j hj
  exact ⟨ab, c, cur, e, hn.at'.imp id fun ⟨h1, h2, h3⟩ => ⟨h1, k.rowR h2 (hS j hj), h3⟩, hn.lt⟩, h.low, fun j hj => Nat.lt_of_lt_of_le (h.lt' j hj) k.size⟩
def uxV (V : Nat → Value) (m : Nat) (v : Value) : Nat → Value := fun j => if j = m then v else V j
theorem uxV_at (V : Nat → Value) (m : Nat) (v : Value) : uxV V m v m = v := if_pos rfl
theorem uxV_lt (V : Nat → Value) {m j : Nat} (v : Value) (h : j < m) : uxV V m v j = V j := if_neg (by omega)
theorem PolAt.add (h : PolAt w base n V B F m) {v : Value} {b c : Nat} {ab : Option Addr} {cur : Array Value} (e : v = .slice ab n c) (hn : NatsAt w ab n (F m) b 0 cur 51) (h1 : base ≤ b) (h2 : b < w.heap.size) : PolAt w base n (uxV V m v) (upR B m b) F (m + 1) := by
 refine ⟨fun j hj => ?_, fun j hj => ?_, fun j hj => ?_⟩
 all_goals by_cases hjm : j = m
 ·subst hjm; rw [uxV_at, upR_at]; exact ⟨ab, c, cur, e, hn⟩
 ·rw [uxV_lt V v (by omega), upR_lt B (by omega)]; exact h.at' j (by omega)
 ·subst hjm; rw [upR_at]; exact h1
 ·rw [upR_lt B (by omega)]; exact h.low j (by omega)
 ·subst hjm; rw [upR_at]; exact h2
 ·rw [upR_lt B (by omega)]; exact h.lt' j (by omega)
theorem PolAt.pl {Q : Nat} [NeZero Q] (h : PolAt w base n V B F m) {j : Nat} (hj : j < m) (hn : n ≤ 1000) : PlA w (V j) (fl n (F j) : List (Fin Q)) := by
 obtain ⟨ab, c, cur, e, hna⟩ := h.at' j hj
 exact ⟨ab, n, c, F j, B j, 0, cur, 51, e, hn, hna, rfl⟩
end
/-- The coefficients of the polynomial of a number. -/
def dlF (t : Nat) (F1 F2 : Nat → Nat) (k j : Nat) : Nat := if j = 0 then F1 k else F2 (t * k + (j - 1))
section
variable {Q : Nat} [NeZero Q] {g gr gf P G : Nat} {w : World}
/-- A number's polynomial, as a list. -/
def dlL (Q : Nat) [NeZero Q] (t : Nat) (F1 F2 : Nat → Nat) (k : Nat) : List (Fin Q) := fl (t + 1) (dlF t F1 F2 k)
end
end Go.Proofs.Ytojobffihlmfgaa
/- matrix's holding; the search through parts. -/
namespace Go.Proofs.Ytojobffihlmfgaa
open Go.RowKit
set_option linter.unusedVariables false
set_option linter.unusedSectionVars false
set_option linter.unusedSimpArgs false
/-- Those that are taken of the first k: by their numbers, at most e, whose I is none of those ahead. -/
def hsL (I : Nat → Int) (HB : Nat → Bool) (e : Nat) : Nat → List Nat
 | 0 => []
 | k + 1 => if (!decide ((hsL I HB e k).length = e) && (!anB (fun j => decide (I ((hsL I HB e k).getD j 0) = I k)) (hsL I HB e k).length && HB k)) = true then hsL I HB e k ++ [k] else hsL I HB e k
section
variable {I : Nat → Int} {HB : Nat → Bool} {e : Nat}
end
end Go.Proofs.Ytojobffihlmfgaa
/- matrix's Recover. -/
namespace Go.Proofs.Ytojobffihlmfgaa
open Go.RowKit
set_option linter.unusedVariables false
set_option linter.unusedSectionVars false
set_option linter.unusedSimpArgs false
theorem FamAt.zero {w : World} {base n m : Nat} {R : Nat → Nat} {V : Nat → Nat → Nat} (h : FamAt w base n R V m) : FamAt w 0 n R V m := ⟨h.row, h.dis, fun _ _ => Nat.zero_le _⟩
section
variable {Q : Nat} [NeZero Q] {g gr gf P G : Nat} {w : World}
/-- The polynomials that are told, coefficient by coefficient. -/
def rcD (Q : Nat) [NeZero Q] (X : Nat → Nat) (Y : Nat → Nat → Nat) (N k j : Nat) : Nat := dotN (wtV (Q := Q) X N N 0 j) (fun i => Y i k) Q N
end
end Go.Proofs.Ytojobffihlmfgaa
/- What Recover tells; matrix's Digest; the document's Same of matrices. -/
namespace Go.Proofs.Ytojobffihlmfgaa
open Go.RowKit
set_option linter.unusedVariables false
set_option linter.unusedSectionVars false
set_option linter.unusedSimpArgs false
set_option maxRecDepth 100000 in
set_option maxHeartbeats 2000000 in
theorem rmsame_yes (a1 a2 : Option Addr) (n c1 c2 : Nat) (S1 S2 : Nat → Value) (g1 o1 g2 o2 : Nat) (b1 b2 : Array Value) (t1 t2 : TypeId) (N : Nat → Nat) (M : Nat → Nat → Nat) (w : World) (hn : n < 4611686018427387904) (hN : ∀ i, i < n → N i < 4611686018427387904) (h1 : VsAt w a1 n S1 g1 o1 b1 t1) (h2 : VsAt w a2 n S2 g2 o2 b2 t2) (hS1 : ∀ i, i < n → NrAt w (S1 i) (N i) (M i)) (hS2 : ∀ i, i < n → NrAt w (S2 i) (N i) (M i)) :
  Calls Try.prog 25 #[.slice a1 n c1, .slice a2 n c2] w fun e w' => e = .returned (.bool true) ∧ Below w.heap.size w w' := by
 have H1 : Hid (VsAt w a1 n S1 g1 o1 b1 t1) := h1
 have H2 : Hid (VsAt w a2 n S2 g2 o2 b2 t2) := h2
 clear h1 h2
 go_enter Try.func25, Try.ntmps25
 have sb := sbmk w
 (repeat ((fail_if_success with_reducible refine rg ?_); go_step))
 refine wp_region_pw ?_
 refine pw_value (by rfl) (.bool false) (fun _ => rfl) ?_
 simp only [Act.put, pu]
 refine pw_nil ?_
 (repeat ((fail_if_success with_reducible refine rg ?_); go_step))
 refine wp_region_pw ?_
 refine pw_mv (by rfl) rfl rfl ?_
 simp only [Act.put, pu]
 refine pw_value (by rfl) (.int .i64 n) (exec_len_s 26 _ rfl (a1) (n) (c1) rfl sl_mx) ?_
 simp only [Act.put, pu]
 refine pw_mv (by rfl) rfl rfl ?_
 simp only [Act.put, pu]
 refine pw_value (by rfl) (.int .i64 n) (exec_len_s 26 _ rfl (a2) (n) (c2) rfl sl_mx) ?_
 simp only [Act.put, pu]
 refine pw_value (by rfl) (.bool false) (exec_neq_k .i64 _ _ _ _ rfl n n rfl rfl false (by rw [decide_eq_true rfl]; rfl)) ?_
 simp only [Act.put, pu]
 refine pw_nil ?_
 (repeat ((fail_if_success with_reducible refine rg ?_); go_step))
 refine wp_region_pw ?_
 refine pw_value (by rfl) (.int .i64 0) (fun _ => rfl) ?_
 simp only [Act.put, pu]
 refine pw_nil ?_
 go_wp2_with fail
 go_loopg [5] n (fun x s5 wr => ∃ i : Nat, i + x = n ∧ s5 = .int .i64 i ∧ Below w.heap.size w wr)
 case atStart => exact ⟨0, by omega, rfl, sb⟩
 case round =>
  clear sb
  obtain ⟨i, hi, rfl, sb⟩ := hrel
  cases gk with
  | zero =>
   obtain rfl : i = n := by omega
   clear hi hS1 hS2 H1 H2
   (repeat ((fail_if_success with_reducible refine rg ?_); go_step))
   refine wp_region_pw ?_
   refine pw_mv (by rfl) rfl rfl ?_
   simp only [Act.put, pu]
   refine pw_mv (by rfl) rfl rfl ?_
   simp only [Act.put, pu]
   refine pw_value (by rfl) (.int .i64 i) (exec_len_s 26 _ rfl (a1) (i) (c1) rfl sl_mx) ?_
   simp only [Act.put, pu]
   refine pw_value (by rfl) (.bool false) (exec_lt_b _ _ _ _ rfl i i rfl rfl false (decide_eq_false (Int.lt_irrefl _))) ?_
   simp only [Act.put, pu]
   refine pw_nil ?_
   (repeat ((fail_if_success with_reducible refine rg ?_); go_step))
   refine wp_region_pw ?_
   refine pw_value (by rfl) (.bool true) (fun _ => rfl) ?_
   simp only [Act.put, pu]
   refine pw_nil ?_
   go_wp2
   go_ret
   exact ⟨rfl, sb⟩
  | succ x =>
   have hlt : i < n := by omega
   obtain h0 | ⟨rfl, r1, hb1⟩ := (H1.out.below sb).at'
   ·exact absurd h0 (by omega)
   obtain h0 | ⟨rfl, r2, hb2⟩ := (H2.out.below sb).at'
   ·exact absurd h0 (by omega)
   have hi1 := hb1 i hlt
   have hi2 := hb2 i hlt
   obtain ⟨e1, d1, x1, y1, z1, u1, q1, hn1⟩ := hS1 i hlt
   obtain ⟨e2, d2, x2, y2, z2, u2, q2, hn2⟩ := hS2 i hlt
   rw [q1] at hi1
   rw [q2] at hi2
   have hsa := fun w' (hb : Below w.heap.size w w') => rsame_yes (N i) d1 d2 e1 e2 (M i) x1 y1 x2 y2 z1 z2 u1 u2 w' (by have := hN i hlt; omega) (hn1.below hb) (hn2.below hb)
   clear hb1 hb2 hn1 hn2 q1 q2 hS1 hS2
   (repeat ((fail_if_success with_reducible refine rg ?_); go_step))
   refine wp_region_pw ?_
   refine pw_mv (by rfl) rfl rfl ?_
   simp only [Act.put, pu]
   refine pw_mv (by rfl) rfl rfl ?_
   simp only [Act.put, pu]
   refine pw_value (by rfl) (.int .i64 n) (exec_len_s 26 _ rfl (some ⟨g1, o1, none⟩) (n) (c1) rfl sl_mx) ?_
   simp only [Act.put, pu]
   refine pw_value (by rfl) (.bool true) (exec_lt_b _ _ _ _ rfl i n rfl rfl true (decide_eq_true (by omega))) ?_
   simp only [Act.put, pu]
   refine pw_nil ?_
   (repeat ((fail_if_success with_reducible refine rg ?_); go_step))
   refine wp_region_qw (by kernel_rfl) (by kernel_rfl) ?_
   refine qw_move (by rfl) rfl rfl ?_
   simp only [Act.put, pu]
   refine qw_move (by rfl) rfl rfl ?_
   simp only [Act.put, pu]
   refine qw_value (by rfl) (.pointer (some ⟨g1, o1 + i * 1, none⟩)) ((exec_index_s 26 _ _ rfl (g1) (o1) (n) (c1) rfl (i) rfl (hlt) _ Try.underlying26 1 Try.sizeOf27)) ?_
   simp only [Act.put, pu]
   refine qw_loadcR (by rfl) 27 _ rfl _ (o1 + i * 1) rfl r1 (.slice e1 (N i) d1) hi1 Try.isAgg27 ?_
   simp only [Act.put, pu]
   refine qw_move (by rfl) rfl rfl ?_
   simp only [Act.put, pu]
   refine qw_move (by rfl) rfl rfl ?_
   simp only [Act.put, pu]
   refine qw_value (by rfl) (.pointer (some ⟨g2, o2 + i * 1, none⟩)) ((exec_index_s 26 _ _ rfl (g2) (o2) (n) (c2) rfl (i) rfl (hlt) _ Try.underlying26 1 Try.sizeOf27)) ?_
   simp only [Act.put, pu]
   refine qw_loadcR (by rfl) 27 _ rfl _ (o2 + i * 1) rfl r2 (.slice e2 (N i) d2) hi2 Try.isAgg27 ?_
   simp only [Act.put, pu]
   refine qw_callK (by rfl) 26 _ _ rfl Try.func26 (by kernel_rfl) #[.slice e1 (N i) d1, .slice e2 (N i) d2] rfl _ (fun w' hb => hsa w' (below_on sb (Nat.le_refl _) hb)) ?_
   simp only [Act.put, pu]
   refine qw_value (by rfl) (.bool false) (exec_not _ _ rfl true rfl) ?_
   simp only [Act.put, pu]
   refine qw_nil ?_
   intro w6 hqb
   replace sb := below_on sb (Nat.le_refl _) hqb
   clear hqb
   (repeat ((fail_if_success with_reducible refine rg ?_); go_step))
   refine wp_region_pw ?_
   refine pw_mv (by rfl) rfl rfl ?_
   simp only [Act.put, pu]
   refine pw_value (by rfl) (.int .i64 ((i + 1 : Nat) : Int)) (exec_add_in _ _ _ _ rfl i 1 rfl rfl (by omega)) ?_
   simp only [Act.put, pu]
   refine pw_as (by rfl) rfl rfl ?_
   simp only [Act.put, pu]
   refine pw_nil ?_
   go_wp2
   go_roundg x
   case measure => omega
   case rel => exact ⟨i + 1, by omega, rfl, sb⟩
end Go.Proofs.Ytojobffihlmfgaa
