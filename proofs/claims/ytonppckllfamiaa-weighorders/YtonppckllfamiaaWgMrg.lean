/- slices' symMerge, stable, SortStableFunc, with the closure of weigh's Order. -/
import Derived.Test.YtonppckllfamiaaWgIns
import Derived.Deep.Light
namespace Go.Proofs.Ytonppckllfamiaa
open Go.RowKit
set_option linter.unusedVariables false
set_option linter.unusedSectionVars false
set_option linter.unusedSimpArgs false
theorem x_half {P : Program} {o : Oper} {ρ : Operand → Value} (t : TypeId) (x y : Operand) (u : TypeId) (ho : o.op = .binOp .shr t x y u) (n : Nat) (hx : ρ x = .int .u64 (n : Nat)) (hy : ρ y = .int .u64 1) (w : World) :
  (execOp ρ o).run P w = .ok (.value (.int .u64 ((n / 2 : Nat) : Int))) w := by
 unfold execOp
 simp only [ho, hx, hy]
 simp [go_sem, Int.shiftRight_eq_div_pow]
theorem x_not {P : Program} {o : Oper} {ρ : Operand → Value} (t : TypeId) (x : Operand) (ho : o.op = .unOp .not t x) (b : Bool) (hx : ρ x = .bool b) (w : World) : (execOp ρ o).run P w = .ok (.value (.bool (!b))) w := by
 unfold execOp
 simp only [ho, hx]
 simp [go_sem]
theorem Srt.kle {κ : Nat → Int} {a b : Nat} {u : Nat → Nat} (h : Srt κ a b u) {i j : Nat} (h1 : a ≤ i) (h2 : i ≤ j) (h3 : j < b) : κ (u i) ≤ κ (u j) := by
 by_cases e : i = j
 ·rw [e]; exact Int.le_refl _
 ·have := h i j h1 (by omega) h3
  unfold ahd at this
  omega
theorem mvR_pm {a b k : Nat} {u : Nat → Nat} (h : a ≤ k) (hk : k + 1 < b) (hp : Pm a b u (mvR a k u)) : Pm a b u (mvR a (k + 1) u) := by
 rw [← mvR_s u h]
 exact hp.tr (Pm.swap (by omega) (by omega) (by omega) (by omega))
theorem mvL_pm {a b m k : Nat} {u : Nat → Nat} (h : k ≤ m) (hk : a < k) (hb : m < b) (hp : Pm a b u (mvL m k u)) : Pm a b u (mvL m (k - 1) u) := by
 rw [← mvL_s u h (by omega)]
 exact hp.tr (Pm.swap (by omega) (by omega) (by omega) (by omega))
/-- Behind the search in the middle. -/
theorem mrg_pre {κ : Nat → Int} {a m b s mid lo hi : Nat} {u : Nat → Nat} (hM : MP κ a m b u) (b2 : a ≤ lo ∧ lo ≤ hi ∧ hi ≤ m ∧ hi ≤ mid) (b3 : (lo = a ∨ lo + b = mid + m) ∧ (hi = m ∨ hi = mid) ∧ mid + m ≤ lo + b) (h1 : lo ≤ s) (h3 : s ≤ hi) (m1 : 2 * mid ≤ a + b) (m2 : a + b ≤ 2 * mid + 1) (m3 : a < mid) (m4 : mid < b)
  (hT : ∀ c, lo ≤ c → c < s → ¬ κ (u (mid + m - 1 - c)) < κ (u c)) (hF : ∀ c, s ≤ c → c < hi → κ (u (mid + m - 1 - c)) < κ (u c)) :
  ∃ e, Hid (mid + m - s = e) ∧ a ≤ s ∧ s ≤ m ∧ m ≤ e ∧ e ≤ b ∧ (mid + m ≤ s + e ∧ s + e ≤ mid + m) ∧ ∃ u1, MP κ a s mid u1 ∧ MP κ mid e b u1 ∧ (∀ p q, a ≤ p → p < mid → mid ≤ q → q < b → ahd κ (u1 p) (u1 q)) ∧ Pm a b u u1 ∧ Hid (¬ (s < m ∧ m < e) → u1 = u) ∧ Hid (s < m → m < e → u1 = rot s m e u) := by
 have e1 : m ≤ mid + m - s := by omega
 have e2 : mid + m - s ≤ b := by omega
 have hmd := mrg_mid (mid := mid) (s := s) (e := mid + m - s) hM (by omega) (by omega) e1 e2 (by omega) (fun q1 q2 => by have := hT (s - 1) (by omega) (by omega); rw [show mid + m - 1 - (s - 1) = mid + m - s by omega] at this; exact this) (fun q1 q2 => by have := hF s (by omega) (by omega); rw [show mid + m - 1 - s = mid + m - s - 1 by omega] at this; exact this)
 exact ⟨_, rfl, by omega, by omega, e1, e2, by omega, _, hmd.1, hmd.2.1, hmd.2.2, (rot_pm u (by omega) e1).wide (by omega) e2, fun h => rot_id u (by omega) e1 h, fun _ _ => rfl⟩
set_option maxRecDepth 100000 in
set_option maxHeartbeats 2000000 in
theorem mrg_1 (g n a m b gl : Nat) (u : Nat → Nat) (κ : Nat → Int) (w : World) (hm : m ≤ a + 1) (ham : a < m) (hmb : m < b) (hb : b ≤ n) (hn : n ≤ 1000) (hu : ∀ i, i < n → u i < n) (hM : MP κ a m b u) (rD : Row w g (isC n u) 3) (hc : CA w g n κ gl) :
  Calls Try.prog 37 #[.slice (some ⟨g, 0, none⟩) n n, .int .i64 (a : Nat), .int .i64 (m : Nat), .int .i64 (b : Nat), .func (.func 31) #[] #[.pointer (some ⟨gl, 0, none⟩)]] w fun e w' => e = .returned (.tuple #[]) ∧ ∃ v, Pm a b u v ∧ Srt κ a b v ∧ Row w' g (isC n v) 3 ∧ Kept [g] w w' := by
 have hlt := rD.lt
 have sk := Kept.refl [g] w
 go_enter Try.func37, Try.ntmps37
 (repeat ((fail_if_success with_reducible refine rg ?_); go_step))
 refine wp_region_pw ?_
 refine pw_mv (by rfl) rfl rfl ?_
 simp only [Act.put, pu]
 refine pw_mv (by rfl) rfl rfl ?_
 simp only [Act.put, pu]
 refine pw_value (by rfl) (.int .i64 ((m - a : Nat) : Int)) (exec_sub_in _ _ _ _ rfl (m) (a) rfl rfl (by omega) (by omega)) ?_
 simp only [Act.put, pu]
 refine pw_value (by rfl) (.bool true) (exec_eql_k .i64 _ _ _ _ rfl ((m - a : Nat) : Int) 1 rfl rfl true (decide_eq_true (by omega))) ?_
 simp only [Act.put, pu]
 refine pw_nil ?_
 (repeat ((fail_if_success with_reducible refine rg ?_); go_step))
 refine wp_region_pw ?_
 refine pw_mv (by rfl) rfl rfl ?_
 simp only [Act.put, pu]
 refine pw_as (by rfl) rfl rfl ?_
 simp only [Act.put, pu]
 refine pw_nil ?_
 (repeat ((fail_if_success with_reducible refine rg ?_); go_step))
 refine wp_region_pw ?_
 refine pw_mv (by rfl) rfl rfl ?_
 simp only [Act.put, pu]
 refine pw_as (by rfl) rfl rfl ?_
 simp only [Act.put, pu]
 refine pw_nil ?_
 go_wp2_with fail
 go_loopg [10, 11, 12] (b - m) (fun x s10 s11 s12 wr => ∃ i j : Nat, j - i = x ∧ s10 = .int .i64 i ∧ s11 = .int .i64 j ∧ m ≤ i ∧ i ≤ j ∧ j ≤ b ∧ (∀ q, m ≤ q → q < i → κ (u q) < κ (u a)) ∧ (∀ q, j ≤ q → q < b → ¬ κ (u q) < κ (u a)) ∧ Row wr g (isC n u) 3 ∧ Kept [g] w wr)
 case atStart => exact ⟨m, b, rfl, rfl, rfl, by omega, by omega, by omega, fun q h1 h2 => by omega, fun q h1 h2 => by omega, rD, sk⟩
 case round =>
  clear rD sk
  obtain ⟨i, j, hx, rfl, rfl, h1, h2, h3, hl, hr, rD, sk⟩ := hrel
  by_cases hij : i < j
  ·obtain ⟨h, hh⟩ : ∃ h, (i + j) / 2 = h := ⟨_, rfl⟩
   have hhi : i ≤ h := by omega
   have hhj : h < j := by omega
   by_cases hk : κ (u h) < κ (u a)
   ·have hB : decide (cpz (κ (u h)) (κ (u a)) < 0) = true := decide_eq_true ((cpz_lt _ _).2 hk)
    (repeat ((fail_if_success with_reducible refine rg ?_); go_step))
    refine wp_region_pw ?_
    refine pw_mv (by rfl) rfl rfl ?_
    simp only [Act.put, pu]
    refine pw_mv (by rfl) rfl rfl ?_
    simp only [Act.put, pu]
    refine pw_value (by rfl) (.bool true) (exec_lt_b _ _ _ _ rfl (i : Nat) (j : Nat) rfl rfl true (decide_eq_true (by omega))) ?_
    simp only [Act.put, pu]
    refine pw_nil ?_
    (repeat ((fail_if_success with_reducible refine rg ?_); go_step))
    refine wp_region_pw ?_
    refine pw_mv (by rfl) rfl rfl ?_
    simp only [Act.put, pu]
    refine pw_mv (by rfl) rfl rfl ?_
    simp only [Act.put, pu]
    refine pw_value (by rfl) (.int .i64 ((i + j : Nat) : Int)) (exec_add_in _ _ _ _ rfl (i) (j) rfl rfl (by omega)) ?_
    simp only [Act.put, pu]
    refine pw_value (by rfl) (.int .u64 (((i + j) : Nat) : Int)) ((y_conv 3 52 _ rfl .i64 .u64 Try.underlying3 Try.underlying52 (((i + j) : Nat) : Int) (((i + j) : Nat) : Int) rfl (wrap_us _ (by omega) (by omega)))) ?_
    simp only [Act.put, pu]
    refine pw_value (by rfl) (.int .u64 (((i + j) / 2 : Nat) : Int)) (x_half _ _ _ _ rfl (i + j) rfl rfl) ?_
    simp only [Act.put, pu]
    refine pw_value (by rfl) (.int .i64 (((i + j) / 2 : Nat) : Int)) ((y_conv 52 3 _ rfl .u64 .i64 Try.underlying52 Try.underlying3 (((i + j) / 2 : Nat) : Int) (((i + j) / 2 : Nat) : Int) rfl (wrap_sm _ (by omega) (by omega)))) ?_
    simp only [Act.put, pu]
    refine pw_as (by rfl) rfl rfl ?_
    simp only [Act.put, pu]
    refine pw_nil ?_
    rw [hh]
    (repeat ((fail_if_success with_reducible refine rg ?_); go_step))
    refine wp_region_qw (by kernel_rfl) (by kernel_rfl) ?_
    refine qw_move (by rfl) rfl rfl ?_
    simp only [Act.put, pu]
    refine qw_move (by rfl) rfl rfl ?_
    simp only [Act.put, pu]
    refine qw_move (by rfl) rfl rfl ?_
    simp only [Act.put, pu]
    refine qw_value (by rfl) (.pointer (some ⟨g, 0 + h * 1, none⟩)) ((exec_index_s 34 _ _ rfl (g) (0) (n) (n) rfl (h) rfl (by omega) _ Try.underlying34 1 Try.sizeOf3)) ?_
    simp only [Act.put, pu]
    refine qw_loadc (by rfl) 3 _ rfl _ (0 + h * 1) rfl rD (.int .i64 (u (h) : Nat)) (isC_at n u (h) (by omega)) Try.isAgg3 ?_
    simp only [Act.put, pu]
    refine qw_move (by rfl) rfl rfl ?_
    simp only [Act.put, pu]
    refine qw_move (by rfl) rfl rfl ?_
    simp only [Act.put, pu]
    refine qw_value (by rfl) (.pointer (some ⟨g, 0 + a * 1, none⟩)) ((exec_index_s 34 _ _ rfl (g) (0) (n) (n) rfl (a) rfl (by omega) _ Try.underlying34 1 Try.sizeOf3)) ?_
    simp only [Act.put, pu]
    refine qw_loadc (by rfl) 3 _ rfl _ (0 + a * 1) rfl rD (.int .i64 (u (a) : Nat)) (isC_at n u (a) (by omega)) Try.isAgg3 ?_
    simp only [Act.put, pu]
    refine qw_callC (by rfl) 31 _ _ _ rfl #[.pointer (some ⟨gl, 0, none⟩)] rfl Try.func31 (by kernel_rfl) #[.int .i64 (u h : Nat), .int .i64 (u a : Nat)] rfl (.int .i64 (cpz (κ (u h)) (κ (u a)))) (fun w' hb => hc w' _ _ (sk.on hb) (hu h (by omega)) (hu a (by omega))) ?_
    simp only [Act.put, pu]
    refine qw_value (by rfl) (.bool true) (exec_lt_b _ _ _ _ rfl (cpz (κ (u h)) (κ (u a))) 0 rfl rfl true hB) ?_
    simp only [Act.put, pu]
    refine qw_nil ?_
    intro w2 hqb
    replace rD := rD.belowAll hqb
    replace sk := sk.on hqb
    clear hqb
    (repeat ((fail_if_success with_reducible refine rg ?_); go_step))
    refine wp_region_pw ?_
    refine pw_mv (by rfl) rfl rfl ?_
    simp only [Act.put, pu]
    refine pw_value (by rfl) (.int .i64 ((h + 1 : Nat) : Int)) (exec_add_in _ _ _ _ rfl (h) (1) rfl rfl (by omega)) ?_
    simp only [Act.put, pu]
    refine pw_as (by rfl) rfl rfl ?_
    simp only [Act.put, pu]
    refine pw_nil ?_
    go_wp2
    go_roundg (j - (h + 1))
    case measure => omega
    case rel => exact ⟨h + 1, j, rfl, rfl, rfl, by omega, by omega, h3, fun q q1 q2 => Int.lt_of_le_of_lt (hM.r.kle q1 (by omega) (by omega)) hk, hr, rD, sk⟩
   ·have hB : decide (cpz (κ (u h)) (κ (u a)) < 0) = false := decide_eq_false (fun h => hk ((cpz_lt _ _).1 h))
    have HN : Hid (∀ q, h ≤ q → q < b → ¬ κ (u q) < κ (u a)) := fun q q1 q2 c => hk (Int.lt_of_le_of_lt (hM.r.kle (by omega) q1 q2) c)
    (repeat ((fail_if_success with_reducible refine rg ?_); go_step))
    refine wp_region_pw ?_
    refine pw_mv (by rfl) rfl rfl ?_
    simp only [Act.put, pu]
    refine pw_mv (by rfl) rfl rfl ?_
    simp only [Act.put, pu]
    refine pw_value (by rfl) (.bool true) (exec_lt_b _ _ _ _ rfl (i : Nat) (j : Nat) rfl rfl true (decide_eq_true (by omega))) ?_
    simp only [Act.put, pu]
    refine pw_nil ?_
    (repeat ((fail_if_success with_reducible refine rg ?_); go_step))
    refine wp_region_pw ?_
    refine pw_mv (by rfl) rfl rfl ?_
    simp only [Act.put, pu]
    refine pw_mv (by rfl) rfl rfl ?_
    simp only [Act.put, pu]
    refine pw_value (by rfl) (.int .i64 ((i + j : Nat) : Int)) (exec_add_in _ _ _ _ rfl (i) (j) rfl rfl (by omega)) ?_
    simp only [Act.put, pu]
    refine pw_value (by rfl) (.int .u64 (((i + j) : Nat) : Int)) ((y_conv 3 52 _ rfl .i64 .u64 Try.underlying3 Try.underlying52 (((i + j) : Nat) : Int) (((i + j) : Nat) : Int) rfl (wrap_us _ (by omega) (by omega)))) ?_
    simp only [Act.put, pu]
    refine pw_value (by rfl) (.int .u64 (((i + j) / 2 : Nat) : Int)) (x_half _ _ _ _ rfl (i + j) rfl rfl) ?_
    simp only [Act.put, pu]
    refine pw_value (by rfl) (.int .i64 (((i + j) / 2 : Nat) : Int)) ((y_conv 52 3 _ rfl .u64 .i64 Try.underlying52 Try.underlying3 (((i + j) / 2 : Nat) : Int) (((i + j) / 2 : Nat) : Int) rfl (wrap_sm _ (by omega) (by omega)))) ?_
    simp only [Act.put, pu]
    refine pw_as (by rfl) rfl rfl ?_
    simp only [Act.put, pu]
    refine pw_nil ?_
    rw [hh]
    (repeat ((fail_if_success with_reducible refine rg ?_); go_step))
    refine wp_region_qw (by kernel_rfl) (by kernel_rfl) ?_
    refine qw_move (by rfl) rfl rfl ?_
    simp only [Act.put, pu]
    refine qw_move (by rfl) rfl rfl ?_
    simp only [Act.put, pu]
    refine qw_move (by rfl) rfl rfl ?_
    simp only [Act.put, pu]
    refine qw_value (by rfl) (.pointer (some ⟨g, 0 + h * 1, none⟩)) ((exec_index_s 34 _ _ rfl (g) (0) (n) (n) rfl (h) rfl (by omega) _ Try.underlying34 1 Try.sizeOf3)) ?_
    simp only [Act.put, pu]
    refine qw_loadc (by rfl) 3 _ rfl _ (0 + h * 1) rfl rD (.int .i64 (u (h) : Nat)) (isC_at n u (h) (by omega)) Try.isAgg3 ?_
    simp only [Act.put, pu]
    refine qw_move (by rfl) rfl rfl ?_
    simp only [Act.put, pu]
    refine qw_move (by rfl) rfl rfl ?_
    simp only [Act.put, pu]
    refine qw_value (by rfl) (.pointer (some ⟨g, 0 + a * 1, none⟩)) ((exec_index_s 34 _ _ rfl (g) (0) (n) (n) rfl (a) rfl (by omega) _ Try.underlying34 1 Try.sizeOf3)) ?_
    simp only [Act.put, pu]
    refine qw_loadc (by rfl) 3 _ rfl _ (0 + a * 1) rfl rD (.int .i64 (u (a) : Nat)) (isC_at n u (a) (by omega)) Try.isAgg3 ?_
    simp only [Act.put, pu]
    refine qw_callC (by rfl) 31 _ _ _ rfl #[.pointer (some ⟨gl, 0, none⟩)] rfl Try.func31 (by kernel_rfl) #[.int .i64 (u h : Nat), .int .i64 (u a : Nat)] rfl (.int .i64 (cpz (κ (u h)) (κ (u a)))) (fun w' hb => hc w' _ _ (sk.on hb) (hu h (by omega)) (hu a (by omega))) ?_
    simp only [Act.put, pu]
    refine qw_value (by rfl) (.bool false) (exec_lt_b _ _ _ _ rfl (cpz (κ (u h)) (κ (u a))) 0 rfl rfl false hB) ?_
    simp only [Act.put, pu]
    refine qw_nil ?_
    intro w2 hqb
    replace rD := rD.belowAll hqb
    replace sk := sk.on hqb
    clear hqb
    (repeat ((fail_if_success with_reducible refine rg ?_); go_step))
    refine wp_region_pw ?_
    refine pw_mv (by rfl) rfl rfl ?_
    simp only [Act.put, pu]
    refine pw_as (by rfl) rfl rfl ?_
    simp only [Act.put, pu]
    refine pw_nil ?_
    go_wp2
    go_roundg (h - i)
    case measure => omega
    case rel => exact ⟨i, h, rfl, rfl, rfl, h1, hhi, by omega, hl, HN.out, rD, sk⟩
  ·obtain rfl : i = j := by omega
   have hS := mrg_one (i := i) (by rw [show a + 1 = m by omega]; exact hM) (by omega) h3 (fun q q1 q2 => hl q (by omega) q2) hr
   (repeat ((fail_if_success with_reducible refine rg ?_); go_step))
   refine wp_region_pw ?_
   refine pw_mv (by rfl) rfl rfl ?_
   simp only [Act.put, pu]
   refine pw_mv (by rfl) rfl rfl ?_
   simp only [Act.put, pu]
   refine pw_value (by rfl) (.bool false) (exec_lt_b _ _ _ _ rfl (i : Nat) (i : Nat) rfl rfl false (decide_eq_false (by omega))) ?_
   simp only [Act.put, pu]
   refine pw_nil ?_
   (repeat ((fail_if_success with_reducible refine rg ?_); go_step))
   refine wp_region_pw ?_
   refine pw_mv (by rfl) rfl rfl ?_
   simp only [Act.put, pu]
   refine pw_as (by rfl) rfl rfl ?_
   simp only [Act.put, pu]
   refine pw_nil ?_
   go_wp2_with fail
   go_loopg [13] (i - 1 - a) (fun x s13 wr => ∃ k : Nat, i - 1 - k = x ∧ s13 = .int .i64 k ∧ a ≤ k ∧ k ≤ i - 1 ∧ Pm a b u (mvR a k u) ∧ Row wr g (isC n (mvR a k u)) 3 ∧ Kept [g] w wr)
   case atStart => exact ⟨a, rfl, rfl, by omega, by omega, by rw [mvR_0]; exact Pm.refl _ _ _, by rw [mvR_0]; exact rD, sk⟩
   case round =>
    clear rD sk
    obtain ⟨k, hxk, rfl, k1, k2, hP, rD, sk⟩ := hrel
    by_cases hki : k < i - 1
    ·have hP2 := mvR_pm k1 (by omega) hP
     have hs := mvR_s (k := k) u k1
     generalize mvR a k u = X at *
     (repeat ((fail_if_success with_reducible refine rg ?_); go_step))
     refine wp_region_pw ?_
     refine pw_mv (by rfl) rfl rfl ?_
     simp only [Act.put, pu]
     refine pw_mv (by rfl) rfl rfl ?_
     simp only [Act.put, pu]
     refine pw_value (by rfl) (.int .i64 ((i - 1 : Nat) : Int)) (exec_sub_in _ _ _ _ rfl (i) (1) rfl rfl (by omega) (by omega)) ?_
     simp only [Act.put, pu]
     refine pw_value (by rfl) (.bool true) (exec_lt_b _ _ _ _ rfl (k : Nat) ((i - 1 : Nat) : Nat) rfl rfl true (decide_eq_true (by omega))) ?_
     simp only [Act.put, pu]
     refine pw_nil ?_
     have hc1 := sw1 n X (k) ((k + 1))
     have hc2 := sw2 n X (k) ((k + 1))
     (repeat ((fail_if_success with_reducible refine rg ?_); go_step))
     apply wp_region_mix (by kernel_rfl) [(g, 3, isC n X)] [_, _, _, _, _, _, _, _, _, _, _, _, _, _, _, _, _, _] ⟨rD, trivial⟩ (by simp <;> omega)
     ·intro p
      refine mx_move rfl rfl ?_
      simp only [Act.put, pu]
      refine mx_move rfl rfl ?_
      simp only [Act.put, pu]
      refine mx_move rfl rfl ?_
      simp only [Act.put, pu]
      refine mx_move rfl rfl ?_
      simp only [Act.put, pu]
      refine mx_val (.int .i64 ((k + 1 : Nat) : Int)) (exec_add_in _ _ _ _ rfl (k) (1) rfl rfl (by omega)) ?_
      simp only [Act.put, pu]
      refine mx_move rfl rfl ?_
      simp only [Act.put, pu]
      refine mx_move rfl rfl ?_
      simp only [Act.put, pu]
      refine mx_val (.int .i64 ((k + 1 : Nat) : Int)) (exec_add_in _ _ _ _ rfl (k) (1) rfl rfl (by omega)) ?_
      simp only [Act.put, pu]
      refine mx_val (.pointer (some ⟨g, 0 + (k + 1) * 1, none⟩)) ((exec_index_s 34 _ _ rfl (g) (0) (n) (n) rfl ((k + 1)) rfl (by omega) _ Try.underlying34 1 Try.sizeOf3)) ?_
      simp only [Act.put, pu]
      refine mx_loadcT 0 3 _ rfl (0 + ((k + 1)) * 1) rfl rfl (.int .i64 (X ((k + 1)) : Nat)) (isC_at n X ((k + 1)) (by omega)) Try.isAgg3 ?_
      simp only [Act.put, pu]
      refine mx_move rfl rfl ?_
      simp only [Act.put, pu]
      refine mx_move rfl rfl ?_
      simp only [Act.put, pu]
      refine mx_val (.pointer (some ⟨g, 0 + k * 1, none⟩)) ((exec_index_s 34 _ _ rfl (g) (0) (n) (n) rfl (k) rfl (by omega) _ Try.underlying34 1 Try.sizeOf3)) ?_
      simp only [Act.put, pu]
      refine mx_loadcT 0 3 _ rfl (0 + k * 1) rfl rfl (.int .i64 (X (k) : Nat)) (isC_at n X (k) (by omega)) Try.isAgg3 ?_
      simp only [Act.put, pu]
      refine mx_val (.pointer (some ⟨g, 0 + k * 1, none⟩)) ((exec_index_s 34 _ _ rfl (g) (0) (n) (n) rfl (k) rfl (by omega) _ Try.underlying34 1 Try.sizeOf3)) ?_
      simp only [Act.put, pu]
      refine mx_putv 0 3 _ _ rfl (0 + (k) * 1) rfl rfl (.int .i64 (X ((k + 1)) : Nat)) rfl rfl rfl size1_int (by rw [isC_size]; omega) _ hc1 ?_
      simp only [Act.put]
      refine mx_val (.pointer (some ⟨g, 0 + (k + 1) * 1, none⟩)) ((exec_index_s 34 _ _ rfl (g) (0) (n) (n) rfl ((k + 1)) rfl (by omega) _ Try.underlying34 1 Try.sizeOf3)) ?_
      simp only [Act.put, pu]
      refine mx_putv 0 3 _ _ rfl (0 + ((k + 1)) * 1) rfl rfl (.int .i64 (X (k) : Nat)) rfl rfl rfl size1_int (by rw [isC_size]; omega) _ hc2 ?_
      simp only [Act.put]
      refine mx_end ?_
      intro w2 hkw hrw hnew hdis
      replace rD : Row w2 g (isC n (fun z => X (swp (k) ((k + 1)) z))) 3 := hrw 0 (3, (isC n (fun z => X (swp (k) ((k + 1)) z)))) rfl
      replace sk := sk.trans hkw (by simp)
      clear hkw hrw hnew hdis hc1 hc2
      rw [hs] at rD
      (repeat ((fail_if_success with_reducible refine rg ?_); go_step))
      refine wp_region_pw ?_
      refine pw_mv (by rfl) rfl rfl ?_
      simp only [Act.put, pu]
      refine pw_value (by rfl) (.int .i64 ((k + 1 : Nat) : Int)) (exec_add_in _ _ _ _ rfl (k) (1) rfl rfl (by omega)) ?_
      simp only [Act.put, pu]
      refine pw_as (by rfl) rfl rfl ?_
      simp only [Act.put, pu]
      refine pw_nil ?_
      go_wp2
      go_roundg (i - 1 - (k + 1))
      case measure => omega
      case rel => exact ⟨k + 1, rfl, rfl, by omega, by omega, hP2, rD, sk⟩
     ·kernel_rfl
    ·obtain rfl : k = i - 1 := by omega
     (repeat ((fail_if_success with_reducible refine rg ?_); go_step))
     refine wp_region_pw ?_
     refine pw_mv (by rfl) rfl rfl ?_
     simp only [Act.put, pu]
     refine pw_mv (by rfl) rfl rfl ?_
     simp only [Act.put, pu]
     refine pw_value (by rfl) (.int .i64 ((i - 1 : Nat) : Int)) (exec_sub_in _ _ _ _ rfl (i) (1) rfl rfl (by omega) (by omega)) ?_
     simp only [Act.put, pu]
     refine pw_value (by rfl) (.bool false) (exec_lt_b _ _ _ _ rfl ((i - 1 : Nat) : Nat) ((i - 1 : Nat) : Nat) rfl rfl false (decide_eq_false (by omega))) ?_
     simp only [Act.put, pu]
     refine pw_nil ?_
     go_wp2
     refine bodyPost_ret (results_none rfl _ _ _) rfl ?_
     exact ⟨rfl, _, hP, hS, rD, sk⟩
set_option maxRecDepth 100000 in
set_option maxHeartbeats 2000000 in
theorem mrg_2 (g n a m b gl : Nat) (u : Nat → Nat) (κ : Nat → Int) (w : World) (hbm : b ≤ m + 1) (hmb : m < b) (ham : a + 1 < m) (hb : b ≤ n) (hn : n ≤ 1000) (hu : ∀ i, i < n → u i < n) (hM : MP κ a m b u) (rD : Row w g (isC n u) 3) (hc : CA w g n κ gl) :
  Calls Try.prog 37 #[.slice (some ⟨g, 0, none⟩) n n, .int .i64 (a : Nat), .int .i64 (m : Nat), .int .i64 (b : Nat), .func (.func 31) #[] #[.pointer (some ⟨gl, 0, none⟩)]] w fun e w' => e = .returned (.tuple #[]) ∧ ∃ v, Pm a b u v ∧ Srt κ a b v ∧ Row w' g (isC n v) 3 ∧ Kept [g] w w' := by
 have hlt := rD.lt
 have sk := Kept.refl [g] w
 go_enter Try.func37, Try.ntmps37
 (repeat ((fail_if_success with_reducible refine rg ?_); go_step))
 refine wp_region_pw ?_
 refine pw_mv (by rfl) rfl rfl ?_
 simp only [Act.put, pu]
 refine pw_mv (by rfl) rfl rfl ?_
 simp only [Act.put, pu]
 refine pw_value (by rfl) (.int .i64 ((m - a : Nat) : Int)) (exec_sub_in _ _ _ _ rfl (m) (a) rfl rfl (by omega) (by omega)) ?_
 simp only [Act.put, pu]
 refine pw_value (by rfl) (.bool false) (exec_eql_k .i64 _ _ _ _ rfl ((m - a : Nat) : Int) 1 rfl rfl false (decide_eq_false (by omega))) ?_
 simp only [Act.put, pu]
 refine pw_nil ?_
 (repeat ((fail_if_success with_reducible refine rg ?_); go_step))
 refine wp_region_pw ?_
 refine pw_mv (by rfl) rfl rfl ?_
 simp only [Act.put, pu]
 refine pw_mv (by rfl) rfl rfl ?_
 simp only [Act.put, pu]
 refine pw_value (by rfl) (.int .i64 ((b - m : Nat) : Int)) (exec_sub_in _ _ _ _ rfl (b) (m) rfl rfl (by omega) (by omega)) ?_
 simp only [Act.put, pu]
 refine pw_value (by rfl) (.bool true) (exec_eql_k .i64 _ _ _ _ rfl ((b - m : Nat) : Int) 1 rfl rfl true (decide_eq_true (by omega))) ?_
 simp only [Act.put, pu]
 refine pw_nil ?_
 (repeat ((fail_if_success with_reducible refine rg ?_); go_step))
 refine wp_region_pw ?_
 refine pw_mv (by rfl) rfl rfl ?_
 simp only [Act.put, pu]
 refine pw_as (by rfl) rfl rfl ?_
 simp only [Act.put, pu]
 refine pw_nil ?_
 (repeat ((fail_if_success with_reducible refine rg ?_); go_step))
 refine wp_region_pw ?_
 refine pw_mv (by rfl) rfl rfl ?_
 simp only [Act.put, pu]
 refine pw_as (by rfl) rfl rfl ?_
 simp only [Act.put, pu]
 refine pw_nil ?_
 go_wp2_with fail
 go_loopg [14, 15, 16] (m - a) (fun x s14 s15 s16 wr => ∃ i j : Nat, j - i = x ∧ s14 = .int .i64 i ∧ s15 = .int .i64 j ∧ a ≤ i ∧ i ≤ j ∧ j ≤ m ∧ (∀ q, a ≤ q → q < i → ¬ κ (u m) < κ (u q)) ∧ (∀ q, j ≤ q → q < m → κ (u m) < κ (u q)) ∧ Row wr g (isC n u) 3 ∧ Kept [g] w wr)
 case atStart => exact ⟨a, m, rfl, rfl, rfl, by omega, by omega, by omega, fun q h1 h2 => by omega, fun q h1 h2 => by omega, rD, sk⟩
 case round =>
  clear rD sk
  obtain ⟨i, j, hx, rfl, rfl, h1, h2, h3, hl, hr, rD, sk⟩ := hrel
  by_cases hij : i < j
  ·obtain ⟨h, hh⟩ : ∃ h, (i + j) / 2 = h := ⟨_, rfl⟩
   have hhi : i ≤ h := by omega
   have hhj : h < j := by omega
   by_cases hk : κ (u m) < κ (u h)
   ·have hB : decide (cpz (κ (u m)) (κ (u h)) < 0) = true := decide_eq_true ((cpz_lt _ _).2 hk)
    (repeat ((fail_if_success with_reducible refine rg ?_); go_step))
    refine wp_region_pw ?_
    refine pw_mv (by rfl) rfl rfl ?_
    simp only [Act.put, pu]
    refine pw_mv (by rfl) rfl rfl ?_
    simp only [Act.put, pu]
    refine pw_value (by rfl) (.bool true) (exec_lt_b _ _ _ _ rfl (i : Nat) (j : Nat) rfl rfl true (decide_eq_true (by omega))) ?_
    simp only [Act.put, pu]
    refine pw_nil ?_
    (repeat ((fail_if_success with_reducible refine rg ?_); go_step))
    refine wp_region_pw ?_
    refine pw_mv (by rfl) rfl rfl ?_
    simp only [Act.put, pu]
    refine pw_mv (by rfl) rfl rfl ?_
    simp only [Act.put, pu]
    refine pw_value (by rfl) (.int .i64 ((i + j : Nat) : Int)) (exec_add_in _ _ _ _ rfl (i) (j) rfl rfl (by omega)) ?_
    simp only [Act.put, pu]
    refine pw_value (by rfl) (.int .u64 (((i + j) : Nat) : Int)) ((y_conv 3 52 _ rfl .i64 .u64 Try.underlying3 Try.underlying52 (((i + j) : Nat) : Int) (((i + j) : Nat) : Int) rfl (wrap_us _ (by omega) (by omega)))) ?_
    simp only [Act.put, pu]
    refine pw_value (by rfl) (.int .u64 (((i + j) / 2 : Nat) : Int)) (x_half _ _ _ _ rfl (i + j) rfl rfl) ?_
    simp only [Act.put, pu]
    refine pw_value (by rfl) (.int .i64 (((i + j) / 2 : Nat) : Int)) ((y_conv 52 3 _ rfl .u64 .i64 Try.underlying52 Try.underlying3 (((i + j) / 2 : Nat) : Int) (((i + j) / 2 : Nat) : Int) rfl (wrap_sm _ (by omega) (by omega)))) ?_
    simp only [Act.put, pu]
    refine pw_as (by rfl) rfl rfl ?_
    simp only [Act.put, pu]
    refine pw_nil ?_
    rw [hh]
    (repeat ((fail_if_success with_reducible refine rg ?_); go_step))
    refine wp_region_qw (by kernel_rfl) (by kernel_rfl) ?_
    refine qw_move (by rfl) rfl rfl ?_
    simp only [Act.put, pu]
    refine qw_move (by rfl) rfl rfl ?_
    simp only [Act.put, pu]
    refine qw_move (by rfl) rfl rfl ?_
    simp only [Act.put, pu]
    refine qw_value (by rfl) (.pointer (some ⟨g, 0 + m * 1, none⟩)) ((exec_index_s 34 _ _ rfl (g) (0) (n) (n) rfl (m) rfl (by omega) _ Try.underlying34 1 Try.sizeOf3)) ?_
    simp only [Act.put, pu]
    refine qw_loadc (by rfl) 3 _ rfl _ (0 + m * 1) rfl rD (.int .i64 (u (m) : Nat)) (isC_at n u (m) (by omega)) Try.isAgg3 ?_
    simp only [Act.put, pu]
    refine qw_move (by rfl) rfl rfl ?_
    simp only [Act.put, pu]
    refine qw_move (by rfl) rfl rfl ?_
    simp only [Act.put, pu]
    refine qw_value (by rfl) (.pointer (some ⟨g, 0 + h * 1, none⟩)) ((exec_index_s 34 _ _ rfl (g) (0) (n) (n) rfl (h) rfl (by omega) _ Try.underlying34 1 Try.sizeOf3)) ?_
    simp only [Act.put, pu]
    refine qw_loadc (by rfl) 3 _ rfl _ (0 + h * 1) rfl rD (.int .i64 (u (h) : Nat)) (isC_at n u (h) (by omega)) Try.isAgg3 ?_
    simp only [Act.put, pu]
    refine qw_callC (by rfl) 31 _ _ _ rfl #[.pointer (some ⟨gl, 0, none⟩)] rfl Try.func31 (by kernel_rfl) #[.int .i64 (u m : Nat), .int .i64 (u h : Nat)] rfl (.int .i64 (cpz (κ (u m)) (κ (u h)))) (fun w' hb => hc w' _ _ (sk.on hb) (hu m (by omega)) (hu h (by omega))) ?_
    simp only [Act.put, pu]
    refine qw_value (by rfl) (.bool true) (exec_lt_b _ _ _ _ rfl (cpz (κ (u m)) (κ (u h))) 0 rfl rfl true hB) ?_
    simp only [Act.put, pu]
    refine qw_value (by rfl) (.bool false) (x_not _ _ rfl true rfl) ?_
    simp only [Act.put, pu]
    refine qw_nil ?_
    intro w2 hqb
    replace rD := rD.belowAll hqb
    replace sk := sk.on hqb
    clear hqb
    (repeat ((fail_if_success with_reducible refine rg ?_); go_step))
    refine wp_region_pw ?_
    refine pw_mv (by rfl) rfl rfl ?_
    simp only [Act.put, pu]
    refine pw_as (by rfl) rfl rfl ?_
    simp only [Act.put, pu]
    refine pw_nil ?_
    go_wp2
    go_roundg (h - i)
    case measure => omega
    case rel => exact ⟨i, h, rfl, rfl, rfl, h1, hhi, by omega, hl, fun q q1 q2 => Int.lt_of_lt_of_le hk (hM.l.kle (by omega) q1 q2), rD, sk⟩
   ·have hB : decide (cpz (κ (u m)) (κ (u h)) < 0) = false := decide_eq_false (fun h => hk ((cpz_lt _ _).1 h))
    have HN : Hid (∀ q, a ≤ q → q < h + 1 → ¬ κ (u m) < κ (u q)) := fun q q1 q2 c => hk (Int.lt_of_lt_of_le c (hM.l.kle q1 (by omega) (by omega)))
    (repeat ((fail_if_success with_reducible refine rg ?_); go_step))
    refine wp_region_pw ?_
    refine pw_mv (by rfl) rfl rfl ?_
    simp only [Act.put, pu]
    refine pw_mv (by rfl) rfl rfl ?_
    simp only [Act.put, pu]
    refine pw_value (by rfl) (.bool true) (exec_lt_b _ _ _ _ rfl (i : Nat) (j : Nat) rfl rfl true (decide_eq_true (by omega))) ?_
    simp only [Act.put, pu]
    refine pw_nil ?_
    (repeat ((fail_if_success with_reducible refine rg ?_); go_step))
    refine wp_region_pw ?_
    refine pw_mv (by rfl) rfl rfl ?_
    simp only [Act.put, pu]
    refine pw_mv (by rfl) rfl rfl ?_
    simp only [Act.put, pu]
    refine pw_value (by rfl) (.int .i64 ((i + j : Nat) : Int)) (exec_add_in _ _ _ _ rfl (i) (j) rfl rfl (by omega)) ?_
    simp only [Act.put, pu]
    refine pw_value (by rfl) (.int .u64 (((i + j) : Nat) : Int)) ((y_conv 3 52 _ rfl .i64 .u64 Try.underlying3 Try.underlying52 (((i + j) : Nat) : Int) (((i + j) : Nat) : Int) rfl (wrap_us _ (by omega) (by omega)))) ?_
    simp only [Act.put, pu]
    refine pw_value (by rfl) (.int .u64 (((i + j) / 2 : Nat) : Int)) (x_half _ _ _ _ rfl (i + j) rfl rfl) ?_
    simp only [Act.put, pu]
    refine pw_value (by rfl) (.int .i64 (((i + j) / 2 : Nat) : Int)) ((y_conv 52 3 _ rfl .u64 .i64 Try.underlying52 Try.underlying3 (((i + j) / 2 : Nat) : Int) (((i + j) / 2 : Nat) : Int) rfl (wrap_sm _ (by omega) (by omega)))) ?_
    simp only [Act.put, pu]
    refine pw_as (by rfl) rfl rfl ?_
    simp only [Act.put, pu]
    refine pw_nil ?_
    rw [hh]
    (repeat ((fail_if_success with_reducible refine rg ?_); go_step))
    refine wp_region_qw (by kernel_rfl) (by kernel_rfl) ?_
    refine qw_move (by rfl) rfl rfl ?_
    simp only [Act.put, pu]
    refine qw_move (by rfl) rfl rfl ?_
    simp only [Act.put, pu]
    refine qw_move (by rfl) rfl rfl ?_
    simp only [Act.put, pu]
    refine qw_value (by rfl) (.pointer (some ⟨g, 0 + m * 1, none⟩)) ((exec_index_s 34 _ _ rfl (g) (0) (n) (n) rfl (m) rfl (by omega) _ Try.underlying34 1 Try.sizeOf3)) ?_
    simp only [Act.put, pu]
    refine qw_loadc (by rfl) 3 _ rfl _ (0 + m * 1) rfl rD (.int .i64 (u (m) : Nat)) (isC_at n u (m) (by omega)) Try.isAgg3 ?_
    simp only [Act.put, pu]
    refine qw_move (by rfl) rfl rfl ?_
    simp only [Act.put, pu]
    refine qw_move (by rfl) rfl rfl ?_
    simp only [Act.put, pu]
    refine qw_value (by rfl) (.pointer (some ⟨g, 0 + h * 1, none⟩)) ((exec_index_s 34 _ _ rfl (g) (0) (n) (n) rfl (h) rfl (by omega) _ Try.underlying34 1 Try.sizeOf3)) ?_
    simp only [Act.put, pu]
    refine qw_loadc (by rfl) 3 _ rfl _ (0 + h * 1) rfl rD (.int .i64 (u (h) : Nat)) (isC_at n u (h) (by omega)) Try.isAgg3 ?_
    simp only [Act.put, pu]
    refine qw_callC (by rfl) 31 _ _ _ rfl #[.pointer (some ⟨gl, 0, none⟩)] rfl Try.func31 (by kernel_rfl) #[.int .i64 (u m : Nat), .int .i64 (u h : Nat)] rfl (.int .i64 (cpz (κ (u m)) (κ (u h)))) (fun w' hb => hc w' _ _ (sk.on hb) (hu m (by omega)) (hu h (by omega))) ?_
    simp only [Act.put, pu]
    refine qw_value (by rfl) (.bool false) (exec_lt_b _ _ _ _ rfl (cpz (κ (u m)) (κ (u h))) 0 rfl rfl false hB) ?_
    simp only [Act.put, pu]
    refine qw_value (by rfl) (.bool true) (x_not _ _ rfl false rfl) ?_
    simp only [Act.put, pu]
    refine qw_nil ?_
    intro w2 hqb
    replace rD := rD.belowAll hqb
    replace sk := sk.on hqb
    clear hqb
    (repeat ((fail_if_success with_reducible refine rg ?_); go_step))
    refine wp_region_pw ?_
    refine pw_mv (by rfl) rfl rfl ?_
    simp only [Act.put, pu]
    refine pw_value (by rfl) (.int .i64 ((h + 1 : Nat) : Int)) (exec_add_in _ _ _ _ rfl (h) (1) rfl rfl (by omega)) ?_
    simp only [Act.put, pu]
    refine pw_as (by rfl) rfl rfl ?_
    simp only [Act.put, pu]
    refine pw_nil ?_
    go_wp2
    go_roundg (j - (h + 1))
    case measure => omega
    case rel => exact ⟨h + 1, j, rfl, rfl, rfl, by omega, by omega, h3, HN.out, hr, rD, sk⟩
  ·obtain rfl : i = j := by omega
   have hS := mrg_last (i := i) (by rw [show m + 1 = b by omega]; exact hM) h1 h3 hl hr
   rw [show m + 1 = b by omega] at hS
   (repeat ((fail_if_success with_reducible refine rg ?_); go_step))
   refine wp_region_pw ?_
   refine pw_mv (by rfl) rfl rfl ?_
   simp only [Act.put, pu]
   refine pw_mv (by rfl) rfl rfl ?_
   simp only [Act.put, pu]
   refine pw_value (by rfl) (.bool false) (exec_lt_b _ _ _ _ rfl (i : Nat) (i : Nat) rfl rfl false (decide_eq_false (by omega))) ?_
   simp only [Act.put, pu]
   refine pw_nil ?_
   (repeat ((fail_if_success with_reducible refine rg ?_); go_step))
   refine wp_region_pw ?_
   refine pw_mv (by rfl) rfl rfl ?_
   simp only [Act.put, pu]
   refine pw_as (by rfl) rfl rfl ?_
   simp only [Act.put, pu]
   refine pw_nil ?_
   go_wp2_with fail
   go_loopg [17] (m - i) (fun x s17 wr => ∃ k : Nat, k - i = x ∧ s17 = .int .i64 k ∧ i ≤ k ∧ k ≤ m ∧ Pm a b u (mvL m k u) ∧ Row wr g (isC n (mvL m k u)) 3 ∧ Kept [g] w wr)
   case atStart => exact ⟨m, rfl, rfl, by omega, by omega, by rw [mvL_0]; exact Pm.refl _ _ _, by rw [mvL_0]; exact rD, sk⟩
   case round =>
    clear rD sk
    obtain ⟨k, hxk, rfl, k1, k2, hP, rD, sk⟩ := hrel
    by_cases hki : i < k
    ·have hP2 := mvL_pm (a := a) k2 (by omega) (by omega) hP
     have hs := mvL_s (k := k) u k2 (by omega)
     generalize mvL m k u = X at *
     (repeat ((fail_if_success with_reducible refine rg ?_); go_step))
     refine wp_region_pw ?_
     refine pw_mv (by rfl) rfl rfl ?_
     simp only [Act.put, pu]
     refine pw_mv (by rfl) rfl rfl ?_
     simp only [Act.put, pu]
     refine pw_value (by rfl) (.bool true) (exec_gt_i _ _ _ _ rfl (k : Nat) (i : Nat) rfl rfl true (decide_eq_true (by omega))) ?_
     simp only [Act.put, pu]
     refine pw_nil ?_
     have hc1 := sw1 n X (k) ((k - 1))
     have hc2 := sw2 n X (k) ((k - 1))
     (repeat ((fail_if_success with_reducible refine rg ?_); go_step))
     apply wp_region_mix (by kernel_rfl) [(g, 3, isC n X)] [_, _, _, _, _, _, _, _, _, _, _, _, _, _, _, _, _, _] ⟨rD, trivial⟩ (by simp <;> omega)
     ·intro p
      refine mx_move rfl rfl ?_
      simp only [Act.put, pu]
      refine mx_move rfl rfl ?_
      simp only [Act.put, pu]
      refine mx_move rfl rfl ?_
      simp only [Act.put, pu]
      refine mx_move rfl rfl ?_
      simp only [Act.put, pu]
      refine mx_val (.int .i64 ((k - 1 : Nat) : Int)) (exec_sub_in _ _ _ _ rfl (k) (1) rfl rfl (by omega) (by omega)) ?_
      simp only [Act.put, pu]
      refine mx_move rfl rfl ?_
      simp only [Act.put, pu]
      refine mx_move rfl rfl ?_
      simp only [Act.put, pu]
      refine mx_val (.int .i64 ((k - 1 : Nat) : Int)) (exec_sub_in _ _ _ _ rfl (k) (1) rfl rfl (by omega) (by omega)) ?_
      simp only [Act.put, pu]
      refine mx_val (.pointer (some ⟨g, 0 + (k - 1) * 1, none⟩)) ((exec_index_s 34 _ _ rfl (g) (0) (n) (n) rfl ((k - 1)) rfl (by omega) _ Try.underlying34 1 Try.sizeOf3)) ?_
      simp only [Act.put, pu]
      refine mx_loadcT 0 3 _ rfl (0 + ((k - 1)) * 1) rfl rfl (.int .i64 (X ((k - 1)) : Nat)) (isC_at n X ((k - 1)) (by omega)) Try.isAgg3 ?_
      simp only [Act.put, pu]
      refine mx_move rfl rfl ?_
      simp only [Act.put, pu]
      refine mx_move rfl rfl ?_
      simp only [Act.put, pu]
      refine mx_val (.pointer (some ⟨g, 0 + k * 1, none⟩)) ((exec_index_s 34 _ _ rfl (g) (0) (n) (n) rfl (k) rfl (by omega) _ Try.underlying34 1 Try.sizeOf3)) ?_
      simp only [Act.put, pu]
      refine mx_loadcT 0 3 _ rfl (0 + k * 1) rfl rfl (.int .i64 (X (k) : Nat)) (isC_at n X (k) (by omega)) Try.isAgg3 ?_
      simp only [Act.put, pu]
      refine mx_val (.pointer (some ⟨g, 0 + k * 1, none⟩)) ((exec_index_s 34 _ _ rfl (g) (0) (n) (n) rfl (k) rfl (by omega) _ Try.underlying34 1 Try.sizeOf3)) ?_
      simp only [Act.put, pu]
      refine mx_putv 0 3 _ _ rfl (0 + (k) * 1) rfl rfl (.int .i64 (X ((k - 1)) : Nat)) rfl rfl rfl size1_int (by rw [isC_size]; omega) _ hc1 ?_
      simp only [Act.put]
      refine mx_val (.pointer (some ⟨g, 0 + (k - 1) * 1, none⟩)) ((exec_index_s 34 _ _ rfl (g) (0) (n) (n) rfl ((k - 1)) rfl (by omega) _ Try.underlying34 1 Try.sizeOf3)) ?_
      simp only [Act.put, pu]
      refine mx_putv 0 3 _ _ rfl (0 + ((k - 1)) * 1) rfl rfl (.int .i64 (X (k) : Nat)) rfl rfl rfl size1_int (by rw [isC_size]; omega) _ hc2 ?_
      simp only [Act.put]
      refine mx_end ?_
      intro w2 hkw hrw hnew hdis
      replace rD : Row w2 g (isC n (fun z => X (swp (k) ((k - 1)) z))) 3 := hrw 0 (3, (isC n (fun z => X (swp (k) ((k - 1)) z)))) rfl
      replace sk := sk.trans hkw (by simp)
      clear hkw hrw hnew hdis hc1 hc2
      rw [hs] at rD
      (repeat ((fail_if_success with_reducible refine rg ?_); go_step))
      refine wp_region_pw ?_
      refine pw_mv (by rfl) rfl rfl ?_
      simp only [Act.put, pu]
      refine pw_value (by rfl) (.int .i64 ((k - 1 : Nat) : Int)) (exec_sub_in _ _ _ _ rfl (k) (1) rfl rfl (by omega) (by omega)) ?_
      simp only [Act.put, pu]
      refine pw_as (by rfl) rfl rfl ?_
      simp only [Act.put, pu]
      refine pw_nil ?_
      go_wp2
      go_roundg (k - 1 - i)
      case measure => omega
      case rel => exact ⟨k - 1, rfl, rfl, by omega, by omega, hP2, rD, sk⟩
     ·kernel_rfl
    ·obtain rfl : k = i := by omega
     (repeat ((fail_if_success with_reducible refine rg ?_); go_step))
     refine wp_region_pw ?_
     refine pw_mv (by rfl) rfl rfl ?_
     simp only [Act.put, pu]
     refine pw_mv (by rfl) rfl rfl ?_
     simp only [Act.put, pu]
     refine pw_value (by rfl) (.bool false) (exec_gt_i _ _ _ _ rfl (k : Nat) (k : Nat) rfl rfl false (decide_eq_false (by omega))) ?_
     simp only [Act.put, pu]
     refine pw_nil ?_
     go_wp2
     refine bodyPost_ret (results_none rfl _ _ _) rfl ?_
     exact ⟨rfl, _, hP, hS, rD, sk⟩
set_option maxRecDepth 100000 in
set_option maxHeartbeats 2000000 in
theorem mrg_step (L : Nat) (ih : ∀ (g n a m b gl : Nat) (u : Nat → Nat) (κ : Nat → Int) (w : World) (hL : b - a ≤ L) (ham : a < m) (hmb : m < b) (hb : b ≤ n) (hn : n ≤ 1000) (hu : ∀ i, i < n → u i < n) (hM : MP κ a m b u) (rD : Row w g (isC n u) 3) (hc : CA w g n κ gl),
  Calls Try.prog 37 #[.slice (some ⟨g, 0, none⟩) n n, .int .i64 (a : Nat), .int .i64 (m : Nat), .int .i64 (b : Nat), .func (.func 31) #[] #[.pointer (some ⟨gl, 0, none⟩)]] w fun e w' => e = .returned (.tuple #[]) ∧ ∃ v, Pm a b u v ∧ Srt κ a b v ∧ Row w' g (isC n v) 3 ∧ Kept [g] w w') (g n a m b gl : Nat) (u : Nat → Nat) (κ : Nat → Int) (w : World) (hL : b - a ≤ L + 1) (ham : a < m) (hmb : m < b) (hb : b ≤ n) (hn : n ≤ 1000) (hu : ∀ i, i < n → u i < n) (hM : MP κ a m b u) (rD : Row w g (isC n u) 3) (hc : CA w g n κ gl) :
  Calls Try.prog 37 #[.slice (some ⟨g, 0, none⟩) n n, .int .i64 (a : Nat), .int .i64 (m : Nat), .int .i64 (b : Nat), .func (.func 31) #[] #[.pointer (some ⟨gl, 0, none⟩)]] w fun e w' => e = .returned (.tuple #[]) ∧ ∃ v, Pm a b u v ∧ Srt κ a b v ∧ Row w' g (isC n v) 3 ∧ Kept [g] w w' := by
  by_cases c1 : m = a + 1
  ·exact mrg_1 g n a m b gl u κ w (by omega) ham hmb hb hn hu hM rD hc
  by_cases c2 : b = m + 1
  ·exact mrg_2 g n a m b gl u κ w (by omega) hmb (by omega) hb hn hu hM rD hc
  have hlt := rD.lt
  have sk := Kept.refl [g] w
  obtain ⟨mid, hmid⟩ : ∃ mid, (a + b) / 2 = mid := ⟨_, rfl⟩
  have m1 : 2 * mid ≤ a + b := by (go_light; omega)
  have m2 : a + b ≤ 2 * mid + 1 := by (go_light; omega)
  have m3 : a < mid := by (go_light; omega)
  have m4 : mid < b := by (go_light; omega)
  have hL1 : Hid (mid - a ≤ L) := by show mid - a ≤ L; (go_light; omega)
  have hL2 : Hid (b - mid ≤ L) := by show b - mid ≤ L; (go_light; omega)
  go_enter Try.func37, Try.ntmps37
  (repeat ((fail_if_success with_reducible refine rg ?_); go_step))
  refine wp_region_pw ?_
  refine pw_mv (by rfl) rfl rfl ?_
  simp only [Act.put, pu]
  refine pw_mv (by rfl) rfl rfl ?_
  simp only [Act.put, pu]
  refine pw_value (by rfl) (.int .i64 ((m - a : Nat) : Int)) (exec_sub_in _ _ _ _ rfl (m) (a) rfl rfl (by (go_light; omega)) (by (go_light; omega))) ?_
  simp only [Act.put, pu]
  refine pw_value (by rfl) (.bool false) (exec_eql_k .i64 _ _ _ _ rfl ((m - a : Nat) : Int) 1 rfl rfl false (decide_eq_false (by (go_light; omega)))) ?_
  simp only [Act.put, pu]
  refine pw_nil ?_
  (repeat ((fail_if_success with_reducible refine rg ?_); go_step))
  refine wp_region_pw ?_
  refine pw_mv (by rfl) rfl rfl ?_
  simp only [Act.put, pu]
  refine pw_mv (by rfl) rfl rfl ?_
  simp only [Act.put, pu]
  refine pw_value (by rfl) (.int .i64 ((b - m : Nat) : Int)) (exec_sub_in _ _ _ _ rfl (b) (m) rfl rfl (by (go_light; omega)) (by (go_light; omega))) ?_
  simp only [Act.put, pu]
  refine pw_value (by rfl) (.bool false) (exec_eql_k .i64 _ _ _ _ rfl ((b - m : Nat) : Int) 1 rfl rfl false (decide_eq_false (by (go_light; omega)))) ?_
  simp only [Act.put, pu]
  refine pw_nil ?_
  (repeat ((fail_if_success with_reducible refine rg ?_); go_step))
  refine wp_region_pw ?_
  refine pw_mv (by rfl) rfl rfl ?_
  simp only [Act.put, pu]
  refine pw_mv (by rfl) rfl rfl ?_
  simp only [Act.put, pu]
  refine pw_value (by rfl) (.int .i64 ((a + b : Nat) : Int)) (exec_add_in _ _ _ _ rfl (a) (b) rfl rfl (by (go_light; omega))) ?_
  simp only [Act.put, pu]
  refine pw_value (by rfl) (.int .u64 (((a + b) : Nat) : Int)) ((y_conv 3 52 _ rfl .i64 .u64 Try.underlying3 Try.underlying52 (((a + b) : Nat) : Int) (((a + b) : Nat) : Int) rfl (wrap_us _ (by (go_light; omega)) (by (go_light; omega))))) ?_
  simp only [Act.put, pu]
  refine pw_value (by rfl) (.int .u64 (((a + b) / 2 : Nat) : Int)) (x_half _ _ _ _ rfl (a + b) rfl rfl) ?_
  simp only [Act.put, pu]
  refine pw_value (by rfl) (.int .i64 (((a + b) / 2 : Nat) : Int)) ((y_conv 52 3 _ rfl .u64 .i64 Try.underlying52 Try.underlying3 (((a + b) / 2 : Nat) : Int) (((a + b) / 2 : Nat) : Int) rfl (wrap_sm _ (by (go_light; omega)) (by (go_light; omega))))) ?_
  simp only [Act.put, pu]
  refine pw_as (by rfl) rfl rfl ?_
  simp only [Act.put, pu]
  refine pw_nil ?_
  rw [hmid]
  clear hmid c1 c2 hL
  (repeat ((fail_if_success with_reducible refine rg ?_); go_step))
  refine wp_region_pw ?_
  refine pw_mv (by rfl) rfl rfl ?_
  simp only [Act.put, pu]
  refine pw_mv (by rfl) rfl rfl ?_
  simp only [Act.put, pu]
  refine pw_value (by rfl) (.int .i64 ((mid + m : Nat) : Int)) (exec_add_in _ _ _ _ rfl (mid) (m) rfl rfl (by (go_light; omega))) ?_
  simp only [Act.put, pu]
  refine pw_as (by rfl) rfl rfl ?_
  simp only [Act.put, pu]
  refine pw_nil ?_
  (repeat ((fail_if_success with_reducible refine rg ?_); go_step))
  refine wp_region_pw ?_
  refine pw_value (by rfl) (.int .i64 0) (fun _ => rfl) ?_
  simp only [Act.put, pu]
  refine pw_value (by rfl) (.int .i64 0) (fun _ => rfl) ?_
  simp only [Act.put, pu]
  refine pw_nil ?_
  by_cases hmm : mid < m
  obtain ⟨lo, hi, A20, A21, b2, b3, Hcd⟩ : ∃ lo hi, Hid (Value.int .i64 ((mid + m - b : Nat) : Int) = .int .i64 (lo : Nat)) ∧ Hid (Value.int .i64 ((mid : Nat) : Int) = .int .i64 (hi : Nat)) ∧ (a ≤ lo ∧ lo ≤ hi ∧ hi ≤ m ∧ hi ≤ mid) ∧ ((lo = a ∨ lo + b = mid + m) ∧ (hi = m ∨ hi = mid) ∧ mid + m ≤ lo + b) ∧ Hid (∀ c, lo ≤ c → c < hi → a ≤ c ∧ c < m ∧ m ≤ mid + m - 1 - c ∧ mid + m - 1 - c < b ∧ c ≤ mid + m - 1) := ⟨mid + m - b, mid, rfl, rfl, by (go_light; omega), by (go_light; omega), fun c c1 c2 => by (go_light; omega)⟩
  (repeat ((fail_if_success with_reducible refine rg ?_); go_step))
  refine wp_region_pw ?_
  refine pw_mv (by rfl) rfl rfl ?_
  simp only [Act.put, pu]
  refine pw_mv (by rfl) rfl rfl ?_
  simp only [Act.put, pu]
  refine pw_value (by rfl) (.bool true) (exec_gt_i _ _ _ _ rfl (m : Nat) (mid : Nat) rfl rfl true (decide_eq_true (by (go_light; omega)))) ?_
  simp only [Act.put, pu]
  refine pw_nil ?_
  (repeat ((fail_if_success with_reducible refine rg ?_); go_step))
  refine wp_region_pw ?_
  refine pw_mv (by rfl) rfl rfl ?_
  simp only [Act.put, pu]
  refine pw_mv (by rfl) rfl rfl ?_
  simp only [Act.put, pu]
  refine pw_value (by rfl) (.int .i64 ((mid + m - b : Nat) : Int)) (exec_sub_in _ _ _ _ rfl (mid + m) (b) rfl rfl (by (go_light; omega)) (by (go_light; omega))) ?_
  simp only [Act.put, pu]
  refine pw_as (by rfl) rfl rfl ?_
  simp only [Act.put, pu]
  refine pw_nil ?_
  (repeat ((fail_if_success with_reducible refine rg ?_); go_step))
  refine wp_region_pw ?_
  refine pw_mv (by rfl) rfl rfl ?_
  simp only [Act.put, pu]
  refine pw_as (by rfl) rfl rfl ?_
  simp only [Act.put, pu]
  refine pw_nil ?_
  rotate_left
  obtain ⟨lo, hi, A20, A21, b2, b3, Hcd⟩ : ∃ lo hi, Hid (Value.int .i64 ((a : Nat) : Int) = .int .i64 (lo : Nat)) ∧ Hid (Value.int .i64 ((m : Nat) : Int) = .int .i64 (hi : Nat)) ∧ (a ≤ lo ∧ lo ≤ hi ∧ hi ≤ m ∧ hi ≤ mid) ∧ ((lo = a ∨ lo + b = mid + m) ∧ (hi = m ∨ hi = mid) ∧ mid + m ≤ lo + b) ∧ Hid (∀ c, lo ≤ c → c < hi → a ≤ c ∧ c < m ∧ m ≤ mid + m - 1 - c ∧ mid + m - 1 - c < b ∧ c ≤ mid + m - 1) := ⟨a, m, rfl, rfl, by (go_light; omega), by (go_light; omega), fun c c1 c2 => by (go_light; omega)⟩
  (repeat ((fail_if_success with_reducible refine rg ?_); go_step))
  refine wp_region_pw ?_
  refine pw_mv (by rfl) rfl rfl ?_
  simp only [Act.put, pu]
  refine pw_mv (by rfl) rfl rfl ?_
  simp only [Act.put, pu]
  refine pw_value (by rfl) (.bool false) (exec_gt_i _ _ _ _ rfl (m : Nat) (mid : Nat) rfl rfl false (decide_eq_false (by (go_light; omega)))) ?_
  simp only [Act.put, pu]
  refine pw_nil ?_
  (repeat ((fail_if_success with_reducible refine rg ?_); go_step))
  refine wp_region_pw ?_
  refine pw_mv (by rfl) rfl rfl ?_
  simp only [Act.put, pu]
  refine pw_as (by rfl) rfl rfl ?_
  simp only [Act.put, pu]
  refine pw_nil ?_
  (repeat ((fail_if_success with_reducible refine rg ?_); go_step))
  refine wp_region_pw ?_
  refine pw_mv (by rfl) rfl rfl ?_
  simp only [Act.put, pu]
  refine pw_as (by rfl) rfl rfl ?_
  simp only [Act.put, pu]
  refine pw_nil ?_
  rotate_left
  all_goals
   (repeat ((fail_if_success with_reducible refine rg ?_); go_step))
   refine wp_region_pw ?_
   refine pw_mv (by rfl) rfl rfl ?_
   simp only [Act.put, pu]
   refine pw_value (by rfl) (.int .i64 ((mid + m - 1 : Nat) : Int)) (exec_sub_in _ _ _ _ rfl (mid + m) (1) rfl rfl (by (go_light; omega)) (by (go_light; omega))) ?_
   simp only [Act.put, pu]
   refine pw_as (by rfl) rfl rfl ?_
   simp only [Act.put, pu]
   refine pw_nil ?_
   go_wp2_with fail
   go_loopg [20, 21, 23] (hi - lo) (fun x s20 s21 s23 wr => ∃ s r : Nat, r - s = x ∧ s20 = .int .i64 s ∧ s21 = .int .i64 r ∧ lo ≤ s ∧ s ≤ r ∧ r ≤ hi ∧ (∀ c, lo ≤ c → c < s → ¬ κ (u (mid + m - 1 - c)) < κ (u c)) ∧ (∀ c, r ≤ c → c < hi → κ (u (mid + m - 1 - c)) < κ (u c)) ∧ Row wr g (isC n u) 3 ∧ Kept [g] w wr)
   case atStart => exact ⟨lo, hi, rfl, A20.out, A21.out, by (go_light; omega), by (go_light; omega), by (go_light; omega), fun c c1 c2 => by (go_light; omega), fun c c1 c2 => by (go_light; omega), rD, sk⟩
   case round =>
    clear rD sk
    obtain ⟨s, r, hx, rfl, rfl, h1, h2, h3, hT, hF, rD, sk⟩ := hrel
    by_cases hsr : s < r
    ·obtain ⟨c, hc2⟩ : ∃ c, (s + r) / 2 = c := ⟨_, rfl⟩
     have hc3 : s ≤ c := by (go_light; omega)
     have hc4 : c < r := by (go_light; omega)
     have hc5 := Hcd.out c (by (go_light; omega)) (by (go_light; omega))
     by_cases hk : κ (u (mid + m - 1 - c)) < κ (u c)
     ·have hB : decide (cpz (κ (u (mid + m - 1 - c))) (κ (u c)) < 0) = true := decide_eq_true ((cpz_lt _ _).2 hk)
      have HN : Hid (∀ d, c ≤ d → d < hi → κ (u (mid + m - 1 - d)) < κ (u d)) := fun d d1 d2 => Int.lt_of_le_of_lt (hM.r.kle (by have := Hcd.out d (by (go_light; omega)) d2; (go_light; omega)) (by (go_light; omega)) (by (go_light; omega))) (Int.lt_of_lt_of_le hk (hM.l.kle (by (go_light; omega)) d1 (by have := Hcd.out d (by (go_light; omega)) d2; (go_light; omega))))
      (repeat ((fail_if_success with_reducible refine rg ?_); go_step))
      refine wp_region_pw ?_
      refine pw_mv (by rfl) rfl rfl ?_
      simp only [Act.put, pu]
      refine pw_mv (by rfl) rfl rfl ?_
      simp only [Act.put, pu]
      refine pw_value (by rfl) (.bool true) (exec_lt_b _ _ _ _ rfl (s : Nat) (r : Nat) rfl rfl true (decide_eq_true (by (go_light; omega)))) ?_
      simp only [Act.put, pu]
      refine pw_nil ?_
      (repeat ((fail_if_success with_reducible refine rg ?_); go_step))
      refine wp_region_pw ?_
      refine pw_mv (by rfl) rfl rfl ?_
      simp only [Act.put, pu]
      refine pw_mv (by rfl) rfl rfl ?_
      simp only [Act.put, pu]
      refine pw_value (by rfl) (.int .i64 ((s + r : Nat) : Int)) (exec_add_in _ _ _ _ rfl (s) (r) rfl rfl (by (go_light; omega))) ?_
      simp only [Act.put, pu]
      refine pw_value (by rfl) (.int .u64 (((s + r) : Nat) : Int)) ((y_conv 3 52 _ rfl .i64 .u64 Try.underlying3 Try.underlying52 (((s + r) : Nat) : Int) (((s + r) : Nat) : Int) rfl (wrap_us _ (by (go_light; omega)) (by (go_light; omega))))) ?_
      simp only [Act.put, pu]
      refine pw_value (by rfl) (.int .u64 (((s + r) / 2 : Nat) : Int)) (x_half _ _ _ _ rfl (s + r) rfl rfl) ?_
      simp only [Act.put, pu]
      refine pw_value (by rfl) (.int .i64 (((s + r) / 2 : Nat) : Int)) ((y_conv 52 3 _ rfl .u64 .i64 Try.underlying52 Try.underlying3 (((s + r) / 2 : Nat) : Int) (((s + r) / 2 : Nat) : Int) rfl (wrap_sm _ (by (go_light; omega)) (by (go_light; omega))))) ?_
      simp only [Act.put, pu]
      refine pw_as (by rfl) rfl rfl ?_
      simp only [Act.put, pu]
      refine pw_nil ?_
      rw [hc2]
      (repeat ((fail_if_success with_reducible refine rg ?_); go_step))
      refine wp_region_qw (by kernel_rfl) (by kernel_rfl) ?_
      refine qw_move (by rfl) rfl rfl ?_
      simp only [Act.put, pu]
      refine qw_move (by rfl) rfl rfl ?_
      simp only [Act.put, pu]
      refine qw_move (by rfl) rfl rfl ?_
      simp only [Act.put, pu]
      refine qw_move (by rfl) rfl rfl ?_
      simp only [Act.put, pu]
      refine qw_value (by rfl) (.int .i64 ((mid + m - 1 - c : Nat) : Int)) (exec_sub_in _ _ _ _ rfl (mid + m - 1) (c) rfl rfl (by (go_light; omega)) (by (go_light; omega))) ?_
      simp only [Act.put, pu]
      refine qw_value (by rfl) (.pointer (some ⟨g, 0 + (mid + m - 1 - c) * 1, none⟩)) ((exec_index_s 34 _ _ rfl (g) (0) (n) (n) rfl ((mid + m - 1 - c)) rfl (by (go_light; omega)) _ Try.underlying34 1 Try.sizeOf3)) ?_
      simp only [Act.put, pu]
      refine qw_loadc (by rfl) 3 _ rfl _ (0 + ((mid + m - 1 - c)) * 1) rfl rD (.int .i64 (u ((mid + m - 1 - c)) : Nat)) (isC_at n u ((mid + m - 1 - c)) (by (go_light; omega))) Try.isAgg3 ?_
      simp only [Act.put, pu]
      refine qw_move (by rfl) rfl rfl ?_
      simp only [Act.put, pu]
      refine qw_move (by rfl) rfl rfl ?_
      simp only [Act.put, pu]
      refine qw_value (by rfl) (.pointer (some ⟨g, 0 + c * 1, none⟩)) ((exec_index_s 34 _ _ rfl (g) (0) (n) (n) rfl (c) rfl (by (go_light; omega)) _ Try.underlying34 1 Try.sizeOf3)) ?_
      simp only [Act.put, pu]
      refine qw_loadc (by rfl) 3 _ rfl _ (0 + c * 1) rfl rD (.int .i64 (u (c) : Nat)) (isC_at n u (c) (by (go_light; omega))) Try.isAgg3 ?_
      simp only [Act.put, pu]
      refine qw_callC (by rfl) 31 _ _ _ rfl #[.pointer (some ⟨gl, 0, none⟩)] rfl Try.func31 (by kernel_rfl) #[.int .i64 (u (mid + m - 1 - c) : Nat), .int .i64 (u c : Nat)] rfl (.int .i64 (cpz (κ (u (mid + m - 1 - c))) (κ (u c)))) (fun w' hb => hc w' _ _ (sk.on hb) (hu _ (by (go_light; omega))) (hu c (by (go_light; omega)))) ?_
      simp only [Act.put, pu]
      refine qw_value (by rfl) (.bool true) (exec_lt_b _ _ _ _ rfl (cpz (κ (u (mid + m - 1 - c))) (κ (u c))) 0 rfl rfl true hB) ?_
      simp only [Act.put, pu]
      refine qw_value (by rfl) (.bool false) (x_not _ _ rfl true rfl) ?_
      simp only [Act.put, pu]
      refine qw_nil ?_
      intro w2 hqb
      replace rD := rD.belowAll hqb
      replace sk := sk.on hqb
      clear hqb
      (repeat ((fail_if_success with_reducible refine rg ?_); go_step))
      refine wp_region_pw ?_
      refine pw_mv (by rfl) rfl rfl ?_
      simp only [Act.put, pu]
      refine pw_as (by rfl) rfl rfl ?_
      simp only [Act.put, pu]
      refine pw_nil ?_
      go_wp2
      go_roundg (c - s)
      case measure => (go_light; omega)
      case rel => exact ⟨s, c, rfl, rfl, rfl, h1, by (go_light; omega), by (go_light; omega), hT, HN.out, rD, sk⟩
     ·have hB : decide (cpz (κ (u (mid + m - 1 - c))) (κ (u c)) < 0) = false := decide_eq_false (fun h => hk ((cpz_lt _ _).1 h))
      have HN : Hid (∀ d, lo ≤ d → d < c + 1 → ¬ κ (u (mid + m - 1 - d)) < κ (u d)) := fun d d1 d2 e => hk (Int.lt_of_le_of_lt (hM.r.kle (by (go_light; omega)) (by (go_light; omega)) (by have := Hcd.out d d1 (by (go_light; omega)); (go_light; omega))) (Int.lt_of_lt_of_le e (hM.l.kle (by have := Hcd.out d d1 (by (go_light; omega)); (go_light; omega)) (by (go_light; omega)) (by (go_light; omega)))))
      (repeat ((fail_if_success with_reducible refine rg ?_); go_step))
      refine wp_region_pw ?_
      refine pw_mv (by rfl) rfl rfl ?_
      simp only [Act.put, pu]
      refine pw_mv (by rfl) rfl rfl ?_
      simp only [Act.put, pu]
      refine pw_value (by rfl) (.bool true) (exec_lt_b _ _ _ _ rfl (s : Nat) (r : Nat) rfl rfl true (decide_eq_true (by (go_light; omega)))) ?_
      simp only [Act.put, pu]
      refine pw_nil ?_
      (repeat ((fail_if_success with_reducible refine rg ?_); go_step))
      refine wp_region_pw ?_
      refine pw_mv (by rfl) rfl rfl ?_
      simp only [Act.put, pu]
      refine pw_mv (by rfl) rfl rfl ?_
      simp only [Act.put, pu]
      refine pw_value (by rfl) (.int .i64 ((s + r : Nat) : Int)) (exec_add_in _ _ _ _ rfl (s) (r) rfl rfl (by (go_light; omega))) ?_
      simp only [Act.put, pu]
      refine pw_value (by rfl) (.int .u64 (((s + r) : Nat) : Int)) ((y_conv 3 52 _ rfl .i64 .u64 Try.underlying3 Try.underlying52 (((s + r) : Nat) : Int) (((s + r) : Nat) : Int) rfl (wrap_us _ (by (go_light; omega)) (by (go_light; omega))))) ?_
      simp only [Act.put, pu]
      refine pw_value (by rfl) (.int .u64 (((s + r) / 2 : Nat) : Int)) (x_half _ _ _ _ rfl (s + r) rfl rfl) ?_
      simp only [Act.put, pu]
      refine pw_value (by rfl) (.int .i64 (((s + r) / 2 : Nat) : Int)) ((y_conv 52 3 _ rfl .u64 .i64 Try.underlying52 Try.underlying3 (((s + r) / 2 : Nat) : Int) (((s + r) / 2 : Nat) : Int) rfl (wrap_sm _ (by (go_light; omega)) (by (go_light; omega))))) ?_
      simp only [Act.put, pu]
      refine pw_as (by rfl) rfl rfl ?_
      simp only [Act.put, pu]
      refine pw_nil ?_
      rw [hc2]
      (repeat ((fail_if_success with_reducible refine rg ?_); go_step))
      refine wp_region_qw (by kernel_rfl) (by kernel_rfl) ?_
      refine qw_move (by rfl) rfl rfl ?_
      simp only [Act.put, pu]
      refine qw_move (by rfl) rfl rfl ?_
      simp only [Act.put, pu]
      refine qw_move (by rfl) rfl rfl ?_
      simp only [Act.put, pu]
      refine qw_move (by rfl) rfl rfl ?_
      simp only [Act.put, pu]
      refine qw_value (by rfl) (.int .i64 ((mid + m - 1 - c : Nat) : Int)) (exec_sub_in _ _ _ _ rfl (mid + m - 1) (c) rfl rfl (by (go_light; omega)) (by (go_light; omega))) ?_
      simp only [Act.put, pu]
      refine qw_value (by rfl) (.pointer (some ⟨g, 0 + (mid + m - 1 - c) * 1, none⟩)) ((exec_index_s 34 _ _ rfl (g) (0) (n) (n) rfl ((mid + m - 1 - c)) rfl (by (go_light; omega)) _ Try.underlying34 1 Try.sizeOf3)) ?_
      simp only [Act.put, pu]
      refine qw_loadc (by rfl) 3 _ rfl _ (0 + ((mid + m - 1 - c)) * 1) rfl rD (.int .i64 (u ((mid + m - 1 - c)) : Nat)) (isC_at n u ((mid + m - 1 - c)) (by (go_light; omega))) Try.isAgg3 ?_
      simp only [Act.put, pu]
      refine qw_move (by rfl) rfl rfl ?_
      simp only [Act.put, pu]
      refine qw_move (by rfl) rfl rfl ?_
      simp only [Act.put, pu]
      refine qw_value (by rfl) (.pointer (some ⟨g, 0 + c * 1, none⟩)) ((exec_index_s 34 _ _ rfl (g) (0) (n) (n) rfl (c) rfl (by (go_light; omega)) _ Try.underlying34 1 Try.sizeOf3)) ?_
      simp only [Act.put, pu]
      refine qw_loadc (by rfl) 3 _ rfl _ (0 + c * 1) rfl rD (.int .i64 (u (c) : Nat)) (isC_at n u (c) (by (go_light; omega))) Try.isAgg3 ?_
      simp only [Act.put, pu]
      refine qw_callC (by rfl) 31 _ _ _ rfl #[.pointer (some ⟨gl, 0, none⟩)] rfl Try.func31 (by kernel_rfl) #[.int .i64 (u (mid + m - 1 - c) : Nat), .int .i64 (u c : Nat)] rfl (.int .i64 (cpz (κ (u (mid + m - 1 - c))) (κ (u c)))) (fun w' hb => hc w' _ _ (sk.on hb) (hu _ (by (go_light; omega))) (hu c (by (go_light; omega)))) ?_
      simp only [Act.put, pu]
      refine qw_value (by rfl) (.bool false) (exec_lt_b _ _ _ _ rfl (cpz (κ (u (mid + m - 1 - c))) (κ (u c))) 0 rfl rfl false hB) ?_
      simp only [Act.put, pu]
      refine qw_value (by rfl) (.bool true) (x_not _ _ rfl false rfl) ?_
      simp only [Act.put, pu]
      refine qw_nil ?_
      intro w2 hqb
      replace rD := rD.belowAll hqb
      replace sk := sk.on hqb
      clear hqb
      (repeat ((fail_if_success with_reducible refine rg ?_); go_step))
      refine wp_region_pw ?_
      refine pw_mv (by rfl) rfl rfl ?_
      simp only [Act.put, pu]
      refine pw_value (by rfl) (.int .i64 ((c + 1 : Nat) : Int)) (exec_add_in _ _ _ _ rfl (c) (1) rfl rfl (by (go_light; omega))) ?_
      simp only [Act.put, pu]
      refine pw_as (by rfl) rfl rfl ?_
      simp only [Act.put, pu]
      refine pw_nil ?_
      go_wp2
      go_roundg (r - (c + 1))
      case measure => (go_light; omega)
      case rel => exact ⟨c + 1, r, rfl, rfl, rfl, by (go_light; omega), by (go_light; omega), h3, HN.out, hF, rD, sk⟩
    ·obtain rfl : s = r := by (go_light; omega)
     obtain ⟨e, he, f1, f2, f3, f4, f5, u1, hM1, hM2, hX, hp1, hid, hrt⟩ := mrg_pre hM b2 b3 h1 h3 m1 m2 m3 m4 hT hF
     have hu1 := hp1.lt hb hu
     have hro := fun h1 h2 w' (q : Row w' g (isC n u) 3) => rot_any g n s m e u (.func (.func 31) #[] #[.pointer (some ⟨gl, 0, none⟩)]) w' h1 h2 (Nat.le_trans f4 hb) hn q
     clear hT hF Hcd b2 b3 h1 h2 h3 hx A20 A21 hsr m1 m2 hmm hlt
     (repeat ((fail_if_success with_reducible refine rg ?_); go_step))
     refine wp_region_pw ?_
     refine pw_mv (by rfl) rfl rfl ?_
     simp only [Act.put, pu]
     refine pw_mv (by rfl) rfl rfl ?_
     simp only [Act.put, pu]
     refine pw_value (by rfl) (.bool false) (exec_lt_b _ _ _ _ rfl (s : Nat) (s : Nat) rfl rfl false (decide_eq_false (by (go_light; omega)))) ?_
     simp only [Act.put, pu]
     refine pw_nil ?_
     (repeat ((fail_if_success with_reducible refine rg ?_); go_step))
     refine wp_region_pw ?_
     refine pw_mv (by rfl) rfl rfl ?_
     simp only [Act.put, pu]
     refine pw_mv (by rfl) rfl rfl ?_
     simp only [Act.put, pu]
     refine pw_value (by rfl) (.int .i64 (e : Nat)) ((fun w => (exec_sub_in _ _ _ _ rfl (mid + m) s rfl rfl (by (go_light; omega)) (by (go_light; omega)) w).trans (by rw [he.out]))) ?_
     simp only [Act.put, pu]
     refine pw_as (by rfl) rfl rfl ?_
     simp only [Act.put, pu]
     refine pw_nil ?_
     by_cases P1 : s < m
     ·by_cases P2 : m < e
      ·by_cases Q1 : a < s
       ·by_cases Q2 : e < b
        ·skip
         (repeat ((fail_if_success with_reducible refine rg ?_); go_step))
         refine wp_region_pw ?_
         refine pw_mv (by rfl) rfl rfl ?_
         simp only [Act.put, pu]
         refine pw_mv (by rfl) rfl rfl ?_
         simp only [Act.put, pu]
         refine pw_value (by rfl) (.bool true) (exec_lt_b _ _ _ _ rfl (s : Nat) (m : Nat) rfl rfl true (decide_eq_true (by (go_light; omega)))) ?_
         simp only [Act.put, pu]
         refine pw_mv (by rfl) rfl rfl ?_
         simp only [Act.put, pu]
         refine pw_mv (by rfl) rfl rfl ?_
         simp only [Act.put, pu]
         refine pw_mv (by rfl) rfl rfl ?_
         simp only [Act.put, pu]
         refine pw_value (by rfl) (.bool true) (exec_lt_b _ _ _ _ rfl (m : Nat) (e : Nat) rfl rfl true (decide_eq_true (by (go_light; omega)))) ?_
         simp only [Act.put, pu]
         refine pw_pick (by rfl) true (v := .bool true) rfl rfl rfl ?_
         simp only [Act.put, pu]
         refine pw_nil ?_
         (repeat ((fail_if_success with_reducible refine rg ?_); go_step))
         refine wp_region_pw ?_
         refine pw_mv (by rfl) rfl rfl ?_
         simp only [Act.put, pu]
         refine pw_mv (by rfl) rfl rfl ?_
         simp only [Act.put, pu]
         refine pw_mv (by rfl) rfl rfl ?_
         simp only [Act.put, pu]
         refine pw_mv (by rfl) rfl rfl ?_
         simp only [Act.put, pu]
         refine pw_mv (by rfl) rfl rfl ?_
         simp only [Act.put, pu]
         refine pw_callE (by rfl) 38 _ _ rfl Try.func38 (by kernel_rfl) #[.slice (some ⟨g, 0, none⟩) n n, .int .i64 (s : Nat), .int .i64 (m : Nat), .int .i64 (e : Nat), .func (.func 31) #[] #[.pointer (some ⟨gl, 0, none⟩)]] rfl (hro P1 P2 _ rD) ?_
         have crD := rD.lt
         clear rD
         rintro _ z40005 ⟨rfl, rD, k⟩
         refine ⟨_, rfl, ?_⟩
         simp only [Act.put, pu]
         clear crD
         replace sk := sk.trans k (by simp <;> omega)
         clear k
         refine pw_nil ?_
         rw [← hrt.out P1 P2] at rD
         clear hro hid hrt
         have hrc := fun w' (q : Row w' g (isC n u1) 3) (hc' : CA w' g n κ gl) => ih g n a s mid gl u1 κ w' hL1.out (by (go_light; omega)) (by (go_light; omega)) (by (go_light; omega)) hn hu1 hM1 q hc'
         (repeat ((fail_if_success with_reducible refine rg ?_); go_step))
         refine wp_region_pw ?_
         refine pw_mv (by rfl) rfl rfl ?_
         simp only [Act.put, pu]
         refine pw_mv (by rfl) rfl rfl ?_
         simp only [Act.put, pu]
         refine pw_value (by rfl) (.bool true) (exec_lt_b _ _ _ _ rfl (a : Nat) (s : Nat) rfl rfl true (decide_eq_true (by (go_light; omega)))) ?_
         simp only [Act.put, pu]
         refine pw_mv (by rfl) rfl rfl ?_
         simp only [Act.put, pu]
         refine pw_mv (by rfl) rfl rfl ?_
         simp only [Act.put, pu]
         refine pw_mv (by rfl) rfl rfl ?_
         simp only [Act.put, pu]
         refine pw_value (by rfl) (.bool true) (exec_lt_b _ _ _ _ rfl (s : Nat) (mid : Nat) rfl rfl true (decide_eq_true (by (go_light; omega)))) ?_
         simp only [Act.put, pu]
         refine pw_pick (by rfl) true (v := .bool true) rfl rfl rfl ?_
         simp only [Act.put, pu]
         refine pw_nil ?_
         (repeat ((fail_if_success with_reducible refine rg ?_); go_step))
         refine wp_region_pw ?_
         refine pw_mv (by rfl) rfl rfl ?_
         simp only [Act.put, pu]
         refine pw_mv (by rfl) rfl rfl ?_
         simp only [Act.put, pu]
         refine pw_mv (by rfl) rfl rfl ?_
         simp only [Act.put, pu]
         refine pw_mv (by rfl) rfl rfl ?_
         simp only [Act.put, pu]
         refine pw_mv (by rfl) rfl rfl ?_
         simp only [Act.put, pu]
         refine pw_callE (by rfl) 37 _ _ rfl Try.func37 (by kernel_rfl) #[.slice (some ⟨g, 0, none⟩) n n, .int .i64 (a : Nat), .int .i64 (s : Nat), .int .i64 (mid : Nat), .func (.func 31) #[] #[.pointer (some ⟨gl, 0, none⟩)]] rfl (hrc _ rD (hc.on sk)) ?_
         have crD := rD.lt
         clear rD
         rintro _ z42005 ⟨rfl, u2, hP2, hS2, rD, k⟩
         refine ⟨_, rfl, ?_⟩
         simp only [Act.put, pu]
         clear crD
         replace sk := sk.trans k (by simp <;> omega)
         clear k
         refine pw_nil ?_
         clear hrc
         have hM3 : MP κ mid e b u2 := ⟨hM2.l.congr (fun i q1 q2 => hP2.out (.inr q1)), hM2.r.congr (fun i q1 q2 => hP2.out (.inr (by (go_light; omega)))), fun p q q1 q2 q3 q4 => by rw [hP2.out (.inr q1), hP2.out (.inr (by (go_light; omega)))]; exact hM2.x p q q1 q2 q3 q4⟩
         have hu2 := hP2.lt (show mid ≤ n by (go_light; omega)) hu1
         have hrc := fun w' (q : Row w' g (isC n u2) 3) (hc' : CA w' g n κ gl) => ih g n mid e b gl u2 κ w' hL2.out (by (go_light; omega)) (by (go_light; omega)) hb hn hu2 hM3 q hc'
         (repeat ((fail_if_success with_reducible refine rg ?_); go_step))
         refine wp_region_pw ?_
         refine pw_mv (by rfl) rfl rfl ?_
         simp only [Act.put, pu]
         refine pw_mv (by rfl) rfl rfl ?_
         simp only [Act.put, pu]
         refine pw_value (by rfl) (.bool true) (exec_lt_b _ _ _ _ rfl (mid : Nat) (e : Nat) rfl rfl true (decide_eq_true (by (go_light; omega)))) ?_
         simp only [Act.put, pu]
         refine pw_mv (by rfl) rfl rfl ?_
         simp only [Act.put, pu]
         refine pw_mv (by rfl) rfl rfl ?_
         simp only [Act.put, pu]
         refine pw_mv (by rfl) rfl rfl ?_
         simp only [Act.put, pu]
         refine pw_value (by rfl) (.bool true) (exec_lt_b _ _ _ _ rfl (e : Nat) (b : Nat) rfl rfl true (decide_eq_true (by (go_light; omega)))) ?_
         simp only [Act.put, pu]
         refine pw_pick (by rfl) true (v := .bool true) rfl rfl rfl ?_
         simp only [Act.put, pu]
         refine pw_nil ?_
         (repeat ((fail_if_success with_reducible refine rg ?_); go_step))
         refine wp_region_pw ?_
         refine pw_mv (by rfl) rfl rfl ?_
         simp only [Act.put, pu]
         refine pw_mv (by rfl) rfl rfl ?_
         simp only [Act.put, pu]
         refine pw_mv (by rfl) rfl rfl ?_
         simp only [Act.put, pu]
         refine pw_mv (by rfl) rfl rfl ?_
         simp only [Act.put, pu]
         refine pw_mv (by rfl) rfl rfl ?_
         simp only [Act.put, pu]
         refine pw_callE (by rfl) 37 _ _ rfl Try.func37 (by kernel_rfl) #[.slice (some ⟨g, 0, none⟩) n n, .int .i64 (mid : Nat), .int .i64 (e : Nat), .int .i64 (b : Nat), .func (.func 31) #[] #[.pointer (some ⟨gl, 0, none⟩)]] rfl (hrc _ rD (hc.on sk)) ?_
         have crD := rD.lt
         clear rD
         rintro _ z44005 ⟨rfl, u3, hP3, hS3, rD, k⟩
         refine ⟨_, rfl, ?_⟩
         simp only [Act.put, pu]
         clear crD
         replace sk := sk.trans k (by simp <;> omega)
         clear k
         refine pw_nil ?_
         go_wp2
         go_end0
         exact ⟨rfl, u3, hp1.tr ((hP2.wide (Nat.le_refl a) (by (go_light; omega))).tr (hP3.wide (by (go_light; omega)) (Nat.le_refl b))), mrg_done (by (go_light; omega)) (by (go_light; omega)) hX hP2 hS2 hP3 hS3, rD, sk⟩
        ·skip
         (repeat ((fail_if_success with_reducible refine rg ?_); go_step))
         refine wp_region_pw ?_
         refine pw_mv (by rfl) rfl rfl ?_
         simp only [Act.put, pu]
         refine pw_mv (by rfl) rfl rfl ?_
         simp only [Act.put, pu]
         refine pw_value (by rfl) (.bool true) (exec_lt_b _ _ _ _ rfl (s : Nat) (m : Nat) rfl rfl true (decide_eq_true (by (go_light; omega)))) ?_
         simp only [Act.put, pu]
         refine pw_mv (by rfl) rfl rfl ?_
         simp only [Act.put, pu]
         refine pw_mv (by rfl) rfl rfl ?_
         simp only [Act.put, pu]
         refine pw_mv (by rfl) rfl rfl ?_
         simp only [Act.put, pu]
         refine pw_value (by rfl) (.bool true) (exec_lt_b _ _ _ _ rfl (m : Nat) (e : Nat) rfl rfl true (decide_eq_true (by (go_light; omega)))) ?_
         simp only [Act.put, pu]
         refine pw_pick (by rfl) true (v := .bool true) rfl rfl rfl ?_
         simp only [Act.put, pu]
         refine pw_nil ?_
         (repeat ((fail_if_success with_reducible refine rg ?_); go_step))
         refine wp_region_pw ?_
         refine pw_mv (by rfl) rfl rfl ?_
         simp only [Act.put, pu]
         refine pw_mv (by rfl) rfl rfl ?_
         simp only [Act.put, pu]
         refine pw_mv (by rfl) rfl rfl ?_
         simp only [Act.put, pu]
         refine pw_mv (by rfl) rfl rfl ?_
         simp only [Act.put, pu]
         refine pw_mv (by rfl) rfl rfl ?_
         simp only [Act.put, pu]
         refine pw_callE (by rfl) 38 _ _ rfl Try.func38 (by kernel_rfl) #[.slice (some ⟨g, 0, none⟩) n n, .int .i64 (s : Nat), .int .i64 (m : Nat), .int .i64 (e : Nat), .func (.func 31) #[] #[.pointer (some ⟨gl, 0, none⟩)]] rfl (hro P1 P2 _ rD) ?_
         have crD := rD.lt
         clear rD
         rintro _ z40005 ⟨rfl, rD, k⟩
         refine ⟨_, rfl, ?_⟩
         simp only [Act.put, pu]
         clear crD
         replace sk := sk.trans k (by simp <;> omega)
         clear k
         refine pw_nil ?_
         rw [← hrt.out P1 P2] at rD
         clear hro hid hrt
         have hrc := fun w' (q : Row w' g (isC n u1) 3) (hc' : CA w' g n κ gl) => ih g n a s mid gl u1 κ w' hL1.out (by (go_light; omega)) (by (go_light; omega)) (by (go_light; omega)) hn hu1 hM1 q hc'
         (repeat ((fail_if_success with_reducible refine rg ?_); go_step))
         refine wp_region_pw ?_
         refine pw_mv (by rfl) rfl rfl ?_
         simp only [Act.put, pu]
         refine pw_mv (by rfl) rfl rfl ?_
         simp only [Act.put, pu]
         refine pw_value (by rfl) (.bool true) (exec_lt_b _ _ _ _ rfl (a : Nat) (s : Nat) rfl rfl true (decide_eq_true (by (go_light; omega)))) ?_
         simp only [Act.put, pu]
         refine pw_mv (by rfl) rfl rfl ?_
         simp only [Act.put, pu]
         refine pw_mv (by rfl) rfl rfl ?_
         simp only [Act.put, pu]
         refine pw_mv (by rfl) rfl rfl ?_
         simp only [Act.put, pu]
         refine pw_value (by rfl) (.bool true) (exec_lt_b _ _ _ _ rfl (s : Nat) (mid : Nat) rfl rfl true (decide_eq_true (by (go_light; omega)))) ?_
         simp only [Act.put, pu]
         refine pw_pick (by rfl) true (v := .bool true) rfl rfl rfl ?_
         simp only [Act.put, pu]
         refine pw_nil ?_
         (repeat ((fail_if_success with_reducible refine rg ?_); go_step))
         refine wp_region_pw ?_
         refine pw_mv (by rfl) rfl rfl ?_
         simp only [Act.put, pu]
         refine pw_mv (by rfl) rfl rfl ?_
         simp only [Act.put, pu]
         refine pw_mv (by rfl) rfl rfl ?_
         simp only [Act.put, pu]
         refine pw_mv (by rfl) rfl rfl ?_
         simp only [Act.put, pu]
         refine pw_mv (by rfl) rfl rfl ?_
         simp only [Act.put, pu]
         refine pw_callE (by rfl) 37 _ _ rfl Try.func37 (by kernel_rfl) #[.slice (some ⟨g, 0, none⟩) n n, .int .i64 (a : Nat), .int .i64 (s : Nat), .int .i64 (mid : Nat), .func (.func 31) #[] #[.pointer (some ⟨gl, 0, none⟩)]] rfl (hrc _ rD (hc.on sk)) ?_
         have crD := rD.lt
         clear rD
         rintro _ z42005 ⟨rfl, u2, hP2, hS2, rD, k⟩
         refine ⟨_, rfl, ?_⟩
         simp only [Act.put, pu]
         clear crD
         replace sk := sk.trans k (by simp <;> omega)
         clear k
         refine pw_nil ?_
         clear hrc
         have hM3 : MP κ mid e b u2 := ⟨hM2.l.congr (fun i q1 q2 => hP2.out (.inr q1)), hM2.r.congr (fun i q1 q2 => hP2.out (.inr (by (go_light; omega)))), fun p q q1 q2 q3 q4 => by rw [hP2.out (.inr q1), hP2.out (.inr (by (go_light; omega)))]; exact hM2.x p q q1 q2 q3 q4⟩
         have hu2 := hP2.lt (show mid ≤ n by (go_light; omega)) hu1
         (repeat ((fail_if_success with_reducible refine rg ?_); go_step))
         refine wp_region_pw ?_
         refine pw_mv (by rfl) rfl rfl ?_
         simp only [Act.put, pu]
         refine pw_mv (by rfl) rfl rfl ?_
         simp only [Act.put, pu]
         refine pw_value (by rfl) (.bool true) (exec_lt_b _ _ _ _ rfl (mid : Nat) (e : Nat) rfl rfl true (decide_eq_true (by (go_light; omega)))) ?_
         simp only [Act.put, pu]
         refine pw_mv (by rfl) rfl rfl ?_
         simp only [Act.put, pu]
         refine pw_mv (by rfl) rfl rfl ?_
         simp only [Act.put, pu]
         refine pw_mv (by rfl) rfl rfl ?_
         simp only [Act.put, pu]
         refine pw_value (by rfl) (.bool false) (exec_lt_b _ _ _ _ rfl (e : Nat) (b : Nat) rfl rfl false (decide_eq_false (by (go_light; omega)))) ?_
         simp only [Act.put, pu]
         refine pw_pick (by rfl) true (v := .bool false) rfl rfl rfl ?_
         simp only [Act.put, pu]
         refine pw_nil ?_
         obtain ⟨u3, hP3, hS3, rD⟩ : ∃ u3, Pm mid b u2 u3 ∧ Srt κ mid b u3 ∧ Row _ g (isC n u3) 3 := ⟨u2, Pm.refl _ _ _, hM3.flat (by (go_light; omega)) (by (go_light; omega)) (by (go_light; omega)), rD⟩
         go_wp2
         go_end0
         exact ⟨rfl, u3, hp1.tr ((hP2.wide (Nat.le_refl a) (by (go_light; omega))).tr (hP3.wide (by (go_light; omega)) (Nat.le_refl b))), mrg_done (by (go_light; omega)) (by (go_light; omega)) hX hP2 hS2 hP3 hS3, rD, sk⟩
       ·by_cases Q2 : e < b
        ·skip
         (repeat ((fail_if_success with_reducible refine rg ?_); go_step))
         refine wp_region_pw ?_
         refine pw_mv (by rfl) rfl rfl ?_
         simp only [Act.put, pu]
         refine pw_mv (by rfl) rfl rfl ?_
         simp only [Act.put, pu]
         refine pw_value (by rfl) (.bool true) (exec_lt_b _ _ _ _ rfl (s : Nat) (m : Nat) rfl rfl true (decide_eq_true (by (go_light; omega)))) ?_
         simp only [Act.put, pu]
         refine pw_mv (by rfl) rfl rfl ?_
         simp only [Act.put, pu]
         refine pw_mv (by rfl) rfl rfl ?_
         simp only [Act.put, pu]
         refine pw_mv (by rfl) rfl rfl ?_
         simp only [Act.put, pu]
         refine pw_value (by rfl) (.bool true) (exec_lt_b _ _ _ _ rfl (m : Nat) (e : Nat) rfl rfl true (decide_eq_true (by (go_light; omega)))) ?_
         simp only [Act.put, pu]
         refine pw_pick (by rfl) true (v := .bool true) rfl rfl rfl ?_
         simp only [Act.put, pu]
         refine pw_nil ?_
         (repeat ((fail_if_success with_reducible refine rg ?_); go_step))
         refine wp_region_pw ?_
         refine pw_mv (by rfl) rfl rfl ?_
         simp only [Act.put, pu]
         refine pw_mv (by rfl) rfl rfl ?_
         simp only [Act.put, pu]
         refine pw_mv (by rfl) rfl rfl ?_
         simp only [Act.put, pu]
         refine pw_mv (by rfl) rfl rfl ?_
         simp only [Act.put, pu]
         refine pw_mv (by rfl) rfl rfl ?_
         simp only [Act.put, pu]
         refine pw_callE (by rfl) 38 _ _ rfl Try.func38 (by kernel_rfl) #[.slice (some ⟨g, 0, none⟩) n n, .int .i64 (s : Nat), .int .i64 (m : Nat), .int .i64 (e : Nat), .func (.func 31) #[] #[.pointer (some ⟨gl, 0, none⟩)]] rfl (hro P1 P2 _ rD) ?_
         have crD := rD.lt
         clear rD
         rintro _ z40005 ⟨rfl, rD, k⟩
         refine ⟨_, rfl, ?_⟩
         simp only [Act.put, pu]
         clear crD
         replace sk := sk.trans k (by simp <;> omega)
         clear k
         refine pw_nil ?_
         rw [← hrt.out P1 P2] at rD
         clear hro hid hrt
         (repeat ((fail_if_success with_reducible refine rg ?_); go_step))
         refine wp_region_pw ?_
         refine pw_mv (by rfl) rfl rfl ?_
         simp only [Act.put, pu]
         refine pw_mv (by rfl) rfl rfl ?_
         simp only [Act.put, pu]
         refine pw_value (by rfl) (.bool false) (exec_lt_b _ _ _ _ rfl (a : Nat) (s : Nat) rfl rfl false (decide_eq_false (by (go_light; omega)))) ?_
         simp only [Act.put, pu]
         refine pw_mv (by rfl) rfl rfl ?_
         simp only [Act.put, pu]
         refine pw_skip (by rfl) ?_
         simp only [Act.put, pu]
         refine pw_skip (by rfl) ?_
         simp only [Act.put, pu]
         refine pw_skip (by rfl) ?_
         simp only [Act.put, pu]
         refine pw_pick (by rfl) false (v := .bool false) rfl rfl rfl ?_
         simp only [Act.put, pu]
         refine pw_nil ?_
         obtain ⟨u2, hP2, hS2, rD⟩ : ∃ u2, Pm a mid u1 u2 ∧ Srt κ a mid u2 ∧ Row _ g (isC n u2) 3 := ⟨u1, Pm.refl _ _ _, hM1.flat (by (go_light; omega)) (by (go_light; omega)) (by (go_light; omega)), rD⟩
         have hM3 : MP κ mid e b u2 := ⟨hM2.l.congr (fun i q1 q2 => hP2.out (.inr q1)), hM2.r.congr (fun i q1 q2 => hP2.out (.inr (by (go_light; omega)))), fun p q q1 q2 q3 q4 => by rw [hP2.out (.inr q1), hP2.out (.inr (by (go_light; omega)))]; exact hM2.x p q q1 q2 q3 q4⟩
         have hu2 := hP2.lt (show mid ≤ n by (go_light; omega)) hu1
         have hrc := fun w' (q : Row w' g (isC n u2) 3) (hc' : CA w' g n κ gl) => ih g n mid e b gl u2 κ w' hL2.out (by (go_light; omega)) (by (go_light; omega)) hb hn hu2 hM3 q hc'
         (repeat ((fail_if_success with_reducible refine rg ?_); go_step))
         refine wp_region_pw ?_
         refine pw_mv (by rfl) rfl rfl ?_
         simp only [Act.put, pu]
         refine pw_mv (by rfl) rfl rfl ?_
         simp only [Act.put, pu]
         refine pw_value (by rfl) (.bool true) (exec_lt_b _ _ _ _ rfl (mid : Nat) (e : Nat) rfl rfl true (decide_eq_true (by (go_light; omega)))) ?_
         simp only [Act.put, pu]
         refine pw_mv (by rfl) rfl rfl ?_
         simp only [Act.put, pu]
         refine pw_mv (by rfl) rfl rfl ?_
         simp only [Act.put, pu]
         refine pw_mv (by rfl) rfl rfl ?_
         simp only [Act.put, pu]
         refine pw_value (by rfl) (.bool true) (exec_lt_b _ _ _ _ rfl (e : Nat) (b : Nat) rfl rfl true (decide_eq_true (by (go_light; omega)))) ?_
         simp only [Act.put, pu]
         refine pw_pick (by rfl) true (v := .bool true) rfl rfl rfl ?_
         simp only [Act.put, pu]
         refine pw_nil ?_
         (repeat ((fail_if_success with_reducible refine rg ?_); go_step))
         refine wp_region_pw ?_
         refine pw_mv (by rfl) rfl rfl ?_
         simp only [Act.put, pu]
         refine pw_mv (by rfl) rfl rfl ?_
         simp only [Act.put, pu]
         refine pw_mv (by rfl) rfl rfl ?_
         simp only [Act.put, pu]
         refine pw_mv (by rfl) rfl rfl ?_
         simp only [Act.put, pu]
         refine pw_mv (by rfl) rfl rfl ?_
         simp only [Act.put, pu]
         refine pw_callE (by rfl) 37 _ _ rfl Try.func37 (by kernel_rfl) #[.slice (some ⟨g, 0, none⟩) n n, .int .i64 (mid : Nat), .int .i64 (e : Nat), .int .i64 (b : Nat), .func (.func 31) #[] #[.pointer (some ⟨gl, 0, none⟩)]] rfl (hrc _ rD (hc.on sk)) ?_
         have crD := rD.lt
         clear rD
         rintro _ z44005 ⟨rfl, u3, hP3, hS3, rD, k⟩
         refine ⟨_, rfl, ?_⟩
         simp only [Act.put, pu]
         clear crD
         replace sk := sk.trans k (by simp <;> omega)
         clear k
         refine pw_nil ?_
         go_wp2
         go_end0
         exact ⟨rfl, u3, hp1.tr ((hP2.wide (Nat.le_refl a) (by (go_light; omega))).tr (hP3.wide (by (go_light; omega)) (Nat.le_refl b))), mrg_done (by (go_light; omega)) (by (go_light; omega)) hX hP2 hS2 hP3 hS3, rD, sk⟩
        ·skip
         (repeat ((fail_if_success with_reducible refine rg ?_); go_step))
         refine wp_region_pw ?_
         refine pw_mv (by rfl) rfl rfl ?_
         simp only [Act.put, pu]
         refine pw_mv (by rfl) rfl rfl ?_
         simp only [Act.put, pu]
         refine pw_value (by rfl) (.bool true) (exec_lt_b _ _ _ _ rfl (s : Nat) (m : Nat) rfl rfl true (decide_eq_true (by (go_light; omega)))) ?_
         simp only [Act.put, pu]
         refine pw_mv (by rfl) rfl rfl ?_
         simp only [Act.put, pu]
         refine pw_mv (by rfl) rfl rfl ?_
         simp only [Act.put, pu]
         refine pw_mv (by rfl) rfl rfl ?_
         simp only [Act.put, pu]
         refine pw_value (by rfl) (.bool true) (exec_lt_b _ _ _ _ rfl (m : Nat) (e : Nat) rfl rfl true (decide_eq_true (by (go_light; omega)))) ?_
         simp only [Act.put, pu]
         refine pw_pick (by rfl) true (v := .bool true) rfl rfl rfl ?_
         simp only [Act.put, pu]
         refine pw_nil ?_
         (repeat ((fail_if_success with_reducible refine rg ?_); go_step))
         refine wp_region_pw ?_
         refine pw_mv (by rfl) rfl rfl ?_
         simp only [Act.put, pu]
         refine pw_mv (by rfl) rfl rfl ?_
         simp only [Act.put, pu]
         refine pw_mv (by rfl) rfl rfl ?_
         simp only [Act.put, pu]
         refine pw_mv (by rfl) rfl rfl ?_
         simp only [Act.put, pu]
         refine pw_mv (by rfl) rfl rfl ?_
         simp only [Act.put, pu]
         refine pw_callE (by rfl) 38 _ _ rfl Try.func38 (by kernel_rfl) #[.slice (some ⟨g, 0, none⟩) n n, .int .i64 (s : Nat), .int .i64 (m : Nat), .int .i64 (e : Nat), .func (.func 31) #[] #[.pointer (some ⟨gl, 0, none⟩)]] rfl (hro P1 P2 _ rD) ?_
         have crD := rD.lt
         clear rD
         rintro _ z40005 ⟨rfl, rD, k⟩
         refine ⟨_, rfl, ?_⟩
         simp only [Act.put, pu]
         clear crD
         replace sk := sk.trans k (by simp <;> omega)
         clear k
         refine pw_nil ?_
         rw [← hrt.out P1 P2] at rD
         clear hro hid hrt
         (repeat ((fail_if_success with_reducible refine rg ?_); go_step))
         refine wp_region_pw ?_
         refine pw_mv (by rfl) rfl rfl ?_
         simp only [Act.put, pu]
         refine pw_mv (by rfl) rfl rfl ?_
         simp only [Act.put, pu]
         refine pw_value (by rfl) (.bool false) (exec_lt_b _ _ _ _ rfl (a : Nat) (s : Nat) rfl rfl false (decide_eq_false (by (go_light; omega)))) ?_
         simp only [Act.put, pu]
         refine pw_mv (by rfl) rfl rfl ?_
         simp only [Act.put, pu]
         refine pw_skip (by rfl) ?_
         simp only [Act.put, pu]
         refine pw_skip (by rfl) ?_
         simp only [Act.put, pu]
         refine pw_skip (by rfl) ?_
         simp only [Act.put, pu]
         refine pw_pick (by rfl) false (v := .bool false) rfl rfl rfl ?_
         simp only [Act.put, pu]
         refine pw_nil ?_
         obtain ⟨u2, hP2, hS2, rD⟩ : ∃ u2, Pm a mid u1 u2 ∧ Srt κ a mid u2 ∧ Row _ g (isC n u2) 3 := ⟨u1, Pm.refl _ _ _, hM1.flat (by (go_light; omega)) (by (go_light; omega)) (by (go_light; omega)), rD⟩
         have hM3 : MP κ mid e b u2 := ⟨hM2.l.congr (fun i q1 q2 => hP2.out (.inr q1)), hM2.r.congr (fun i q1 q2 => hP2.out (.inr (by (go_light; omega)))), fun p q q1 q2 q3 q4 => by rw [hP2.out (.inr q1), hP2.out (.inr (by (go_light; omega)))]; exact hM2.x p q q1 q2 q3 q4⟩
         have hu2 := hP2.lt (show mid ≤ n by (go_light; omega)) hu1
         (repeat ((fail_if_success with_reducible refine rg ?_); go_step))
         refine wp_region_pw ?_
         refine pw_mv (by rfl) rfl rfl ?_
         simp only [Act.put, pu]
         refine pw_mv (by rfl) rfl rfl ?_
         simp only [Act.put, pu]
         refine pw_value (by rfl) (.bool true) (exec_lt_b _ _ _ _ rfl (mid : Nat) (e : Nat) rfl rfl true (decide_eq_true (by (go_light; omega)))) ?_
         simp only [Act.put, pu]
         refine pw_mv (by rfl) rfl rfl ?_
         simp only [Act.put, pu]
         refine pw_mv (by rfl) rfl rfl ?_
         simp only [Act.put, pu]
         refine pw_mv (by rfl) rfl rfl ?_
         simp only [Act.put, pu]
         refine pw_value (by rfl) (.bool false) (exec_lt_b _ _ _ _ rfl (e : Nat) (b : Nat) rfl rfl false (decide_eq_false (by (go_light; omega)))) ?_
         simp only [Act.put, pu]
         refine pw_pick (by rfl) true (v := .bool false) rfl rfl rfl ?_
         simp only [Act.put, pu]
         refine pw_nil ?_
         obtain ⟨u3, hP3, hS3, rD⟩ : ∃ u3, Pm mid b u2 u3 ∧ Srt κ mid b u3 ∧ Row _ g (isC n u3) 3 := ⟨u2, Pm.refl _ _ _, hM3.flat (by (go_light; omega)) (by (go_light; omega)) (by (go_light; omega)), rD⟩
         go_wp2
         go_end0
         exact ⟨rfl, u3, hp1.tr ((hP2.wide (Nat.le_refl a) (by (go_light; omega))).tr (hP3.wide (by (go_light; omega)) (Nat.le_refl b))), mrg_done (by (go_light; omega)) (by (go_light; omega)) hX hP2 hS2 hP3 hS3, rD, sk⟩
      ·skip
       (repeat ((fail_if_success with_reducible refine rg ?_); go_step))
       refine wp_region_pw ?_
       refine pw_mv (by rfl) rfl rfl ?_
       simp only [Act.put, pu]
       refine pw_mv (by rfl) rfl rfl ?_
       simp only [Act.put, pu]
       refine pw_value (by rfl) (.bool true) (exec_lt_b _ _ _ _ rfl (s : Nat) (m : Nat) rfl rfl true (decide_eq_true (by (go_light; omega)))) ?_
       simp only [Act.put, pu]
       refine pw_mv (by rfl) rfl rfl ?_
       simp only [Act.put, pu]
       refine pw_mv (by rfl) rfl rfl ?_
       simp only [Act.put, pu]
       refine pw_mv (by rfl) rfl rfl ?_
       simp only [Act.put, pu]
       refine pw_value (by rfl) (.bool false) (exec_lt_b _ _ _ _ rfl (m : Nat) (e : Nat) rfl rfl false (decide_eq_false (by (go_light; omega)))) ?_
       simp only [Act.put, pu]
       refine pw_pick (by rfl) true (v := .bool false) rfl rfl rfl ?_
       simp only [Act.put, pu]
       refine pw_nil ?_
       rw [← hid.out (by (go_light; omega))] at rD
       clear hro hid hrt
       (repeat ((fail_if_success with_reducible refine rg ?_); go_step))
       refine wp_region_pw ?_
       refine pw_mv (by rfl) rfl rfl ?_
       simp only [Act.put, pu]
       refine pw_mv (by rfl) rfl rfl ?_
       simp only [Act.put, pu]
       refine pw_value (by rfl) (.bool true) (exec_lt_b _ _ _ _ rfl (a : Nat) (s : Nat) rfl rfl true (decide_eq_true (by (go_light; omega)))) ?_
       simp only [Act.put, pu]
       refine pw_mv (by rfl) rfl rfl ?_
       simp only [Act.put, pu]
       refine pw_mv (by rfl) rfl rfl ?_
       simp only [Act.put, pu]
       refine pw_mv (by rfl) rfl rfl ?_
       simp only [Act.put, pu]
       refine pw_value (by rfl) (.bool false) (exec_lt_b _ _ _ _ rfl (s : Nat) (mid : Nat) rfl rfl false (decide_eq_false (by (go_light; omega)))) ?_
       simp only [Act.put, pu]
       refine pw_pick (by rfl) true (v := .bool false) rfl rfl rfl ?_
       simp only [Act.put, pu]
       refine pw_nil ?_
       obtain ⟨u2, hP2, hS2, rD⟩ : ∃ u2, Pm a mid u1 u2 ∧ Srt κ a mid u2 ∧ Row _ g (isC n u2) 3 := ⟨u1, Pm.refl _ _ _, hM1.flat (by (go_light; omega)) (by (go_light; omega)) (by (go_light; omega)), rD⟩
       have hM3 : MP κ mid e b u2 := ⟨hM2.l.congr (fun i q1 q2 => hP2.out (.inr q1)), hM2.r.congr (fun i q1 q2 => hP2.out (.inr (by (go_light; omega)))), fun p q q1 q2 q3 q4 => by rw [hP2.out (.inr q1), hP2.out (.inr (by (go_light; omega)))]; exact hM2.x p q q1 q2 q3 q4⟩
       have hu2 := hP2.lt (show mid ≤ n by (go_light; omega)) hu1
       have hrc := fun w' (q : Row w' g (isC n u2) 3) (hc' : CA w' g n κ gl) => ih g n mid e b gl u2 κ w' hL2.out (by (go_light; omega)) (by (go_light; omega)) hb hn hu2 hM3 q hc'
       (repeat ((fail_if_success with_reducible refine rg ?_); go_step))
       refine wp_region_pw ?_
       refine pw_mv (by rfl) rfl rfl ?_
       simp only [Act.put, pu]
       refine pw_mv (by rfl) rfl rfl ?_
       simp only [Act.put, pu]
       refine pw_value (by rfl) (.bool true) (exec_lt_b _ _ _ _ rfl (mid : Nat) (e : Nat) rfl rfl true (decide_eq_true (by (go_light; omega)))) ?_
       simp only [Act.put, pu]
       refine pw_mv (by rfl) rfl rfl ?_
       simp only [Act.put, pu]
       refine pw_mv (by rfl) rfl rfl ?_
       simp only [Act.put, pu]
       refine pw_mv (by rfl) rfl rfl ?_
       simp only [Act.put, pu]
       refine pw_value (by rfl) (.bool true) (exec_lt_b _ _ _ _ rfl (e : Nat) (b : Nat) rfl rfl true (decide_eq_true (by (go_light; omega)))) ?_
       simp only [Act.put, pu]
       refine pw_pick (by rfl) true (v := .bool true) rfl rfl rfl ?_
       simp only [Act.put, pu]
       refine pw_nil ?_
       (repeat ((fail_if_success with_reducible refine rg ?_); go_step))
       refine wp_region_pw ?_
       refine pw_mv (by rfl) rfl rfl ?_
       simp only [Act.put, pu]
       refine pw_mv (by rfl) rfl rfl ?_
       simp only [Act.put, pu]
       refine pw_mv (by rfl) rfl rfl ?_
       simp only [Act.put, pu]
       refine pw_mv (by rfl) rfl rfl ?_
       simp only [Act.put, pu]
       refine pw_mv (by rfl) rfl rfl ?_
       simp only [Act.put, pu]
       refine pw_callE (by rfl) 37 _ _ rfl Try.func37 (by kernel_rfl) #[.slice (some ⟨g, 0, none⟩) n n, .int .i64 (mid : Nat), .int .i64 (e : Nat), .int .i64 (b : Nat), .func (.func 31) #[] #[.pointer (some ⟨gl, 0, none⟩)]] rfl (hrc _ rD (hc.on sk)) ?_
       have crD := rD.lt
       clear rD
       rintro _ z44005 ⟨rfl, u3, hP3, hS3, rD, k⟩
       refine ⟨_, rfl, ?_⟩
       simp only [Act.put, pu]
       clear crD
       replace sk := sk.trans k (by simp <;> omega)
       clear k
       refine pw_nil ?_
       go_wp2
       go_end0
       exact ⟨rfl, u3, hp1.tr ((hP2.wide (Nat.le_refl a) (by (go_light; omega))).tr (hP3.wide (by (go_light; omega)) (Nat.le_refl b))), mrg_done (by (go_light; omega)) (by (go_light; omega)) hX hP2 hS2 hP3 hS3, rD, sk⟩
     ·by_cases P2 : m < e
      ·skip
       (repeat ((fail_if_success with_reducible refine rg ?_); go_step))
       refine wp_region_pw ?_
       refine pw_mv (by rfl) rfl rfl ?_
       simp only [Act.put, pu]
       refine pw_mv (by rfl) rfl rfl ?_
       simp only [Act.put, pu]
       refine pw_value (by rfl) (.bool false) (exec_lt_b _ _ _ _ rfl (s : Nat) (m : Nat) rfl rfl false (decide_eq_false (by (go_light; omega)))) ?_
       simp only [Act.put, pu]
       refine pw_mv (by rfl) rfl rfl ?_
       simp only [Act.put, pu]
       refine pw_skip (by rfl) ?_
       simp only [Act.put, pu]
       refine pw_skip (by rfl) ?_
       simp only [Act.put, pu]
       refine pw_skip (by rfl) ?_
       simp only [Act.put, pu]
       refine pw_pick (by rfl) false (v := .bool false) rfl rfl rfl ?_
       simp only [Act.put, pu]
       refine pw_nil ?_
       rw [← hid.out (by (go_light; omega))] at rD
       clear hro hid hrt
       have hrc := fun w' (q : Row w' g (isC n u1) 3) (hc' : CA w' g n κ gl) => ih g n a s mid gl u1 κ w' hL1.out (by (go_light; omega)) (by (go_light; omega)) (by (go_light; omega)) hn hu1 hM1 q hc'
       (repeat ((fail_if_success with_reducible refine rg ?_); go_step))
       refine wp_region_pw ?_
       refine pw_mv (by rfl) rfl rfl ?_
       simp only [Act.put, pu]
       refine pw_mv (by rfl) rfl rfl ?_
       simp only [Act.put, pu]
       refine pw_value (by rfl) (.bool true) (exec_lt_b _ _ _ _ rfl (a : Nat) (s : Nat) rfl rfl true (decide_eq_true (by (go_light; omega)))) ?_
       simp only [Act.put, pu]
       refine pw_mv (by rfl) rfl rfl ?_
       simp only [Act.put, pu]
       refine pw_mv (by rfl) rfl rfl ?_
       simp only [Act.put, pu]
       refine pw_mv (by rfl) rfl rfl ?_
       simp only [Act.put, pu]
       refine pw_value (by rfl) (.bool true) (exec_lt_b _ _ _ _ rfl (s : Nat) (mid : Nat) rfl rfl true (decide_eq_true (by (go_light; omega)))) ?_
       simp only [Act.put, pu]
       refine pw_pick (by rfl) true (v := .bool true) rfl rfl rfl ?_
       simp only [Act.put, pu]
       refine pw_nil ?_
       (repeat ((fail_if_success with_reducible refine rg ?_); go_step))
       refine wp_region_pw ?_
       refine pw_mv (by rfl) rfl rfl ?_
       simp only [Act.put, pu]
       refine pw_mv (by rfl) rfl rfl ?_
       simp only [Act.put, pu]
       refine pw_mv (by rfl) rfl rfl ?_
       simp only [Act.put, pu]
       refine pw_mv (by rfl) rfl rfl ?_
       simp only [Act.put, pu]
       refine pw_mv (by rfl) rfl rfl ?_
       simp only [Act.put, pu]
       refine pw_callE (by rfl) 37 _ _ rfl Try.func37 (by kernel_rfl) #[.slice (some ⟨g, 0, none⟩) n n, .int .i64 (a : Nat), .int .i64 (s : Nat), .int .i64 (mid : Nat), .func (.func 31) #[] #[.pointer (some ⟨gl, 0, none⟩)]] rfl (hrc _ rD (hc.on sk)) ?_
       have crD := rD.lt
       clear rD
       rintro _ z42005 ⟨rfl, u2, hP2, hS2, rD, k⟩
       refine ⟨_, rfl, ?_⟩
       simp only [Act.put, pu]
       clear crD
       replace sk := sk.trans k (by simp <;> omega)
       clear k
       refine pw_nil ?_
       clear hrc
       have hM3 : MP κ mid e b u2 := ⟨hM2.l.congr (fun i q1 q2 => hP2.out (.inr q1)), hM2.r.congr (fun i q1 q2 => hP2.out (.inr (by (go_light; omega)))), fun p q q1 q2 q3 q4 => by rw [hP2.out (.inr q1), hP2.out (.inr (by (go_light; omega)))]; exact hM2.x p q q1 q2 q3 q4⟩
       have hu2 := hP2.lt (show mid ≤ n by (go_light; omega)) hu1
       (repeat ((fail_if_success with_reducible refine rg ?_); go_step))
       refine wp_region_pw ?_
       refine pw_mv (by rfl) rfl rfl ?_
       simp only [Act.put, pu]
       refine pw_mv (by rfl) rfl rfl ?_
       simp only [Act.put, pu]
       refine pw_value (by rfl) (.bool false) (exec_lt_b _ _ _ _ rfl (mid : Nat) (e : Nat) rfl rfl false (decide_eq_false (by (go_light; omega)))) ?_
       simp only [Act.put, pu]
       refine pw_mv (by rfl) rfl rfl ?_
       simp only [Act.put, pu]
       refine pw_skip (by rfl) ?_
       simp only [Act.put, pu]
       refine pw_skip (by rfl) ?_
       simp only [Act.put, pu]
       refine pw_skip (by rfl) ?_
       simp only [Act.put, pu]
       refine pw_pick (by rfl) false (v := .bool false) rfl rfl rfl ?_
       simp only [Act.put, pu]
       refine pw_nil ?_
       obtain ⟨u3, hP3, hS3, rD⟩ : ∃ u3, Pm mid b u2 u3 ∧ Srt κ mid b u3 ∧ Row _ g (isC n u3) 3 := ⟨u2, Pm.refl _ _ _, hM3.flat (by (go_light; omega)) (by (go_light; omega)) (by (go_light; omega)), rD⟩
       go_wp2
       go_end0
       exact ⟨rfl, u3, hp1.tr ((hP2.wide (Nat.le_refl a) (by (go_light; omega))).tr (hP3.wide (by (go_light; omega)) (Nat.le_refl b))), mrg_done (by (go_light; omega)) (by (go_light; omega)) hX hP2 hS2 hP3 hS3, rD, sk⟩
      ·skip
       (repeat ((fail_if_success with_reducible refine rg ?_); go_step))
       refine wp_region_pw ?_
       refine pw_mv (by rfl) rfl rfl ?_
       simp only [Act.put, pu]
       refine pw_mv (by rfl) rfl rfl ?_
       simp only [Act.put, pu]
       refine pw_value (by rfl) (.bool false) (exec_lt_b _ _ _ _ rfl (s : Nat) (m : Nat) rfl rfl false (decide_eq_false (by (go_light; omega)))) ?_
       simp only [Act.put, pu]
       refine pw_mv (by rfl) rfl rfl ?_
       simp only [Act.put, pu]
       refine pw_skip (by rfl) ?_
       simp only [Act.put, pu]
       refine pw_skip (by rfl) ?_
       simp only [Act.put, pu]
       refine pw_skip (by rfl) ?_
       simp only [Act.put, pu]
       refine pw_pick (by rfl) false (v := .bool false) rfl rfl rfl ?_
       simp only [Act.put, pu]
       refine pw_nil ?_
       rw [← hid.out (by (go_light; omega))] at rD
       clear hro hid hrt
       (repeat ((fail_if_success with_reducible refine rg ?_); go_step))
       refine wp_region_pw ?_
       refine pw_mv (by rfl) rfl rfl ?_
       simp only [Act.put, pu]
       refine pw_mv (by rfl) rfl rfl ?_
       simp only [Act.put, pu]
       refine pw_value (by rfl) (.bool true) (exec_lt_b _ _ _ _ rfl (a : Nat) (s : Nat) rfl rfl true (decide_eq_true (by (go_light; omega)))) ?_
       simp only [Act.put, pu]
       refine pw_mv (by rfl) rfl rfl ?_
       simp only [Act.put, pu]
       refine pw_mv (by rfl) rfl rfl ?_
       simp only [Act.put, pu]
       refine pw_mv (by rfl) rfl rfl ?_
       simp only [Act.put, pu]
       refine pw_value (by rfl) (.bool false) (exec_lt_b _ _ _ _ rfl (s : Nat) (mid : Nat) rfl rfl false (decide_eq_false (by (go_light; omega)))) ?_
       simp only [Act.put, pu]
       refine pw_pick (by rfl) true (v := .bool false) rfl rfl rfl ?_
       simp only [Act.put, pu]
       refine pw_nil ?_
       obtain ⟨u2, hP2, hS2, rD⟩ : ∃ u2, Pm a mid u1 u2 ∧ Srt κ a mid u2 ∧ Row _ g (isC n u2) 3 := ⟨u1, Pm.refl _ _ _, hM1.flat (by (go_light; omega)) (by (go_light; omega)) (by (go_light; omega)), rD⟩
       have hM3 : MP κ mid e b u2 := ⟨hM2.l.congr (fun i q1 q2 => hP2.out (.inr q1)), hM2.r.congr (fun i q1 q2 => hP2.out (.inr (by (go_light; omega)))), fun p q q1 q2 q3 q4 => by rw [hP2.out (.inr q1), hP2.out (.inr (by (go_light; omega)))]; exact hM2.x p q q1 q2 q3 q4⟩
       have hu2 := hP2.lt (show mid ≤ n by (go_light; omega)) hu1
       (repeat ((fail_if_success with_reducible refine rg ?_); go_step))
       refine wp_region_pw ?_
       refine pw_mv (by rfl) rfl rfl ?_
       simp only [Act.put, pu]
       refine pw_mv (by rfl) rfl rfl ?_
       simp only [Act.put, pu]
       refine pw_value (by rfl) (.bool false) (exec_lt_b _ _ _ _ rfl (mid : Nat) (e : Nat) rfl rfl false (decide_eq_false (by (go_light; omega)))) ?_
       simp only [Act.put, pu]
       refine pw_mv (by rfl) rfl rfl ?_
       simp only [Act.put, pu]
       refine pw_skip (by rfl) ?_
       simp only [Act.put, pu]
       refine pw_skip (by rfl) ?_
       simp only [Act.put, pu]
       refine pw_skip (by rfl) ?_
       simp only [Act.put, pu]
       refine pw_pick (by rfl) false (v := .bool false) rfl rfl rfl ?_
       simp only [Act.put, pu]
       refine pw_nil ?_
       obtain ⟨u3, hP3, hS3, rD⟩ : ∃ u3, Pm mid b u2 u3 ∧ Srt κ mid b u3 ∧ Row _ g (isC n u3) 3 := ⟨u2, Pm.refl _ _ _, hM3.flat (by (go_light; omega)) (by (go_light; omega)) (by (go_light; omega)), rD⟩
       go_wp2
       go_end0
       exact ⟨rfl, u3, hp1.tr ((hP2.wide (Nat.le_refl a) (by (go_light; omega))).tr (hP3.wide (by (go_light; omega)) (Nat.le_refl b))), mrg_done (by (go_light; omega)) (by (go_light; omega)) hX hP2 hS2 hP3 hS3, rD, sk⟩
theorem mrg_any (L : Nat) : ∀ (g n a m b gl : Nat) (u : Nat → Nat) (κ : Nat → Int) (w : World) (hL : b - a ≤ L) (ham : a < m) (hmb : m < b) (hb : b ≤ n) (hn : n ≤ 1000) (hu : ∀ i, i < n → u i < n) (hM : MP κ a m b u) (rD : Row w g (isC n u) 3) (hc : CA w g n κ gl),
  Calls Try.prog 37 #[.slice (some ⟨g, 0, none⟩) n n, .int .i64 (a : Nat), .int .i64 (m : Nat), .int .i64 (b : Nat), .func (.func 31) #[] #[.pointer (some ⟨gl, 0, none⟩)]] w fun e w' => e = .returned (.tuple #[]) ∧ ∃ v, Pm a b u v ∧ Srt κ a b v ∧ Row w' g (isC n v) 3 ∧ Kept [g] w w' := by
 induction L with
 | zero => intro g n a m b gl u κ w hL ham hmb; omega
 | succ L ih => exact mrg_step L ih
end Go.Proofs.Ytonppckllfamiaa
