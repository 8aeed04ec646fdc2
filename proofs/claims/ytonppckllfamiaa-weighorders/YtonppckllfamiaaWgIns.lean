/- slices' insertionSort, swapRange, rotate, with the closure of weigh's Order. -/
import Derived.Test.YtonppckllfamiaaWgFun
import Derived.Test.YtonppckllfamiaaWgSort
namespace Go.Proofs.Ytonppckllfamiaa
open Go.RowKit
set_option linter.unusedVariables false
set_option linter.unusedSectionVars false
set_option linter.unusedSimpArgs false
theorem size1_int : (Try.prog.info? 3).map (·.size) = some 1 := by kernel_rfl
theorem isC_at (n : Nat) (u : Nat → Nat) (i : Nat) (h : i < n) : (isC n u)[0 + i * 1]? = some (.int .i64 (u i : Nat)) := by
 rw [Nat.zero_add, Nat.mul_one]; exact isC_get n u i h
theorem sw1 (n : Nat) (u : Nat → Nat) (p q : Nat) : (isC n u).setIfInBounds (0 + p * 1) (.int .i64 (u q : Nat)) = isC n (fun k => if k = p then u q else u k) := by
 rw [Nat.zero_add, Nat.mul_one]
 exact isC_put n u _ p (u q) (fun j _ => rfl)
theorem sw2 (n : Nat) (u : Nat → Nat) (p q : Nat) : (isC n (fun k => if k = p then u q else u k)).setIfInBounds (0 + q * 1) (.int .i64 (u p : Nat)) = isC n (fun k => u (swp p q k)) := by
 rw [Nat.zero_add, Nat.mul_one]
 refine isC_put n _ _ q (u p) (fun j _ => ?_)
 by_cases h1 : j = q
 ·subst h1
  rw [if_pos rfl]
  by_cases h2 : j = p
  ·subst h2; rw [swp_l]
  ·rw [swp_r h2]
 ·rw [if_neg h1]
  by_cases h2 : j = p
  ·subst h2; rw [if_pos rfl, swp_l]
  ·rw [if_neg h2, swp_o h2 h1]
theorem Pm.lt {n a b : Nat} {u v : Nat → Nat} (h : Pm a b u v) (hb : b ≤ n) (hu : ∀ i, i < n → u i < n) : ∀ i, i < n → v i < n := fun i hi => by
 by_cases c : a ≤ i ∧ i < b
 ·obtain ⟨j, _, h2, e⟩ := h.mem c.1 c.2
  rw [e]; exact hu j (by omega)
 ·rw [h.out (by omega)]; exact hu i hi
/-- What the closure tells of numbers below n, however the row g stands. -/
def CA (w : World) (g n : Nat) (κ : Nat → Int) (gl : Nat) : Prop := ∀ w' (x y : Nat), Kept [g] w w' → x < n → y < n → Calls Try.prog 31 #[.int .i64 (x : Nat), .int .i64 (y : Nat), .pointer (some ⟨gl, 0, none⟩)] w' fun e w2 => e = .returned (.int .i64 (cpz (κ x) (κ y))) ∧ Below w'.heap.size w' w2
theorem CA.on {w w2 : World} {g n gl : Nat} {κ : Nat → Int} (h : CA w g n κ gl) (k : Kept [g] w w2) : CA w2 g n κ gl := fun w' x y k' => h w' x y (k.trans k' (by simp))
set_option maxRecDepth 100000 in
set_option maxHeartbeats 2000000 in
theorem swr_any (g n a b k : Nat) (u : Nat → Nat) (cv : Value) (w : World) (hab : a + k ≤ b) (hb : b + k ≤ n) (hn : n ≤ 1000) (rD : Row w g (isC n u) 3) :
  Calls Try.prog 39 #[.slice (some ⟨g, 0, none⟩) n n, .int .i64 (a : Nat), .int .i64 (b : Nat), .int .i64 (k : Nat), cv] w fun e w' => e = .returned (.tuple #[]) ∧ Row w' g (isC n (swr a b k u)) 3 ∧ Kept [g] w w' := by
 have hlt := rD.lt
 have sk := Kept.refl [g] w
 go_enter Try.func39, Try.ntmps39
 (repeat ((fail_if_success with_reducible refine rg ?_); go_step))
 refine wp_region_pw ?_
 refine pw_value (by rfl) (.int .i64 0) (fun _ => rfl) ?_
 simp only [Act.put, pu]
 refine pw_nil ?_
 go_wp2_with fail
 go_loopg [10] k (fun x s10 wr => ∃ i : Nat, i + x = k ∧ s10 = .int .i64 i ∧ Row wr g (isC n (swr a b i u)) 3 ∧ Kept [g] w wr)
 case atStart => exact ⟨0, by omega, rfl, by rw [swr_0]; exact rD, sk⟩
 case round =>
  clear rD sk
  obtain ⟨i, hi, rfl, rD, sk⟩ := hrel
  cases gk with
  | zero =>
   obtain rfl : i = k := by omega
   (repeat ((fail_if_success with_reducible refine rg ?_); go_step))
   refine wp_region_pw ?_
   refine pw_mv (by rfl) rfl rfl ?_
   simp only [Act.put, pu]
   refine pw_mv (by rfl) rfl rfl ?_
   simp only [Act.put, pu]
   refine pw_value (by rfl) (.bool false) (exec_lt_b _ _ _ _ rfl (i : Nat) (i : Nat) rfl rfl false (decide_eq_false (by omega))) ?_
   simp only [Act.put, pu]
   refine pw_nil ?_
   go_wp2
   go_end0
   exact ⟨rfl, rD, sk⟩
  | succ x =>
   have hs := swr_s u hab (show i < k by omega)
   generalize swr a b i u = X at *
   (repeat ((fail_if_success with_reducible refine rg ?_); go_step))
   refine wp_region_pw ?_
   refine pw_mv (by rfl) rfl rfl ?_
   simp only [Act.put, pu]
   refine pw_mv (by rfl) rfl rfl ?_
   simp only [Act.put, pu]
   refine pw_value (by rfl) (.bool true) (exec_lt_b _ _ _ _ rfl (i : Nat) (k : Nat) rfl rfl true (decide_eq_true (by omega))) ?_
   simp only [Act.put, pu]
   refine pw_nil ?_
   have hc1 := sw1 n X ((a + i)) ((b + i))
   have hc2 := sw2 n X ((a + i)) ((b + i))
   (repeat ((fail_if_success with_reducible refine rg ?_); go_step))
   apply wp_region_mix (by kernel_rfl) [(g, 3, isC n X)] [_, _, _, _, _, _, _, _, _, _, _, _, _, _, _, _, _, _, _, _, _, _, _, _] ⟨rD, trivial⟩ (by simp <;> omega)
   ·intro p
    refine mx_move rfl rfl ?_
    simp only [Act.put, pu]
    refine mx_move rfl rfl ?_
    simp only [Act.put, pu]
    refine mx_move rfl rfl ?_
    simp only [Act.put, pu]
    refine mx_val (.int .i64 ((a + i : Nat) : Int)) (exec_add_in _ _ _ _ rfl (a) (i) rfl rfl (by omega)) ?_
    simp only [Act.put, pu]
    refine mx_move rfl rfl ?_
    simp only [Act.put, pu]
    refine mx_move rfl rfl ?_
    simp only [Act.put, pu]
    refine mx_move rfl rfl ?_
    simp only [Act.put, pu]
    refine mx_val (.int .i64 ((b + i : Nat) : Int)) (exec_add_in _ _ _ _ rfl (b) (i) rfl rfl (by omega)) ?_
    simp only [Act.put, pu]
    refine mx_move rfl rfl ?_
    simp only [Act.put, pu]
    refine mx_move rfl rfl ?_
    simp only [Act.put, pu]
    refine mx_move rfl rfl ?_
    simp only [Act.put, pu]
    refine mx_val (.int .i64 ((b + i : Nat) : Int)) (exec_add_in _ _ _ _ rfl (b) (i) rfl rfl (by omega)) ?_
    simp only [Act.put, pu]
    refine mx_val (.pointer (some ⟨g, 0 + (b + i) * 1, none⟩)) ((exec_index_s 34 _ _ rfl (g) (0) (n) (n) rfl ((b + i)) rfl (by omega) _ Try.underlying34 1 Try.sizeOf3)) ?_
    simp only [Act.put, pu]
    refine mx_loadcT 0 3 _ rfl (0 + ((b + i)) * 1) rfl rfl (.int .i64 (X ((b + i)) : Nat)) (isC_at n X ((b + i)) (by omega)) Try.isAgg3 ?_
    simp only [Act.put, pu]
    refine mx_move rfl rfl ?_
    simp only [Act.put, pu]
    refine mx_move rfl rfl ?_
    simp only [Act.put, pu]
    refine mx_move rfl rfl ?_
    simp only [Act.put, pu]
    refine mx_val (.int .i64 ((a + i : Nat) : Int)) (exec_add_in _ _ _ _ rfl (a) (i) rfl rfl (by omega)) ?_
    simp only [Act.put, pu]
    refine mx_val (.pointer (some ⟨g, 0 + (a + i) * 1, none⟩)) ((exec_index_s 34 _ _ rfl (g) (0) (n) (n) rfl ((a + i)) rfl (by omega) _ Try.underlying34 1 Try.sizeOf3)) ?_
    simp only [Act.put, pu]
    refine mx_loadcT 0 3 _ rfl (0 + ((a + i)) * 1) rfl rfl (.int .i64 (X ((a + i)) : Nat)) (isC_at n X ((a + i)) (by omega)) Try.isAgg3 ?_
    simp only [Act.put, pu]
    refine mx_val (.pointer (some ⟨g, 0 + (a + i) * 1, none⟩)) ((exec_index_s 34 _ _ rfl (g) (0) (n) (n) rfl ((a + i)) rfl (by omega) _ Try.underlying34 1 Try.sizeOf3)) ?_
    simp only [Act.put, pu]
    refine mx_putv 0 3 _ _ rfl (0 + ((a + i)) * 1) rfl rfl (.int .i64 (X ((b + i)) : Nat)) rfl rfl rfl size1_int (by rw [isC_size]; omega) _ hc1 ?_
    simp only [Act.put]
    refine mx_val (.pointer (some ⟨g, 0 + (b + i) * 1, none⟩)) ((exec_index_s 34 _ _ rfl (g) (0) (n) (n) rfl ((b + i)) rfl (by omega) _ Try.underlying34 1 Try.sizeOf3)) ?_
    simp only [Act.put, pu]
    refine mx_putv 0 3 _ _ rfl (0 + ((b + i)) * 1) rfl rfl (.int .i64 (X ((a + i)) : Nat)) rfl rfl rfl size1_int (by rw [isC_size]; omega) _ hc2 ?_
    simp only [Act.put]
    refine mx_end ?_
    intro w2 hkw hrw hnew hdis
    replace rD : Row w2 g (isC n (fun k => X (swp ((a + i)) ((b + i)) k))) 3 := hrw 0 (3, (isC n (fun k => X (swp ((a + i)) ((b + i)) k)))) rfl
    replace sk := sk.trans hkw (by simp)
    clear hkw hrw hnew hdis hc1 hc2
    rw [hs] at rD
    (repeat ((fail_if_success with_reducible refine rg ?_); go_step))
    refine wp_region_pw ?_
    refine pw_mv (by rfl) rfl rfl ?_
    simp only [Act.put, pu]
    refine pw_value (by rfl) (.int .i64 ((i + 1 : Nat) : Int)) (exec_add_in _ _ _ _ rfl (i) (1) rfl rfl (by omega)) ?_
    simp only [Act.put, pu]
    refine pw_as (by rfl) rfl rfl ?_
    simp only [Act.put, pu]
    refine pw_nil ?_
    go_wp2
    go_roundg x
    case measure => omega
    case rel => exact ⟨i + 1, by omega, rfl, rD, sk⟩
   ·kernel_rfl
set_option maxRecDepth 100000 in
set_option maxHeartbeats 2000000 in
theorem rot_any (g n a m b : Nat) (u : Nat → Nat) (cv : Value) (w : World) (ham : a < m) (hmb : m < b) (hb : b ≤ n) (hn : n ≤ 1000) (rD : Row w g (isC n u) 3) :
  Calls Try.prog 38 #[.slice (some ⟨g, 0, none⟩) n n, .int .i64 (a : Nat), .int .i64 (m : Nat), .int .i64 (b : Nat), cv] w fun e w' => e = .returned (.tuple #[]) ∧ Row w' g (isC n (rot a m b u)) 3 ∧ Kept [g] w w' := by
 have hlt := rD.lt
 have sk := Kept.refl [g] w
 go_enter Try.func38, Try.ntmps38
 (repeat ((fail_if_success with_reducible refine rg ?_); go_step))
 refine wp_region_pw ?_
 refine pw_mv (by rfl) rfl rfl ?_
 simp only [Act.put, pu]
 refine pw_mv (by rfl) rfl rfl ?_
 simp only [Act.put, pu]
 refine pw_value (by rfl) (.int .i64 ((m - a : Nat) : Int)) (exec_sub_in _ _ _ _ rfl (m) (a) rfl rfl (by omega) (by omega)) ?_
 simp only [Act.put, pu]
 refine pw_as (by rfl) rfl rfl ?_
 simp only [Act.put, pu]
 refine pw_nil ?_
 (repeat ((fail_if_success with_reducible refine rg ?_); go_step))
 refine wp_region_pw ?_
 refine pw_mv (by rfl) rfl rfl ?_
 simp only [Act.put, pu]
 refine pw_mv (by rfl) rfl rfl ?_
 simp only [Act.put, pu]
 refine pw_value (by rfl) (.int .i64 ((b - m : Nat) : Int)) (exec_sub_in _ _ _ _ rfl (b) (m) rfl rfl (by omega) (by omega)) ?_
 simp only [Act.put, pu]
 refine pw_as (by rfl) rfl rfl ?_
 simp only [Act.put, pu]
 refine pw_nil ?_
 go_wp2_with fail
 go_loopg [10, 11] (b - a) (fun x s10 s11 wr => ∃ (i j : Nat) (X : Nat → Nat), 0 < i ∧ 0 < j ∧ i ≤ m ∧ m + j ≤ n ∧ i + j ≤ x ∧ s10 = .int .i64 i ∧ s11 = .int .i64 j ∧ rot (m - i) m (m + j) X = rot a m b u ∧ Row wr g (isC n X) 3 ∧ Kept [g] w wr)
 case atStart => exact ⟨m - a, b - m, u, by omega, by omega, by omega, by omega, by omega, rfl, rfl, by rw [show m - (m - a) = a by omega, show m + (b - m) = b by omega], rD, sk⟩
 case round =>
  clear rD sk
  obtain ⟨i, j, X, hi, hj, him, hjn, hx, rfl, rfl, hX, rD, sk⟩ := hrel
  by_cases hij : i = j
  ·subst hij
   rw [← rot_eq X him] at hX
   have hsw := fun w' (q : Row w' g (isC n X) 3) => swr_any g n (m - i) m i X cv w' (by omega) (by omega) hn q
   rw [hX] at hsw
   (repeat ((fail_if_success with_reducible refine rg ?_); go_step))
   refine wp_region_pw ?_
   refine pw_mv (by rfl) rfl rfl ?_
   simp only [Act.put, pu]
   refine pw_mv (by rfl) rfl rfl ?_
   simp only [Act.put, pu]
   refine pw_value (by rfl) (.bool false) (exec_neq_k .i64 _ _ _ _ rfl (i : Nat) (i : Nat) rfl rfl false (by rw [decide_eq_true rfl]; rfl)) ?_
   simp only [Act.put, pu]
   refine pw_nil ?_
   (repeat ((fail_if_success with_reducible refine rg ?_); go_step))
   refine wp_region_pw ?_
   refine pw_mv (by rfl) rfl rfl ?_
   simp only [Act.put, pu]
   refine pw_mv (by rfl) rfl rfl ?_
   simp only [Act.put, pu]
   refine pw_mv (by rfl) rfl rfl ?_
   simp only [Act.put, pu]
   refine pw_value (by rfl) (.int .i64 ((m - i : Nat) : Int)) (exec_sub_in _ _ _ _ rfl (m) (i) rfl rfl (by omega) (by omega)) ?_
   simp only [Act.put, pu]
   refine pw_mv (by rfl) rfl rfl ?_
   simp only [Act.put, pu]
   refine pw_mv (by rfl) rfl rfl ?_
   simp only [Act.put, pu]
   refine pw_mv (by rfl) rfl rfl ?_
   simp only [Act.put, pu]
   refine pw_callE (by rfl) 39 _ _ rfl Try.func39 (by kernel_rfl) #[.slice (some ⟨g, 0, none⟩) n n, .int .i64 ((m - i : Nat) : Nat), .int .i64 (m : Nat), .int .i64 (i : Nat), cv] rfl (hsw _ rD) ?_
   have crD := rD.lt
   clear rD
   rintro _ z8007 ⟨rfl, rD, k⟩
   refine ⟨_, rfl, ?_⟩
   simp only [Act.put, pu]
   clear crD
   replace sk := sk.trans k (by simp <;> omega)
   clear k
   refine pw_nil ?_
   go_wp2
   go_end0
   exact ⟨rfl, rD, sk⟩
  ·have hne : (!decide ((i : Int) = (j : Int))) = true := by rw [decide_eq_false (by omega)]; rfl
   by_cases hgt : j < i
   ·rw [← rot_gt X him hj hgt] at hX
    have hsw := fun w' (q : Row w' g (isC n X) 3) => swr_any g n (m - i) m j X cv w' (by omega) (by omega) hn q
    generalize swr (m - i) m j X = Y at *
    (repeat ((fail_if_success with_reducible refine rg ?_); go_step))
    refine wp_region_pw ?_
    refine pw_mv (by rfl) rfl rfl ?_
    simp only [Act.put, pu]
    refine pw_mv (by rfl) rfl rfl ?_
    simp only [Act.put, pu]
    refine pw_value (by rfl) (.bool true) (exec_neq_k .i64 _ _ _ _ rfl (i : Nat) (j : Nat) rfl rfl true hne) ?_
    simp only [Act.put, pu]
    refine pw_nil ?_
    (repeat ((fail_if_success with_reducible refine rg ?_); go_step))
    refine wp_region_pw ?_
    refine pw_mv (by rfl) rfl rfl ?_
    simp only [Act.put, pu]
    refine pw_mv (by rfl) rfl rfl ?_
    simp only [Act.put, pu]
    refine pw_value (by rfl) (.bool true) (exec_gt_i _ _ _ _ rfl (i : Nat) (j : Nat) rfl rfl true (decide_eq_true (by omega))) ?_
    simp only [Act.put, pu]
    refine pw_nil ?_
    (repeat ((fail_if_success with_reducible refine rg ?_); go_step))
    refine wp_region_pw ?_
    refine pw_mv (by rfl) rfl rfl ?_
    simp only [Act.put, pu]
    refine pw_mv (by rfl) rfl rfl ?_
    simp only [Act.put, pu]
    refine pw_mv (by rfl) rfl rfl ?_
    simp only [Act.put, pu]
    refine pw_value (by rfl) (.int .i64 ((m - i : Nat) : Int)) (exec_sub_in _ _ _ _ rfl (m) (i) rfl rfl (by omega) (by omega)) ?_
    simp only [Act.put, pu]
    refine pw_mv (by rfl) rfl rfl ?_
    simp only [Act.put, pu]
    refine pw_mv (by rfl) rfl rfl ?_
    simp only [Act.put, pu]
    refine pw_mv (by rfl) rfl rfl ?_
    simp only [Act.put, pu]
    refine pw_callE (by rfl) 39 _ _ rfl Try.func39 (by kernel_rfl) #[.slice (some ⟨g, 0, none⟩) n n, .int .i64 ((m - i : Nat) : Nat), .int .i64 (m : Nat), .int .i64 (j : Nat), cv] rfl (hsw _ rD) ?_
    have crD := rD.lt
    clear rD
    rintro _ z4007 ⟨rfl, rD, k⟩
    refine ⟨_, rfl, ?_⟩
    simp only [Act.put, pu]
    clear crD
    replace sk := sk.trans k (by simp <;> omega)
    clear k
    refine pw_nil ?_
    (repeat ((fail_if_success with_reducible refine rg ?_); go_step))
    refine wp_region_pw ?_
    refine pw_mv (by rfl) rfl rfl ?_
    simp only [Act.put, pu]
    refine pw_mv (by rfl) rfl rfl ?_
    simp only [Act.put, pu]
    refine pw_value (by rfl) (.int .i64 ((i - j : Nat) : Int)) (exec_sub_in _ _ _ _ rfl (i) (j) rfl rfl (by omega) (by omega)) ?_
    simp only [Act.put, pu]
    refine pw_as (by rfl) rfl rfl ?_
    simp only [Act.put, pu]
    refine pw_nil ?_
    go_wp2
    go_roundg (i - j + j)
    case measure => omega
    case rel => exact ⟨i - j, j, Y, by omega, hj, by omega, hjn, by omega, rfl, rfl, hX, rD, sk⟩
   ·rw [← rot_lt X him hi (by omega)] at hX
    have hsw := fun w' (q : Row w' g (isC n X) 3) => swr_any g n (m - i) (m + j - i) i X cv w' (by omega) (by omega) hn q
    generalize swr (m - i) (m + j - i) i X = Y at *
    (repeat ((fail_if_success with_reducible refine rg ?_); go_step))
    refine wp_region_pw ?_
    refine pw_mv (by rfl) rfl rfl ?_
    simp only [Act.put, pu]
    refine pw_mv (by rfl) rfl rfl ?_
    simp only [Act.put, pu]
    refine pw_value (by rfl) (.bool true) (exec_neq_k .i64 _ _ _ _ rfl (i : Nat) (j : Nat) rfl rfl true hne) ?_
    simp only [Act.put, pu]
    refine pw_nil ?_
    (repeat ((fail_if_success with_reducible refine rg ?_); go_step))
    refine wp_region_pw ?_
    refine pw_mv (by rfl) rfl rfl ?_
    simp only [Act.put, pu]
    refine pw_mv (by rfl) rfl rfl ?_
    simp only [Act.put, pu]
    refine pw_value (by rfl) (.bool false) (exec_gt_i _ _ _ _ rfl (i : Nat) (j : Nat) rfl rfl false (decide_eq_false (by omega))) ?_
    simp only [Act.put, pu]
    refine pw_nil ?_
    (repeat ((fail_if_success with_reducible refine rg ?_); go_step))
    refine wp_region_pw ?_
    refine pw_mv (by rfl) rfl rfl ?_
    simp only [Act.put, pu]
    refine pw_mv (by rfl) rfl rfl ?_
    simp only [Act.put, pu]
    refine pw_mv (by rfl) rfl rfl ?_
    simp only [Act.put, pu]
    refine pw_value (by rfl) (.int .i64 ((m - i : Nat) : Int)) (exec_sub_in _ _ _ _ rfl (m) (i) rfl rfl (by omega) (by omega)) ?_
    simp only [Act.put, pu]
    refine pw_mv (by rfl) rfl rfl ?_
    simp only [Act.put, pu]
    refine pw_mv (by rfl) rfl rfl ?_
    simp only [Act.put, pu]
    refine pw_value (by rfl) (.int .i64 ((m + j : Nat) : Int)) (exec_add_in _ _ _ _ rfl (m) (j) rfl rfl (by omega)) ?_
    simp only [Act.put, pu]
    refine pw_mv (by rfl) rfl rfl ?_
    simp only [Act.put, pu]
    refine pw_value (by rfl) (.int .i64 ((m + j - i : Nat) : Int)) (exec_sub_in _ _ _ _ rfl (m + j) (i) rfl rfl (by omega) (by omega)) ?_
    simp only [Act.put, pu]
    refine pw_mv (by rfl) rfl rfl ?_
    simp only [Act.put, pu]
    refine pw_mv (by rfl) rfl rfl ?_
    simp only [Act.put, pu]
    refine pw_callE (by rfl) 39 _ _ rfl Try.func39 (by kernel_rfl) #[.slice (some ⟨g, 0, none⟩) n n, .int .i64 ((m - i : Nat) : Nat), .int .i64 ((m + j - i : Nat) : Nat), .int .i64 (i : Nat), cv] rfl (hsw _ rD) ?_
    have crD := rD.lt
    clear rD
    rintro _ z6011 ⟨rfl, rD, k⟩
    refine ⟨_, rfl, ?_⟩
    simp only [Act.put, pu]
    clear crD
    replace sk := sk.trans k (by simp <;> omega)
    clear k
    refine pw_nil ?_
    (repeat ((fail_if_success with_reducible refine rg ?_); go_step))
    refine wp_region_pw ?_
    refine pw_mv (by rfl) rfl rfl ?_
    simp only [Act.put, pu]
    refine pw_mv (by rfl) rfl rfl ?_
    simp only [Act.put, pu]
    refine pw_value (by rfl) (.int .i64 ((j - i : Nat) : Int)) (exec_sub_in _ _ _ _ rfl (j) (i) rfl rfl (by omega) (by omega)) ?_
    simp only [Act.put, pu]
    refine pw_as (by rfl) rfl rfl ?_
    simp only [Act.put, pu]
    refine pw_nil ?_
    go_wp2
    go_roundg (i + (j - i))
    case measure => omega
    case rel => exact ⟨i, j - i, Y, hi, by omega, him, by omega, by omega, rfl, rfl, hX, rD, sk⟩
set_option maxRecDepth 100000 in
set_option maxHeartbeats 2000000 in
theorem ins_any (g n a b gl : Nat) (u : Nat → Nat) (κ : Nat → Int) (w : World) (hab : a ≤ b) (hb : b ≤ n) (hn : n ≤ 1000) (hu : ∀ i, i < n → u i < n) (hr : ∀ p q, a ≤ p → p < q → q < b → u p < u q) (rD : Row w g (isC n u) 3) (hc : CA w g n κ gl) :
  Calls Try.prog 36 #[.slice (some ⟨g, 0, none⟩) n n, .int .i64 (a : Nat), .int .i64 (b : Nat), .func (.func 31) #[] #[.pointer (some ⟨gl, 0, none⟩)]] w fun e w' => e = .returned (.tuple #[]) ∧ ∃ v, Pm a b u v ∧ Srt κ a b v ∧ Row w' g (isC n v) 3 ∧ Kept [g] w w' := by
 have hlt := rD.lt
 have sk := Kept.refl [g] w
 go_enter Try.func36, Try.ntmps36
 (repeat ((fail_if_success with_reducible refine rg ?_); go_step))
 refine wp_region_pw ?_
 refine pw_mv (by rfl) rfl rfl ?_
 simp only [Act.put, pu]
 refine pw_value (by rfl) (.int .i64 ((a + 1 : Nat) : Int)) (exec_add_in _ _ _ _ rfl (a) (1) rfl rfl (by omega)) ?_
 simp only [Act.put, pu]
 refine pw_as (by rfl) rfl rfl ?_
 simp only [Act.put, pu]
 refine pw_nil ?_
 go_wp2_with fail
 go_loopg [8, 9] (b - (a + 1)) (fun x s8 s9 wr => ∃ (i : Nat) (v : Nat → Nat), b - i = x ∧ a < i ∧ s8 = .int .i64 i ∧ Pm a (min i b) u v ∧ Srt κ a (min i b) v ∧ Row wr g (isC n v) 3 ∧ Kept [g] w wr)
 case atStart => exact ⟨a + 1, u, rfl, by omega, rfl, Pm.refl _ _ _, fun i j h1 h2 h3 => by omega, rD, sk⟩
 case round =>
  clear rD sk
  obtain ⟨i, v, hi, hai, rfl, hP, hS, rD, sk⟩ := hrel
  by_cases hib : i < b
  ·rw [Nat.min_eq_left (by omega)] at hP hS
   have hI := ins_start hr hib hP hS
   clear hP hS
   (repeat ((fail_if_success with_reducible refine rg ?_); go_step))
   refine wp_region_pw ?_
   refine pw_mv (by rfl) rfl rfl ?_
   simp only [Act.put, pu]
   refine pw_mv (by rfl) rfl rfl ?_
   simp only [Act.put, pu]
   refine pw_value (by rfl) (.bool true) (exec_lt_b _ _ _ _ rfl (i : Nat) (b : Nat) rfl rfl true (decide_eq_true (by omega))) ?_
   simp only [Act.put, pu]
   refine pw_nil ?_
   (repeat ((fail_if_success with_reducible refine rg ?_); go_step))
   refine wp_region_pw ?_
   refine pw_mv (by rfl) rfl rfl ?_
   simp only [Act.put, pu]
   refine pw_as (by rfl) rfl rfl ?_
   simp only [Act.put, pu]
   refine pw_nil ?_
   go_wp2_with fail
   go_loopg [9] (i - a) (fun y s9 wr => ∃ (j : Nat) (v : Nat → Nat), j - a = y ∧ a ≤ j ∧ j ≤ i ∧ s9 = .int .i64 j ∧ InsI κ a i j u v ∧ Row wr g (isC n v) 3 ∧ Kept [g] w wr)
   case atStart => exact ⟨i, v, rfl, by omega, by omega, rfl, hI, rD, sk⟩
   case round =>
    clear rD sk hI v
    obtain ⟨j, v, hj, haj, hji, rfl, hI, rD, sk⟩ := hrel
    have hv := hI.pm.lt (show i + 1 ≤ n by omega) hu
    by_cases hja : j = a
    ·have hE := ins_end hI haj hji (fun h => by omega)
     (repeat ((fail_if_success with_reducible refine rg ?_); go_step))
     refine wp_region_qw (by kernel_rfl) (by kernel_rfl) ?_
     refine qw_move (by rfl) rfl rfl ?_
     simp only [Act.put, pu]
     refine qw_move (by rfl) rfl rfl ?_
     simp only [Act.put, pu]
     refine qw_value (by rfl) (.bool false) (exec_gt_i _ _ _ _ rfl (j : Nat) (a : Nat) rfl rfl false (decide_eq_false (by omega))) ?_
     simp only [Act.put, pu]
     refine qw_move (by rfl) rfl rfl ?_
     simp only [Act.put, pu]
     refine qw_skip (by rfl) ?_
     simp only [Act.put, pu]
     refine qw_skip (by rfl) ?_
     simp only [Act.put, pu]
     refine qw_skip (by rfl) ?_
     simp only [Act.put, pu]
     refine qw_skip (by rfl) ?_
     simp only [Act.put, pu]
     refine qw_skip (by rfl) ?_
     simp only [Act.put, pu]
     refine qw_skip (by rfl) ?_
     simp only [Act.put, pu]
     refine qw_skip (by rfl) ?_
     simp only [Act.put, pu]
     refine qw_skip (by rfl) ?_
     simp only [Act.put, pu]
     refine qw_skip (by rfl) ?_
     simp only [Act.put, pu]
     refine qw_skip (by rfl) ?_
     simp only [Act.put, pu]
     refine qw_skip (by rfl) ?_
     simp only [Act.put, pu]
     refine qw_skip (by rfl) ?_
     simp only [Act.put, pu]
     refine qw_pick false (v := .bool false) (by rfl) rfl rfl rfl ?_
     simp only [Act.put, pu]
     refine qw_nil ?_
     intro w2 hqb
     replace rD := rD.belowAll hqb
     replace sk := sk.on hqb
     clear hqb
     (repeat ((fail_if_success with_reducible refine rg ?_); go_step))
     refine wp_region_pw ?_
     refine pw_mv (by rfl) rfl rfl ?_
     simp only [Act.put, pu]
     refine pw_value (by rfl) (.int .i64 ((i + 1 : Nat) : Int)) (exec_add_in _ _ _ _ rfl (i) (1) rfl rfl (by omega)) ?_
     simp only [Act.put, pu]
     refine pw_as (by rfl) rfl rfl ?_
     simp only [Act.put, pu]
     refine pw_nil ?_
     go_wp2
     go_roundg (b - (i + 1))
     case measure => omega
     case rel => exact ⟨i + 1, v, rfl, by omega, rfl, by rw [Nat.min_eq_left (by omega)]; exact hE.1, by rw [Nat.min_eq_left (by omega)]; exact hE.2, rD, sk⟩
    ·by_cases hk : κ (v j) < κ (v (j - 1))
     ·have hB : decide (cpz (κ (v j)) (κ (v (j - 1))) < 0) = true := decide_eq_true ((cpz_lt _ _).2 hk)
      have hI2 := ins_swap hI (by omega) hji hk
      (repeat ((fail_if_success with_reducible refine rg ?_); go_step))
      refine wp_region_qw (by kernel_rfl) (by kernel_rfl) ?_
      refine qw_move (by rfl) rfl rfl ?_
      simp only [Act.put, pu]
      refine qw_move (by rfl) rfl rfl ?_
      simp only [Act.put, pu]
      refine qw_value (by rfl) (.bool true) (exec_gt_i _ _ _ _ rfl (j : Nat) (a : Nat) rfl rfl true (decide_eq_true (by omega))) ?_
      simp only [Act.put, pu]
      refine qw_move (by rfl) rfl rfl ?_
      simp only [Act.put, pu]
      refine qw_move (by rfl) rfl rfl ?_
      simp only [Act.put, pu]
      refine qw_move (by rfl) rfl rfl ?_
      simp only [Act.put, pu]
      refine qw_move (by rfl) rfl rfl ?_
      simp only [Act.put, pu]
      refine qw_value (by rfl) (.pointer (some ⟨g, 0 + j * 1, none⟩)) ((exec_index_s 34 _ _ rfl (g) (0) (n) (n) rfl (j) rfl (by omega) _ Try.underlying34 1 Try.sizeOf3)) ?_
      simp only [Act.put, pu]
      refine qw_loadc (by rfl) 3 _ rfl _ (0 + j * 1) rfl rD (.int .i64 (v (j) : Nat)) (isC_at n v (j) (by omega)) Try.isAgg3 ?_
      simp only [Act.put, pu]
      refine qw_move (by rfl) rfl rfl ?_
      simp only [Act.put, pu]
      refine qw_move (by rfl) rfl rfl ?_
      simp only [Act.put, pu]
      refine qw_value (by rfl) (.int .i64 ((j - 1 : Nat) : Int)) (exec_sub_in _ _ _ _ rfl (j) (1) rfl rfl (by omega) (by omega)) ?_
      simp only [Act.put, pu]
      refine qw_value (by rfl) (.pointer (some ⟨g, 0 + (j - 1) * 1, none⟩)) ((exec_index_s 34 _ _ rfl (g) (0) (n) (n) rfl ((j - 1)) rfl (by omega) _ Try.underlying34 1 Try.sizeOf3)) ?_
      simp only [Act.put, pu]
      refine qw_loadc (by rfl) 3 _ rfl _ (0 + ((j - 1)) * 1) rfl rD (.int .i64 (v ((j - 1)) : Nat)) (isC_at n v ((j - 1)) (by omega)) Try.isAgg3 ?_
      simp only [Act.put, pu]
      refine qw_callC (by rfl) 31 _ _ _ rfl #[.pointer (some ⟨gl, 0, none⟩)] rfl Try.func31 (by kernel_rfl) #[.int .i64 (v j : Nat), .int .i64 (v (j - 1) : Nat)] rfl (.int .i64 (cpz (κ (v j)) (κ (v (j - 1))))) (fun w' hb => hc w' _ _ (sk.on hb) (hv j (by omega)) (hv (j - 1) (by omega))) ?_
      simp only [Act.put, pu]
      refine qw_value (by rfl) (.bool true) (exec_lt_b _ _ _ _ rfl (cpz (κ (v j)) (κ (v (j - 1)))) 0 rfl rfl true hB) ?_
      simp only [Act.put, pu]
      refine qw_pick true (v := .bool true) (by rfl) rfl rfl rfl ?_
      simp only [Act.put, pu]
      refine qw_nil ?_
      intro w2 hqb
      replace rD := rD.belowAll hqb
      replace sk := sk.on hqb
      clear hqb
      have hc1 := sw1 n v (j) ((j - 1))
      have hc2 := sw2 n v (j) ((j - 1))
      (repeat ((fail_if_success with_reducible refine rg ?_); go_step))
      apply wp_region_mix (by kernel_rfl) [(g, 3, isC n v)] [_, _, _, _, _, _, _, _, _, _, _, _, _, _, _, _, _, _] ⟨rD, trivial⟩ (by simp <;> omega)
      ·intro p
       refine mx_move rfl rfl ?_
       simp only [Act.put, pu]
       refine mx_move rfl rfl ?_
       simp only [Act.put, pu]
       refine mx_move rfl rfl ?_
       simp only [Act.put, pu]
       refine mx_move rfl rfl ?_
       simp only [Act.put, pu]
       refine mx_val (.int .i64 ((j - 1 : Nat) : Int)) (exec_sub_in _ _ _ _ rfl (j) (1) rfl rfl (by omega) (by omega)) ?_
       simp only [Act.put, pu]
       refine mx_move rfl rfl ?_
       simp only [Act.put, pu]
       refine mx_move rfl rfl ?_
       simp only [Act.put, pu]
       refine mx_val (.int .i64 ((j - 1 : Nat) : Int)) (exec_sub_in _ _ _ _ rfl (j) (1) rfl rfl (by omega) (by omega)) ?_
       simp only [Act.put, pu]
       refine mx_val (.pointer (some ⟨g, 0 + (j - 1) * 1, none⟩)) ((exec_index_s 34 _ _ rfl (g) (0) (n) (n) rfl ((j - 1)) rfl (by omega) _ Try.underlying34 1 Try.sizeOf3)) ?_
       simp only [Act.put, pu]
       refine mx_loadcT 0 3 _ rfl (0 + ((j - 1)) * 1) rfl rfl (.int .i64 (v ((j - 1)) : Nat)) (isC_at n v ((j - 1)) (by omega)) Try.isAgg3 ?_
       simp only [Act.put, pu]
       refine mx_move rfl rfl ?_
       simp only [Act.put, pu]
       refine mx_move rfl rfl ?_
       simp only [Act.put, pu]
       refine mx_val (.pointer (some ⟨g, 0 + j * 1, none⟩)) ((exec_index_s 34 _ _ rfl (g) (0) (n) (n) rfl (j) rfl (by omega) _ Try.underlying34 1 Try.sizeOf3)) ?_
       simp only [Act.put, pu]
       refine mx_loadcT 0 3 _ rfl (0 + j * 1) rfl rfl (.int .i64 (v (j) : Nat)) (isC_at n v (j) (by omega)) Try.isAgg3 ?_
       simp only [Act.put, pu]
       refine mx_val (.pointer (some ⟨g, 0 + j * 1, none⟩)) ((exec_index_s 34 _ _ rfl (g) (0) (n) (n) rfl (j) rfl (by omega) _ Try.underlying34 1 Try.sizeOf3)) ?_
       simp only [Act.put, pu]
       refine mx_putv 0 3 _ _ rfl (0 + (j) * 1) rfl rfl (.int .i64 (v ((j - 1)) : Nat)) rfl rfl rfl size1_int (by rw [isC_size]; omega) _ hc1 ?_
       simp only [Act.put]
       refine mx_val (.pointer (some ⟨g, 0 + (j - 1) * 1, none⟩)) ((exec_index_s 34 _ _ rfl (g) (0) (n) (n) rfl ((j - 1)) rfl (by omega) _ Try.underlying34 1 Try.sizeOf3)) ?_
       simp only [Act.put, pu]
       refine mx_putv 0 3 _ _ rfl (0 + ((j - 1)) * 1) rfl rfl (.int .i64 (v (j) : Nat)) rfl rfl rfl size1_int (by rw [isC_size]; omega) _ hc2 ?_
       simp only [Act.put]
       refine mx_end ?_
       intro w2 hkw hrw hnew hdis
       replace rD : Row w2 g (isC n (fun k => v (swp (j) ((j - 1)) k))) 3 := hrw 0 (3, (isC n (fun k => v (swp (j) ((j - 1)) k)))) rfl
       replace sk := sk.trans hkw (by simp)
       clear hkw hrw hnew hdis hc1 hc2
       (repeat ((fail_if_success with_reducible refine rg ?_); go_step))
       refine wp_region_pw ?_
       refine pw_mv (by rfl) rfl rfl ?_
       simp only [Act.put, pu]
       refine pw_value (by rfl) (.int .i64 ((j - 1 : Nat) : Int)) (exec_sub_in _ _ _ _ rfl (j) (1) rfl rfl (by omega) (by omega)) ?_
       simp only [Act.put, pu]
       refine pw_as (by rfl) rfl rfl ?_
       simp only [Act.put, pu]
       refine pw_nil ?_
       go_wp2
       go_roundg (j - 1 - a)
       case measure => omega
       case rel => exact ⟨j - 1, _, rfl, by omega, by omega, rfl, hI2, rD, sk⟩
      ·kernel_rfl
     ·have hB : decide (cpz (κ (v j)) (κ (v (j - 1))) < 0) = false := decide_eq_false (fun h => hk ((cpz_lt _ _).1 h))
      have hE := ins_end hI haj hji (fun _ => hk)
      (repeat ((fail_if_success with_reducible refine rg ?_); go_step))
      refine wp_region_qw (by kernel_rfl) (by kernel_rfl) ?_
      refine qw_move (by rfl) rfl rfl ?_
      simp only [Act.put, pu]
      refine qw_move (by rfl) rfl rfl ?_
      simp only [Act.put, pu]
      refine qw_value (by rfl) (.bool true) (exec_gt_i _ _ _ _ rfl (j : Nat) (a : Nat) rfl rfl true (decide_eq_true (by omega))) ?_
      simp only [Act.put, pu]
      refine qw_move (by rfl) rfl rfl ?_
      simp only [Act.put, pu]
      refine qw_move (by rfl) rfl rfl ?_
      simp only [Act.put, pu]
      refine qw_move (by rfl) rfl rfl ?_
      simp only [Act.put, pu]
      refine qw_move (by rfl) rfl rfl ?_
      simp only [Act.put, pu]
      refine qw_value (by rfl) (.pointer (some ⟨g, 0 + j * 1, none⟩)) ((exec_index_s 34 _ _ rfl (g) (0) (n) (n) rfl (j) rfl (by omega) _ Try.underlying34 1 Try.sizeOf3)) ?_
      simp only [Act.put, pu]
      refine qw_loadc (by rfl) 3 _ rfl _ (0 + j * 1) rfl rD (.int .i64 (v (j) : Nat)) (isC_at n v (j) (by omega)) Try.isAgg3 ?_
      simp only [Act.put, pu]
      refine qw_move (by rfl) rfl rfl ?_
      simp only [Act.put, pu]
      refine qw_move (by rfl) rfl rfl ?_
      simp only [Act.put, pu]
      refine qw_value (by rfl) (.int .i64 ((j - 1 : Nat) : Int)) (exec_sub_in _ _ _ _ rfl (j) (1) rfl rfl (by omega) (by omega)) ?_
      simp only [Act.put, pu]
      refine qw_value (by rfl) (.pointer (some ⟨g, 0 + (j - 1) * 1, none⟩)) ((exec_index_s 34 _ _ rfl (g) (0) (n) (n) rfl ((j - 1)) rfl (by omega) _ Try.underlying34 1 Try.sizeOf3)) ?_
      simp only [Act.put, pu]
      refine qw_loadc (by rfl) 3 _ rfl _ (0 + ((j - 1)) * 1) rfl rD (.int .i64 (v ((j - 1)) : Nat)) (isC_at n v ((j - 1)) (by omega)) Try.isAgg3 ?_
      simp only [Act.put, pu]
      refine qw_callC (by rfl) 31 _ _ _ rfl #[.pointer (some ⟨gl, 0, none⟩)] rfl Try.func31 (by kernel_rfl) #[.int .i64 (v j : Nat), .int .i64 (v (j - 1) : Nat)] rfl (.int .i64 (cpz (κ (v j)) (κ (v (j - 1))))) (fun w' hb => hc w' _ _ (sk.on hb) (hv j (by omega)) (hv (j - 1) (by omega))) ?_
      simp only [Act.put, pu]
      refine qw_value (by rfl) (.bool false) (exec_lt_b _ _ _ _ rfl (cpz (κ (v j)) (κ (v (j - 1)))) 0 rfl rfl false hB) ?_
      simp only [Act.put, pu]
      refine qw_pick true (v := .bool false) (by rfl) rfl rfl rfl ?_
      simp only [Act.put, pu]
      refine qw_nil ?_
      intro w2 hqb
      replace rD := rD.belowAll hqb
      replace sk := sk.on hqb
      clear hqb
      (repeat ((fail_if_success with_reducible refine rg ?_); go_step))
      refine wp_region_pw ?_
      refine pw_mv (by rfl) rfl rfl ?_
      simp only [Act.put, pu]
      refine pw_value (by rfl) (.int .i64 ((i + 1 : Nat) : Int)) (exec_add_in _ _ _ _ rfl (i) (1) rfl rfl (by omega)) ?_
      simp only [Act.put, pu]
      refine pw_as (by rfl) rfl rfl ?_
      simp only [Act.put, pu]
      refine pw_nil ?_
      go_wp2
      go_roundg (b - (i + 1))
      case measure => omega
      case rel => exact ⟨i + 1, v, rfl, by omega, rfl, by rw [Nat.min_eq_left (by omega)]; exact hE.1, by rw [Nat.min_eq_left (by omega)]; exact hE.2, rD, sk⟩
  ·rw [Nat.min_eq_right (by omega)] at hP hS
   (repeat ((fail_if_success with_reducible refine rg ?_); go_step))
   refine wp_region_pw ?_
   refine pw_mv (by rfl) rfl rfl ?_
   simp only [Act.put, pu]
   refine pw_mv (by rfl) rfl rfl ?_
   simp only [Act.put, pu]
   refine pw_value (by rfl) (.bool false) (exec_lt_b _ _ _ _ rfl (i : Nat) (b : Nat) rfl rfl false (decide_eq_false (by omega))) ?_
   simp only [Act.put, pu]
   refine pw_nil ?_
   go_wp2
   go_end0
   exact ⟨rfl, v, hP, hS, rD, sk⟩
end Go.Proofs.Ytonppckllfamiaa
