/- slices' stable, SortStableFunc; weigh's Order. -/
import Derived.Test.YtonppckllfamiaaWgMrg
import Derived.Test.YtonppckllfamiaaWgStm
namespace Go.Proofs.Ytonppckllfamiaa
open Go.RowKit
set_option linter.unusedVariables false
set_option linter.unusedSectionVars false
set_option linter.unusedSimpArgs false
set_option maxRecDepth 100000 in
set_option maxHeartbeats 2000000 in
theorem stb_any (g n gl : Nat) (κ : Nat → Int) (w : World) (hn : n ≤ 40) (rD : Row w g (isC n id) 3) (hc : CA w g n κ gl) :
  Calls Try.prog 35 #[.slice (some ⟨g, 0, none⟩) n n, .int .i64 (n : Nat), .func (.func 31) #[] #[.pointer (some ⟨gl, 0, none⟩)]] w fun e w' => e = .returned (.tuple #[]) ∧ ∃ v, Ord κ n v ∧ Row w' g (isC n v) 3 ∧ Kept [g] w w' := by
 have hlt := rD.lt
 have sk := Kept.refl [g] w
 go_enter Try.func35, Try.ntmps35
 (repeat ((fail_if_success with_reducible refine rg ?_); go_step))
 refine wp_region_pw ?_
 refine pw_value (by rfl) (.int .i64 20) (fun _ => rfl) ?_
 simp only [Act.put, pu]
 refine pw_nil ?_
 (repeat ((fail_if_success with_reducible refine rg ?_); go_step))
 refine wp_region_pw ?_
 refine pw_mv (by rfl) rfl rfl ?_
 simp only [Act.put, pu]
 refine pw_value (by rfl) (.int .i64 0) (fun _ => rfl) ?_
 simp only [Act.put, pu]
 refine pw_as (by rfl) rfl rfl ?_
 simp only [Act.put, pu]
 refine pw_nil ?_
 go_wp2_with fail
 go_loopg [7, 8] n (fun x s7 s8 wr => ∃ (A : Nat) (v : Nat → Nat), n - A ≤ x ∧ s7 = .int .i64 (A : Nat) ∧ s8 = .int .i64 ((A + 20 : Nat) : Int) ∧ A ≤ n ∧ Hid (∃ k, A = 20 * k ∧ Blk κ k v) ∧ Row wr g (isC n v) 3 ∧ Kept [g] w wr)
 case atStart => exact ⟨0, id, by omega, rfl, rfl, by omega, ⟨0, rfl, blk_0 κ⟩, rD, sk⟩
 case round =>
  clear rD sk
  obtain ⟨A, v, hx, rfl, rfl, hAn, HK, rD, sk⟩ := hrel
  have hvl : ∀ i, i < n → v i < n := by
   obtain ⟨k, rfl, hb⟩ := HK.out
   exact hb.pm.lt hAn (fun i h => h)
  have hvi : ∀ i, A ≤ i → v i = i := by
   obtain ⟨k, rfl, hb⟩ := HK.out
   exact fun i h => hb.pm.out (.inr h)
  have HV : Hid (∀ b p q, A ≤ p → p < q → q < b → v p < v q) := fun b p q h1 h2 h3 => by rw [hvi p h1, hvi q (by omega)]; exact h2
  clear hvi
  by_cases hA : A + 20 ≤ n
  ·have hin := fun w' (q : Row w' g (isC n v) 3) (hc' : CA w' g n κ gl) => ins_any g n A (A + 20) gl v κ w' (by omega) hA (by omega) hvl (HV.out _) q hc'
   have HN : Hid (∀ x, Pm A (A + 20) v x → Srt κ A (A + 20) x → ∃ k, A + 20 = 20 * k ∧ Blk κ k x) := by
    obtain ⟨k, hk, hb⟩ := HK.out
    subst hk
    exact fun x h1 h2 => ⟨k + 1, by omega, blk_step hb h1 h2⟩
   clear hvl HV HK
   (repeat ((fail_if_success with_reducible refine rg ?_); go_step))
   refine wp_region_pw ?_
   refine pw_mv (by rfl) rfl rfl ?_
   simp only [Act.put, pu]
   refine pw_mv (by rfl) rfl rfl ?_
   simp only [Act.put, pu]
   refine pw_value (by rfl) (.bool true) (exec_leq_i _ _ _ _ rfl ((A + 20 : Nat) : Nat) (n : Nat) rfl rfl true (decide_eq_true (by omega))) ?_
   simp only [Act.put, pu]
   refine pw_nil ?_
   (repeat ((fail_if_success with_reducible refine rg ?_); go_step))
   refine wp_region_pw ?_
   refine pw_mv (by rfl) rfl rfl ?_
   simp only [Act.put, pu]
   refine pw_mv (by rfl) rfl rfl ?_
   simp only [Act.put, pu]
   refine pw_mv (by rfl) rfl rfl ?_
   simp only [Act.put, pu]
   refine pw_mv (by rfl) rfl rfl ?_
   simp only [Act.put, pu]
   refine pw_callE (by rfl) 36 _ _ rfl Try.func36 (by kernel_rfl) #[.slice (some ⟨g, 0, none⟩) n n, .int .i64 (A : Nat), .int .i64 ((A + 20 : Nat) : Nat), .func (.func 31) #[] #[.pointer (some ⟨gl, 0, none⟩)]] rfl (hin _ rD (hc.on sk)) ?_
   have crD := rD.lt
   clear rD
   rintro _ z3004 ⟨rfl, x, hP, hS, rD, k⟩
   refine ⟨_, rfl, ?_⟩
   simp only [Act.put, pu]
   clear crD
   replace sk := sk.trans k (by simp <;> omega)
   clear k
   refine pw_nil ?_
   clear hin
   (repeat ((fail_if_success with_reducible refine rg ?_); go_step))
   refine wp_region_pw ?_
   refine pw_mv (by rfl) rfl rfl ?_
   simp only [Act.put, pu]
   refine pw_as (by rfl) rfl rfl ?_
   simp only [Act.put, pu]
   refine pw_nil ?_
   (repeat ((fail_if_success with_reducible refine rg ?_); go_step))
   refine wp_region_pw ?_
   refine pw_mv (by rfl) rfl rfl ?_
   simp only [Act.put, pu]
   refine pw_mv (by rfl) rfl rfl ?_
   simp only [Act.put, pu]
   refine pw_value (by rfl) (.int .i64 ((A + 20 + 20 : Nat) : Int)) (exec_add_in _ _ _ _ rfl (A + 20) 20 rfl rfl (by omega)) ?_
   simp only [Act.put, pu]
   refine pw_as (by rfl) rfl rfl ?_
   simp only [Act.put, pu]
   refine pw_nil ?_
   go_wp2
   go_roundg (n - (A + 20))
   case measure => omega
   case rel => exact ⟨A + 20, x, Nat.le_refl _, rfl, rfl, hA, HN.out x hP hS, rD, sk⟩
  ·have hin := fun w' (q : Row w' g (isC n v) 3) (hc' : CA w' g n κ gl) => ins_any g n A n gl v κ w' hAn (Nat.le_refl _) (by omega) hvl (HV.out _) q hc'
   have HN : Hid (∀ x, Pm A n v x → Srt κ A n x → Pm 0 n id x ∧ (n ≤ 20 → Ord κ n x) ∧ (20 < n → MP κ 0 20 n x)) := by
    obtain ⟨k, hk, hb⟩ := HK.out
    exact fun x h1 h2 => ⟨blk_pm hb hk hAn h1, fun h => blk_ord hb hk hAn (by omega) h h1 h2, fun h => blk_mp hb hk hAn (by omega) hn h h1 h2⟩
   clear hvl HV HK
   (repeat ((fail_if_success with_reducible refine rg ?_); go_step))
   refine wp_region_pw ?_
   refine pw_mv (by rfl) rfl rfl ?_
   simp only [Act.put, pu]
   refine pw_mv (by rfl) rfl rfl ?_
   simp only [Act.put, pu]
   refine pw_value (by rfl) (.bool false) (exec_leq_i _ _ _ _ rfl ((A + 20 : Nat) : Nat) (n : Nat) rfl rfl false (decide_eq_false (by omega))) ?_
   simp only [Act.put, pu]
   refine pw_nil ?_
   (repeat ((fail_if_success with_reducible refine rg ?_); go_step))
   refine wp_region_pw ?_
   refine pw_mv (by rfl) rfl rfl ?_
   simp only [Act.put, pu]
   refine pw_mv (by rfl) rfl rfl ?_
   simp only [Act.put, pu]
   refine pw_mv (by rfl) rfl rfl ?_
   simp only [Act.put, pu]
   refine pw_mv (by rfl) rfl rfl ?_
   simp only [Act.put, pu]
   refine pw_callE (by rfl) 36 _ _ rfl Try.func36 (by kernel_rfl) #[.slice (some ⟨g, 0, none⟩) n n, .int .i64 (A : Nat), .int .i64 (n : Nat), .func (.func 31) #[] #[.pointer (some ⟨gl, 0, none⟩)]] rfl (hin _ rD (hc.on sk)) ?_
   have crD := rD.lt
   clear rD
   rintro _ z6004 ⟨rfl, x, hP, hS, rD, k⟩
   refine ⟨_, rfl, ?_⟩
   simp only [Act.put, pu]
   clear crD
   replace sk := sk.trans k (by simp <;> omega)
   clear k
   refine pw_nil ?_
   clear hin
   have HX := HN.out x hP hS
   obtain ⟨hPx, hOx, hMx⟩ := HX
   clear HN hP hS
   by_cases h20 : n ≤ 20
   ·have hO := hOx h20
    clear hOx hMx hPx
    go_wp2_with fail
    go_loopg [6, 7, 8, 9] 0 (fun y s6 s7 s8 s9 wr => s6 = .int .i64 20 ∧ Row wr g (isC n x) 3 ∧ Kept [g] w wr)
    case atStart => exact ⟨rfl, rD, sk⟩
    case round =>
     clear rD sk
     obtain ⟨rfl, rD, sk⟩ := hrel
     (repeat ((fail_if_success with_reducible refine rg ?_); go_step))
     refine wp_region_pw ?_
     refine pw_mv (by rfl) rfl rfl ?_
     simp only [Act.put, pu]
     refine pw_mv (by rfl) rfl rfl ?_
     simp only [Act.put, pu]
     refine pw_value (by rfl) (.bool false) (exec_lt_b _ _ _ _ rfl (20) ((n : Nat)) rfl rfl false (decide_eq_false (by omega))) ?_
     simp only [Act.put, pu]
     refine pw_nil ?_
     go_wp2
     go_end0
     exact ⟨rfl, _, hO, rD, sk⟩
   ·have hM := hMx (by omega)
    have hxl := hPx.lt (Nat.le_refl n) (fun i h => h)
    clear hOx hMx
    have HE : Hid (∀ b z, n ≤ b → b ≤ n → Pm 0 b x z → Srt κ 0 b z → Ord κ n z) := fun b z h1 h2 h3 h4 => by
     obtain rfl : b = n := by omega
     exact Ord.of (hPx.tr h3) h4
    have hmg : ∀ b w', n ≤ b → b ≤ n → Row w' g (isC n x) 3 → CA w' g n κ gl → Calls Try.prog 37 #[.slice (some ⟨g, 0, none⟩) n n, .int .i64 0, .int .i64 20, .int .i64 (b : Nat), .func (.func 31) #[] #[.pointer (some ⟨gl, 0, none⟩)]] w' fun e w2 => e = .returned (.tuple #[]) ∧ ∃ z, Ord κ n z ∧ Row w2 g (isC n z) 3 ∧ Kept [g] w' w2 := fun b w' h1 h2 q hc' => by
     obtain rfl : b = n := by omega
     exact (mrg_any b g b 0 20 b gl x κ w' (by omega) (by omega) (by omega) (Nat.le_refl _) (by omega) hxl hM q hc').mono fun e w2 ⟨h1, z, h2, h3, h4, h5⟩ => ⟨h1, z, HE.out b z (Nat.le_refl _) (Nat.le_refl _) h2 h3, h4, h5⟩
    clear hM hxl HE hPx
    go_wp2_with fail
    go_loopg [6, 7, 8, 9] 1 (fun y s6 s7 s8 s9 wr => (0 < y ∧ s6 = .int .i64 20 ∧ Row wr g (isC n x) 3 ∧ Kept [g] w wr) ∨ (s6 = .int .i64 40 ∧ ∃ z, Ord κ n z ∧ Row wr g (isC n z) 3 ∧ Kept [g] w wr))
    case atStart => exact .inl ⟨by omega, rfl, rD, sk⟩
    case round =>
     clear rD sk
     rcases hrel with ⟨hy, rfl, rD, sk⟩ | ⟨rfl, z, hO, rD, sk⟩
     ·by_cases h40 : n < 40
      ·skip
       (repeat ((fail_if_success with_reducible refine rg ?_); go_step))
       refine wp_region_pw ?_
       refine pw_mv (by rfl) rfl rfl ?_
       simp only [Act.put, pu]
       refine pw_mv (by rfl) rfl rfl ?_
       simp only [Act.put, pu]
       refine pw_value (by rfl) (.bool true) (exec_lt_b _ _ _ _ rfl (20) ((n : Nat)) rfl rfl true (decide_eq_true (by omega))) ?_
       simp only [Act.put, pu]
       refine pw_nil ?_
       (repeat ((fail_if_success with_reducible refine rg ?_); go_step))
       refine wp_region_pw ?_
       refine pw_mv (by rfl) rfl rfl ?_
       simp only [Act.put, pu]
       refine pw_value (by rfl) (.int .i64 40) (x_mul _ _ _ _ rfl 2 20 40 rfl rfl (by decide)) ?_
       simp only [Act.put, pu]
       refine pw_value (by rfl) (.int .i64 0) (fun _ => rfl) ?_
       simp only [Act.put, pu]
       refine pw_as (by rfl) rfl rfl ?_
       simp only [Act.put, pu]
       refine pw_nil ?_
       go_wp2_with fail
       go_loopg [7, 8] 0 (fun y s7 s8 wr => s7 = .int .i64 0 ∧ s8 = .int .i64 40 ∧ Row wr g (isC n x) 3 ∧ Kept [g] w wr)
       case atStart => exact ⟨rfl, rfl, rD, sk⟩
       case round =>
        clear rD sk
        obtain ⟨rfl, rfl, rD, sk⟩ := hrel
        (repeat ((fail_if_success with_reducible refine rg ?_); go_step))
        refine wp_region_pw ?_
        refine pw_mv (by rfl) rfl rfl ?_
        simp only [Act.put, pu]
        refine pw_mv (by rfl) rfl rfl ?_
        simp only [Act.put, pu]
        refine pw_value (by rfl) (.bool false) (exec_leq_i _ _ _ _ rfl (40) ((n : Nat)) rfl rfl false (decide_eq_false (by omega))) ?_
        simp only [Act.put, pu]
        refine pw_nil ?_
        (repeat ((fail_if_success with_reducible refine rg ?_); go_step))
        refine wp_region_pw ?_
        refine pw_mv (by rfl) rfl rfl ?_
        simp only [Act.put, pu]
        refine pw_mv (by rfl) rfl rfl ?_
        simp only [Act.put, pu]
        refine pw_value (by rfl) (.int .i64 20) (x_add .i64 _ _ _ _ rfl 0 20 20 rfl rfl (by decide)) ?_
        simp only [Act.put, pu]
        refine pw_as (by rfl) rfl rfl ?_
        simp only [Act.put, pu]
        refine pw_nil ?_
        (repeat ((fail_if_success with_reducible refine rg ?_); go_step))
        refine wp_region_pw ?_
        refine pw_mv (by rfl) rfl rfl ?_
        simp only [Act.put, pu]
        refine pw_mv (by rfl) rfl rfl ?_
        simp only [Act.put, pu]
        refine pw_value (by rfl) (.bool true) (exec_lt_b _ _ _ _ rfl (20) ((n : Nat)) rfl rfl true (decide_eq_true (by omega))) ?_
        simp only [Act.put, pu]
        refine pw_nil ?_
        (repeat ((fail_if_success with_reducible refine rg ?_); go_step))
        refine wp_region_pw ?_
        refine pw_mv (by rfl) rfl rfl ?_
        simp only [Act.put, pu]
        refine pw_mv (by rfl) rfl rfl ?_
        simp only [Act.put, pu]
        refine pw_mv (by rfl) rfl rfl ?_
        simp only [Act.put, pu]
        refine pw_mv (by rfl) rfl rfl ?_
        simp only [Act.put, pu]
        refine pw_mv (by rfl) rfl rfl ?_
        simp only [Act.put, pu]
        refine pw_callE (by rfl) 37 _ _ rfl Try.func37 (by kernel_rfl) #[.slice (some ⟨g, 0, none⟩) n n, .int .i64 0, .int .i64 20, .int .i64 (n : Nat), .func (.func 31) #[] #[.pointer (some ⟨gl, 0, none⟩)]] rfl (hmg n _ (Nat.le_refl _) (Nat.le_refl _) rD (hc.on sk)) ?_
        have crD := rD.lt
        clear rD
        rintro _ z15005 ⟨rfl, z, hO, rD, k⟩
        refine ⟨_, rfl, ?_⟩
        simp only [Act.put, pu]
        clear crD
        replace sk := sk.trans k (by simp <;> omega)
        clear k
        refine pw_nil ?_
        (repeat ((fail_if_success with_reducible refine rg ?_); go_step))
        refine wp_region_pw ?_
        refine pw_mv (by rfl) rfl rfl ?_
        simp only [Act.put, pu]
        refine pw_value (by rfl) (.int .i64 40) (x_mul _ _ _ _ rfl 20 2 40 rfl rfl (by decide)) ?_
        simp only [Act.put, pu]
        refine pw_as (by rfl) rfl rfl ?_
        simp only [Act.put, pu]
        refine pw_nil ?_
        go_wp2
        go_roundg 0
        case measure => omega
        case rel => exact .inr ⟨rfl, z, hO, rD, sk⟩
      ·skip
       (repeat ((fail_if_success with_reducible refine rg ?_); go_step))
       refine wp_region_pw ?_
       refine pw_mv (by rfl) rfl rfl ?_
       simp only [Act.put, pu]
       refine pw_mv (by rfl) rfl rfl ?_
       simp only [Act.put, pu]
       refine pw_value (by rfl) (.bool true) (exec_lt_b _ _ _ _ rfl (20) ((n : Nat)) rfl rfl true (decide_eq_true (by omega))) ?_
       simp only [Act.put, pu]
       refine pw_nil ?_
       (repeat ((fail_if_success with_reducible refine rg ?_); go_step))
       refine wp_region_pw ?_
       refine pw_mv (by rfl) rfl rfl ?_
       simp only [Act.put, pu]
       refine pw_value (by rfl) (.int .i64 40) (x_mul _ _ _ _ rfl 2 20 40 rfl rfl (by decide)) ?_
       simp only [Act.put, pu]
       refine pw_value (by rfl) (.int .i64 0) (fun _ => rfl) ?_
       simp only [Act.put, pu]
       refine pw_as (by rfl) rfl rfl ?_
       simp only [Act.put, pu]
       refine pw_nil ?_
       go_wp2_with fail
       go_loopg [7, 8] 1 (fun y s7 s8 wr => (0 < y ∧ s7 = .int .i64 0 ∧ s8 = .int .i64 40 ∧ Row wr g (isC n x) 3 ∧ Kept [g] w wr) ∨ (s7 = .int .i64 40 ∧ s8 = .int .i64 80 ∧ ∃ z, Ord κ n z ∧ Row wr g (isC n z) 3 ∧ Kept [g] w wr))
       case atStart => exact .inl ⟨by omega, rfl, rfl, rD, sk⟩
       case round =>
        clear rD sk
        rcases hrel with ⟨hy2, rfl, rfl, rD, sk⟩ | ⟨rfl, rfl, z, hO, rD, sk⟩
        ·have hmg2 := hmg 40
         have e40 : (((40 : Nat) : Int)) = 40 := rfl
         rw [e40] at hmg2
         clear e40
         (repeat ((fail_if_success with_reducible refine rg ?_); go_step))
         refine wp_region_pw ?_
         refine pw_mv (by rfl) rfl rfl ?_
         simp only [Act.put, pu]
         refine pw_mv (by rfl) rfl rfl ?_
         simp only [Act.put, pu]
         refine pw_value (by rfl) (.bool true) (exec_leq_i _ _ _ _ rfl (40) ((n : Nat)) rfl rfl true (decide_eq_true (by omega))) ?_
         simp only [Act.put, pu]
         refine pw_nil ?_
         (repeat ((fail_if_success with_reducible refine rg ?_); go_step))
         refine wp_region_pw ?_
         refine pw_mv (by rfl) rfl rfl ?_
         simp only [Act.put, pu]
         refine pw_mv (by rfl) rfl rfl ?_
         simp only [Act.put, pu]
         refine pw_mv (by rfl) rfl rfl ?_
         simp only [Act.put, pu]
         refine pw_mv (by rfl) rfl rfl ?_
         simp only [Act.put, pu]
         refine pw_value (by rfl) (.int .i64 20) (x_add .i64 _ _ _ _ rfl 0 20 20 rfl rfl (by decide)) ?_
         simp only [Act.put, pu]
         refine pw_mv (by rfl) rfl rfl ?_
         simp only [Act.put, pu]
         refine pw_mv (by rfl) rfl rfl ?_
         simp only [Act.put, pu]
         refine pw_callE (by rfl) 37 _ _ rfl Try.func37 (by kernel_rfl) #[.slice (some ⟨g, 0, none⟩) n n, .int .i64 0, .int .i64 20, .int .i64 40, .func (.func 31) #[] #[.pointer (some ⟨gl, 0, none⟩)]] rfl (hmg2 _ (by omega) (by omega) rD (hc.on sk)) ?_
         have crD := rD.lt
         clear rD
         rintro _ z10007 ⟨rfl, z, hO, rD, k⟩
         refine ⟨_, rfl, ?_⟩
         simp only [Act.put, pu]
         clear crD
         replace sk := sk.trans k (by simp <;> omega)
         clear k
         refine pw_nil ?_
         (repeat ((fail_if_success with_reducible refine rg ?_); go_step))
         refine wp_region_pw ?_
         refine pw_mv (by rfl) rfl rfl ?_
         simp only [Act.put, pu]
         refine pw_as (by rfl) rfl rfl ?_
         simp only [Act.put, pu]
         refine pw_nil ?_
         (repeat ((fail_if_success with_reducible refine rg ?_); go_step))
         refine wp_region_pw ?_
         refine pw_mv (by rfl) rfl rfl ?_
         simp only [Act.put, pu]
         refine pw_mv (by rfl) rfl rfl ?_
         simp only [Act.put, pu]
         refine pw_value (by rfl) (.int .i64 40) (x_mul _ _ _ _ rfl 2 20 40 rfl rfl (by decide)) ?_
         simp only [Act.put, pu]
         refine pw_value (by rfl) (.int .i64 80) (x_add .i64 _ _ _ _ rfl 40 40 80 rfl rfl (by decide)) ?_
         simp only [Act.put, pu]
         refine pw_as (by rfl) rfl rfl ?_
         simp only [Act.put, pu]
         refine pw_nil ?_
         go_wp2
         go_roundg 0
         case measure => omega
         case rel => exact .inr ⟨rfl, rfl, z, hO, rD, sk⟩
        ·skip
         (repeat ((fail_if_success with_reducible refine rg ?_); go_step))
         refine wp_region_pw ?_
         refine pw_mv (by rfl) rfl rfl ?_
         simp only [Act.put, pu]
         refine pw_mv (by rfl) rfl rfl ?_
         simp only [Act.put, pu]
         refine pw_value (by rfl) (.bool false) (exec_leq_i _ _ _ _ rfl (80) ((n : Nat)) rfl rfl false (decide_eq_false (by omega))) ?_
         simp only [Act.put, pu]
         refine pw_nil ?_
         (repeat ((fail_if_success with_reducible refine rg ?_); go_step))
         refine wp_region_pw ?_
         refine pw_mv (by rfl) rfl rfl ?_
         simp only [Act.put, pu]
         refine pw_mv (by rfl) rfl rfl ?_
         simp only [Act.put, pu]
         refine pw_value (by rfl) (.int .i64 60) (x_add .i64 _ _ _ _ rfl 40 20 60 rfl rfl (by decide)) ?_
         simp only [Act.put, pu]
         refine pw_as (by rfl) rfl rfl ?_
         simp only [Act.put, pu]
         refine pw_nil ?_
         (repeat ((fail_if_success with_reducible refine rg ?_); go_step))
         refine wp_region_pw ?_
         refine pw_mv (by rfl) rfl rfl ?_
         simp only [Act.put, pu]
         refine pw_mv (by rfl) rfl rfl ?_
         simp only [Act.put, pu]
         refine pw_value (by rfl) (.bool false) (exec_lt_b _ _ _ _ rfl (60) ((n : Nat)) rfl rfl false (decide_eq_false (by omega))) ?_
         simp only [Act.put, pu]
         refine pw_nil ?_
         (repeat ((fail_if_success with_reducible refine rg ?_); go_step))
         refine wp_region_pw ?_
         refine pw_mv (by rfl) rfl rfl ?_
         simp only [Act.put, pu]
         refine pw_value (by rfl) (.int .i64 40) (x_mul _ _ _ _ rfl 20 2 40 rfl rfl (by decide)) ?_
         simp only [Act.put, pu]
         refine pw_as (by rfl) rfl rfl ?_
         simp only [Act.put, pu]
         refine pw_nil ?_
         go_wp2
         go_roundg 0
         case measure => omega
         case rel => exact .inr ⟨rfl, z, hO, rD, sk⟩
     ·skip
      (repeat ((fail_if_success with_reducible refine rg ?_); go_step))
      refine wp_region_pw ?_
      refine pw_mv (by rfl) rfl rfl ?_
      simp only [Act.put, pu]
      refine pw_mv (by rfl) rfl rfl ?_
      simp only [Act.put, pu]
      refine pw_value (by rfl) (.bool false) (exec_lt_b _ _ _ _ rfl (40) ((n : Nat)) rfl rfl false (decide_eq_false (by omega))) ?_
      simp only [Act.put, pu]
      refine pw_nil ?_
      go_wp2
      go_end0
      exact ⟨rfl, _, hO, rD, sk⟩
set_option maxRecDepth 100000 in
set_option maxHeartbeats 2000000 in
theorem ssf_any (g n gl : Nat) (κ : Nat → Int) (w : World) (hn : n ≤ 40) (rD : Row w g (isC n id) 3) (hc : CA w g n κ gl) :
  Calls Try.prog 30 #[.slice (some ⟨g, 0, none⟩) n n, .func (.func 31) #[] #[.pointer (some ⟨gl, 0, none⟩)]] w fun e w' => e = .returned (.tuple #[]) ∧ ∃ v, Ord κ n v ∧ Row w' g (isC n v) 3 ∧ Kept [g] w w' := by
 have hst := fun w' (q : Row w' g (isC n id) 3) (hc' : CA w' g n κ gl) => stb_any g n gl κ w' hn q hc'
 have hlt := rD.lt
 have sk := Kept.refl [g] w
 go_enter Try.func30, Try.ntmps30
 (repeat ((fail_if_success with_reducible refine rg ?_); go_step))
 refine wp_region_pw ?_
 refine pw_mv (by rfl) rfl rfl ?_
 simp only [Act.put, pu]
 refine pw_mv (by rfl) rfl rfl ?_
 simp only [Act.put, pu]
 refine pw_value (by rfl) (.int .i64 (n : Nat)) (exec_len_s 34 _ rfl (some ⟨g, 0, none⟩) (n) (n) rfl sl_intsX) ?_
 simp only [Act.put, pu]
 refine pw_mv (by rfl) rfl rfl ?_
 simp only [Act.put, pu]
 refine pw_callE (by rfl) 35 _ _ rfl Try.func35 (by kernel_rfl) #[.slice (some ⟨g, 0, none⟩) n n, .int .i64 (n : Nat), .func (.func 31) #[] #[.pointer (some ⟨gl, 0, none⟩)]] rfl (hst _ rD (hc.on sk)) ?_
 have crD := rD.lt
 clear rD
 rintro _ z4 ⟨rfl, v, hO, rD, k⟩
 refine ⟨_, rfl, ?_⟩
 simp only [Act.put, pu]
 clear crD
 replace sk := sk.trans k (by simp <;> omega)
 clear k
 refine pw_nil ?_
 go_wp2
 go_end0
 exact ⟨rfl, v, hO, rD, sk⟩
set_option maxRecDepth 100000 in
set_option maxHeartbeats 2000000 in
theorem order_any (ab : Option Addr) (n c : Nat) (B : Nat → Nat) (gb ob : Nat) (bcs : Array Value) (tb : TypeId) (w : World) (hn : n ≤ 40) (hB : ∀ i, i < n → B i < 18446744073709551616) (hf : VsAt w ab n (flv B) gb ob bcs tb) :
  Calls Try.prog 17 #[.slice ab n c] w fun e w' => ∃ g v, e = .returned (.slice (some ⟨g, 0, none⟩) n n) ∧ Ord (fun i => rnk (B i)) n v ∧ Row w' g (isC n v) 3 ∧ Below w.heap.size w w' := by
 obtain ⟨ie, hie, hze, hsz, hby⟩ := info_int'
 have hcl := fun x y gl w' (hx : x < n) (hy : y < n) (hb : Below w.heap.size w w') (rL : RowR w' gl #[.slice ab n c] 30) => ord1_any x y gl ab n c B gb ob bcs tb w' hx hy hB rL (hf.below hb)
 obtain ⟨κ, hκ⟩ : ∃ κ, (fun i => rnk (B i)) = κ := ⟨_, rfl⟩
 have hκ2 : ∀ i, rnk (B i) = κ i := fun i => by rw [← hκ]
 simp only [hκ2] at hcl
 rw [hκ]
 clear hf hB hκ hκ2
 go_enter Try.func17, Try.ntmps17
 have sb := sbmk w
 (repeat ((fail_if_success with_reducible refine rg ?_); go_step))
 refine wp_region_pw ?_
 refine pw_box1 (by rfl) 30 _ rfl (.slice ab n c) rfl rfl ?_
 intro g1 z0 n0 r1 k
 simp only [Act.put, pu]
 have b1 := Nat.le_trans sb.size n0
 clear n0
 replace sb := sb.trans (k.below w.heap.size sb.size (by simp <;> omega))
 clear k
 refine pw_value (by rfl) (.slice none 0 0) ((fun _ => rfl)) ?_
 simp only [Act.put, pu]
 refine pw_nil ?_
 (repeat ((fail_if_success with_reducible refine rg ?_); go_step))
 refine wp_region_pw ?_
 refine pw_loadk (by rfl) 30 _ rfl _ (0) rfl r1.r (.slice ab n c) rfl Try.isAgg30 ?_
 simp only [Act.put, pu]
 refine pw_value (by rfl) (.int .i64 (n : Nat)) (exec_len_s 30 _ rfl (ab) (n) (c) rfl sl_fl) ?_
 simp only [Act.put, pu]
 refine pw_make (by rfl) 34 3 _ _ rfl ie _ Try.underlying34 hie hze n rfl rfl (by rw [hsz]; omega) (by rw [hby]; omega) (by omega) ?_
 intro gD z1002 n0 rD k
 simp only [Act.put, pu]
 have d1xD := Nat.lt_of_lt_of_le r1.lt n0
 have bD := Nat.le_trans sb.size n0
 clear n0
 replace r1 := k.row r1 (by simp <;> omega)
 replace sb := sb.trans (k.below w.heap.size sb.size (by simp <;> omega))
 clear k
 refine pw_as (by rfl) rfl rfl ?_
 simp only [Act.put, pu]
 refine pw_nil ?_
 rw [hsz, made_ints] at rD
 (repeat ((fail_if_success with_reducible refine rg ?_); go_step))
 refine wp_region_pw ?_
 refine pw_loadk (by rfl) 30 _ rfl _ (0) rfl r1.r (.slice ab n c) rfl Try.isAgg30 ?_
 simp only [Act.put, pu]
 refine pw_value (by rfl) (.int .i64 (n : Nat)) (exec_len_s 30 _ rfl (ab) (n) (c) rfl sl_fl) ?_
 simp only [Act.put, pu]
 refine pw_value (by rfl) (.int .i64 0) (fun _ => rfl) ?_
 simp only [Act.put, pu]
 refine pw_nil ?_
 go_wp2_with fail
 go_loopg [4, 10] n (fun y s4 s10 wr => ∃ k : Nat, k + y = n ∧ s10 = .int .i64 k ∧ Row wr g1 #[.slice ab n c] 30 ∧ Row wr gD (isC n (fun j => if j < k then j else 0)) 3 ∧ Below w.heap.size w wr)
 case atStart => exact ⟨0, by omega, rfl, r1, by rw [isC_congr n (u := (fun j => if j < 0 then j else 0)) (u2 := fun _ => 0) (fun i _ => if_neg (by omega))]; exact rD, sb⟩
 case round =>
  clear sb r1 rD
  obtain ⟨k, hk, rfl, r1, rD, sb⟩ := hrel
  cases gk with
  | zero =>
   obtain rfl : k = n := by omega
   rw [isC_congr k (u := (fun j => if j < k then j else 0)) (u2 := id) (fun i hi => if_pos hi)] at rD
   have hst := fun w' (hb : Below w.heap.size w w') (q1 : Row w' g1 #[.slice ab k c] 30) (q : Row w' gD (isC k id) 3) => ssf_any gD k g1 κ w' hn q (fun w2 x y hk hx hy => hcl x y g1 w2 hx hy (hb.trans (hk.below w.heap.size hb.size (by simp <;> omega))) (hk.rowR q1.r (by simp <;> omega)))
   clear hcl
   (repeat ((fail_if_success with_reducible refine rg ?_); go_step))
   refine wp_region_pw ?_
   refine pw_value (by rfl) (.bool false) (exec_lt_b _ _ _ _ rfl (k : Nat) (k : Nat) rfl rfl false (decide_eq_false (by omega))) ?_
   simp only [Act.put, pu]
   refine pw_nil ?_
   (repeat ((fail_if_success with_reducible refine rg ?_); go_step))
   refine wp_region_pw ?_
   refine pw_mv (by rfl) rfl rfl ?_
   simp only [Act.put, pu]
   refine pw_value (by rfl) (.func (.func 31) #[] #[.pointer (some ⟨g1, 0, none⟩)]) (exec_func _ _ rfl _ rfl) ?_
   simp only [Act.put, pu]
   refine pw_callE (by rfl) 30 _ _ rfl Try.func30 (by kernel_rfl) #[.slice (some ⟨gD, 0, none⟩) k k, .func (.func 31) #[] #[.pointer (some ⟨g1, 0, none⟩)]] rfl (hst _ sb r1 rD) ?_
   have crD := rD.lt
   clear rD
   rintro _ z7002 ⟨rfl, v, hO, rD, k⟩
   refine ⟨_, rfl, ?_⟩
   simp only [Act.put, pu]
   clear crD
   replace r1 := k.row r1 (by simp <;> omega)
   replace sb := sb.trans (k.below w.heap.size sb.size (by simp <;> omega))
   clear k
   refine pw_nil ?_
   (repeat ((fail_if_success with_reducible refine rg ?_); go_step))
   refine wp_region_pw ?_
   refine pw_mv (by rfl) rfl rfl ?_
   simp only [Act.put, pu]
   refine pw_as (by rfl) rfl rfl ?_
   simp only [Act.put, pu]
   refine pw_nil ?_
   go_wp2
   go_ret
   exact ⟨gD, v, rfl, hO, rD, sb⟩
  | succ y =>
   have hkn : k < n := by omega
   have hput := isC_put n (fun j => if j < k then j else 0) (fun j => if j < k + 1 then j else 0) k k (fun j hj => by
    by_cases e : j = k
    ·rw [if_pos e, if_pos (by omega), e]
    ·rw [if_neg e]
     by_cases h2 : j < k
     ·rw [if_pos h2, if_pos (by omega)]
     ·rw [if_neg h2, if_neg (by omega)])
   have hput2 : (isC n (fun j => if j < k then j else 0)).setIfInBounds (0 + k * 1) (.int .i64 (k : Nat)) = isC n (fun j => if j < k + 1 then j else 0) := by rw [Nat.zero_add, Nat.mul_one]; exact hput
   clear hput
   (repeat ((fail_if_success with_reducible refine rg ?_); go_step))
   refine wp_region_pw ?_
   refine pw_value (by rfl) (.bool true) (exec_lt_b _ _ _ _ rfl (k : Nat) (n : Nat) rfl rfl true (decide_eq_true (by omega))) ?_
   simp only [Act.put, pu]
   refine pw_nil ?_
   (repeat ((fail_if_success with_reducible refine rg ?_); go_step))
   refine wp_region_pw ?_
   refine pw_mv (by rfl) rfl rfl ?_
   simp only [Act.put, pu]
   refine pw_as (by rfl) rfl rfl ?_
   simp only [Act.put, pu]
   refine pw_nil ?_
   (repeat ((fail_if_success with_reducible refine rg ?_); go_step))
   refine wp_region_pw ?_
   refine pw_mv (by rfl) rfl rfl ?_
   simp only [Act.put, pu]
   refine pw_mv (by rfl) rfl rfl ?_
   simp only [Act.put, pu]
   refine pw_mv (by rfl) rfl rfl ?_
   simp only [Act.put, pu]
   refine pw_value (by rfl) (.pointer (some ⟨gD, 0 + k * 1, none⟩)) ((exec_index_s 34 _ _ rfl (gD) (0) (n) (n) rfl (k) rfl (hkn) _ Try.underlying34 1 Try.sizeOf3)) ?_
   simp only [Act.put, pu]
   refine pw_putv (by rfl) 3 _ _ rfl _ (0 + k * 1) rfl rD (.int .i64 (k : Nat)) rfl rfl rfl size1tint (by rw [isC_size]; omega) (isC n (fun j => if j < k + 1 then j else 0)) hput2 ?_
   clear rD
   intro z5004 rD k
   simp only [Act.put]
   replace r1 := k.row r1 (by simp <;> omega)
   replace sb := sb.trans (k.below w.heap.size sb.size (by simp <;> omega))
   clear k
   refine pw_nil ?_
   (repeat ((fail_if_success with_reducible refine rg ?_); go_step))
   refine wp_region_pw ?_
   refine pw_value (by rfl) (.int .i64 ((k + 1 : Nat) : Int)) (exec_add_in _ _ _ _ rfl (k) (1) rfl rfl (by omega)) ?_
   simp only [Act.put, pu]
   refine pw_mv (by rfl) rfl rfl ?_
   simp only [Act.put, pu]
   refine pw_nil ?_
   go_wp2
   go_roundg y
   case measure => omega
   case rel => exact ⟨k + 1, by omega, rfl, r1, rD, sb⟩
end Go.Proofs.Ytonppckllfamiaa
