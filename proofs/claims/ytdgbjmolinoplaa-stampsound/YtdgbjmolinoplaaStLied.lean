/- StampSound's lied. -/
import Derived.Test.YtdgbjmolinoplaaStSnd
namespace Go.Proofs.Ytdgbjmolinoplaa
open Go.RowKit
set_option linter.unusedVariables false
set_option linter.unusedSectionVars false
set_option linter.unusedSimpArgs false
set_option maxRecDepth 100000 in
set_option maxHeartbeats 2000000 in
theorem lied_any (L : Nat → Int) (k f : Nat) (w : World) (hk : k < 7) :
  Calls Try.prog 16 #[.agg (zC 7 L), .int .i64 (k : Nat), .int .i64 (f : Nat)] w fun e w' => e = .returned (.bool (lie L f k)) ∧ Below w.heap.size w w' := by
 obtain ⟨lb, hlb⟩ : ∃ b, lie L f k = b := ⟨_, rfl⟩
 have HL : Hid ((lqb L k && decide (cb (lqb L) k < f)) = lb) := hlb
 rw [hlb]
 clear hlb
 go_enter Try.func16, Try.ntmps16
 have sb := sbmk w
 (repeat ((fail_if_success with_reducible refine rg ?_); go_step))
 refine wp_region_pw ?_
 refine pw_boxr (by rfl) 35 _ rfl (zC 7 L) rfl ?_
 intro g3 z0 n0 r3 k
 simp only [Act.put, pu]
 have b3 := Nat.le_trans sb.size n0
 clear n0
 replace sb := sb.trans (k.below w.heap.size sb.size (by simp <;> omega))
 clear k
 refine pw_value (by rfl) (.bool false) (fun _ => rfl) ?_
 simp only [Act.put, pu]
 refine pw_nil ?_
 (repeat ((fail_if_success with_reducible refine rg ?_); go_step))
 refine wp_region_pw ?_
 refine pw_value (by rfl) (.int .i64 0) (fun _ => rfl) ?_
 simp only [Act.put, pu]
 refine pw_nil ?_
 (repeat ((fail_if_success with_reducible refine rg ?_); go_step))
 refine wp_region_pw ?_
 refine pw_value (by rfl) (.int .i64 0) (fun _ => rfl) ?_
 simp only [Act.put, pu]
 refine pw_nil ?_
 go_wp2_with fail
 go_loopg [7, 8] k (fun x s7 s8 wr => ∃ i : Nat, i + x = k ∧ s7 = .int .i64 (cb (lqb L) i : Nat) ∧ s8 = .int .i64 i ∧ Row wr g3 (zC 7 L) 35 ∧ Below w.heap.size w wr)
 case atStart => exact ⟨0, by omega, rfl, rfl, r3, sb⟩
 case round =>
  clear r3 sb
  obtain ⟨i, hi, rfl, rfl, r3, sb⟩ := hrel
  cases gk with
  | zero =>
   obtain rfl : i = k := by omega
   have h := HL.out
   clear hi HL
   (repeat ((fail_if_success with_reducible refine rg ?_); go_step))
   refine wp_region_pw ?_
   refine pw_mv (by rfl) rfl rfl ?_
   simp only [Act.put, pu]
   refine pw_mv (by rfl) rfl rfl ?_
   simp only [Act.put, pu]
   refine pw_value (by rfl) (.bool false) (exec_lt_b _ _ _ _ rfl (i) (i) rfl rfl false (decide_eq_false (Int.lt_irrefl _))) ?_
   simp only [Act.put, pu]
   refine pw_nil ?_
   obtain ⟨x, hx⟩ : ∃ x, an (L i) 7 = x := ⟨_, rfl⟩
   have hxb : lqb L i = decide (x = 0) := by rw [← hx]; rfl
   rw [hxb] at h
   clear hxb
   generalize cb (lqb L) i = m at *
   cases hb : decide (x = 0) with
   | true =>
    rw [hb, Bool.true_and] at h
    obtain ⟨d, hd⟩ : ∃ d, decide ((m : Int) < (f : Int)) = d := ⟨_, rfl⟩
    obtain rfl : d = lb := by rw [← hd, ← h]; exact decide_eq_decide.2 (by omega)
    clear h
    (repeat ((fail_if_success with_reducible refine rg ?_); go_step))
    refine wp_region_pw ?_
    refine pw_mv (by rfl) rfl rfl ?_
    simp only [Act.put, pu]
    refine pw_value (by rfl) (.pointer (some ⟨g3, i, none⟩)) ((exec_index 35 _ _ rfl g3 rfl i 7 rfl (hk) _ Try.underlying35 Try.sizeOf3)) ?_
    simp only [Act.put, pu]
    refine pw_loadk (by rfl) 3 _ rfl _ (i) rfl r3.r (.int .i64 (L i)) (zC_get L (hk)) Try.isAgg3 ?_
    simp only [Act.put, pu]
    refine pw_value (by rfl) (.int .i64 x) (x_an _ _ _ _ rfl (L i) 7 x rfl rfl hx) ?_
    simp only [Act.put, pu]
    refine pw_value (by rfl) (.bool true) (exec_eql_k .i64 _ _ _ _ rfl (x) (0) rfl rfl true (hb)) ?_
    simp only [Act.put, pu]
    refine pw_mv (by rfl) rfl rfl ?_
    simp only [Act.put, pu]
    refine pw_mv (by rfl) rfl rfl ?_
    simp only [Act.put, pu]
    refine pw_mv (by rfl) rfl rfl ?_
    simp only [Act.put, pu]
    refine pw_value (by rfl) (.bool d) (exec_lt_b _ _ _ _ rfl ((m : Nat)) ((f : Nat)) rfl rfl d (hd)) ?_
    simp only [Act.put, pu]
    refine pw_pick (by rfl) true (v := .bool d) rfl rfl rfl ?_
    simp only [Act.put, pu]
    refine pw_as (by rfl) rfl rfl ?_
    simp only [Act.put, pu]
    refine pw_nil ?_
    go_wp2
    go_ret
    exact ⟨rfl, sb⟩
   | false =>
    rw [hb] at h
    obtain rfl : false = lb := h
    (repeat ((fail_if_success with_reducible refine rg ?_); go_step))
    refine wp_region_pw ?_
    refine pw_mv (by rfl) rfl rfl ?_
    simp only [Act.put, pu]
    refine pw_value (by rfl) (.pointer (some ⟨g3, i, none⟩)) ((exec_index 35 _ _ rfl g3 rfl i 7 rfl (hk) _ Try.underlying35 Try.sizeOf3)) ?_
    simp only [Act.put, pu]
    refine pw_loadk (by rfl) 3 _ rfl _ (i) rfl r3.r (.int .i64 (L i)) (zC_get L (hk)) Try.isAgg3 ?_
    simp only [Act.put, pu]
    refine pw_value (by rfl) (.int .i64 x) (x_an _ _ _ _ rfl (L i) 7 x rfl rfl hx) ?_
    simp only [Act.put, pu]
    refine pw_value (by rfl) (.bool false) (exec_eql_k .i64 _ _ _ _ rfl (x) (0) rfl rfl false (hb)) ?_
    simp only [Act.put, pu]
    refine pw_mv (by rfl) rfl rfl ?_
    simp only [Act.put, pu]
    refine pw_skip (by rfl) ?_
    simp only [Act.put, pu]
    refine pw_skip (by rfl) ?_
    simp only [Act.put, pu]
    refine pw_skip (by rfl) ?_
    simp only [Act.put, pu]
    refine pw_pick (by rfl) false (v := .bool false) rfl rfl rfl ?_
    simp only [Act.put, pu]
    refine pw_as (by rfl) rfl rfl ?_
    simp only [Act.put, pu]
    refine pw_nil ?_
    go_wp2
    go_ret
    exact ⟨rfl, sb⟩
  | succ y =>
   have hlt : i < k := by omega
   obtain ⟨x, hx⟩ : ∃ x, an (L i) 7 = x := ⟨_, rfl⟩
   have hxb : lqb L i = decide (x = 0) := by rw [← hx]; rfl
   have hcl := cb_le (lqb L) i
   cases hb : decide (x = 0) with
   | true =>
    have hq := cb_yes (hxb.trans hb)
    clear hxb HL
    generalize cb (lqb L) i = m at *
    (repeat ((fail_if_success with_reducible refine rg ?_); go_step))
    refine wp_region_pw ?_
    refine pw_mv (by rfl) rfl rfl ?_
    simp only [Act.put, pu]
    refine pw_mv (by rfl) rfl rfl ?_
    simp only [Act.put, pu]
    refine pw_value (by rfl) (.bool true) (exec_lt_b _ _ _ _ rfl (i) (k) rfl rfl true (decide_eq_true (by omega))) ?_
    simp only [Act.put, pu]
    refine pw_nil ?_
    (repeat ((fail_if_success with_reducible refine rg ?_); go_step))
    refine wp_region_pw ?_
    refine pw_mv (by rfl) rfl rfl ?_
    simp only [Act.put, pu]
    refine pw_value (by rfl) (.pointer (some ⟨g3, i, none⟩)) ((exec_index 35 _ _ rfl g3 rfl i 7 rfl (by omega) _ Try.underlying35 Try.sizeOf3)) ?_
    simp only [Act.put, pu]
    refine pw_loadk (by rfl) 3 _ rfl _ (i) rfl r3.r (.int .i64 (L i)) (zC_get L (by omega)) Try.isAgg3 ?_
    simp only [Act.put, pu]
    refine pw_value (by rfl) (.int .i64 x) (x_an _ _ _ _ rfl (L i) 7 x rfl rfl hx) ?_
    simp only [Act.put, pu]
    refine pw_value (by rfl) (.bool true) (exec_eql_k .i64 _ _ _ _ rfl (x) (0) rfl rfl true (hb)) ?_
    simp only [Act.put, pu]
    refine pw_nil ?_
    (repeat ((fail_if_success with_reducible refine rg ?_); go_step))
    refine wp_region_pw ?_
    refine pw_mv (by rfl) rfl rfl ?_
    simp only [Act.put, pu]
    refine pw_value (by rfl) (.int .i64 ((m + 1 : Nat))) (x_addz _ _ _ _ rfl (m) (1) ((m + 1 : Nat)) rfl rfl (by omega) (by omega) (by omega)) ?_
    simp only [Act.put, pu]
    refine pw_as (by rfl) rfl rfl ?_
    simp only [Act.put, pu]
    refine pw_nil ?_
    (repeat ((fail_if_success with_reducible refine rg ?_); go_step))
    refine wp_region_pw ?_
    refine pw_mv (by rfl) rfl rfl ?_
    simp only [Act.put, pu]
    refine pw_value (by rfl) (.int .i64 ((i + 1 : Nat))) (x_addz _ _ _ _ rfl (i) (1) ((i + 1 : Nat)) rfl rfl (by omega) (by omega) (by omega)) ?_
    simp only [Act.put, pu]
    refine pw_as (by rfl) rfl rfl ?_
    simp only [Act.put, pu]
    refine pw_nil ?_
    go_wp2
    go_roundg y
    case measure => omega
    case rel => exact ⟨i + 1, by omega, by exact congrArg (fun x : Nat => Value.int .i64 (x : Int)) hq.symm, rfl, r3, sb⟩
   | false =>
    have hq := cb_no (hxb.trans hb)
    clear hxb HL
    generalize cb (lqb L) i = m at *
    (repeat ((fail_if_success with_reducible refine rg ?_); go_step))
    refine wp_region_pw ?_
    refine pw_mv (by rfl) rfl rfl ?_
    simp only [Act.put, pu]
    refine pw_mv (by rfl) rfl rfl ?_
    simp only [Act.put, pu]
    refine pw_value (by rfl) (.bool true) (exec_lt_b _ _ _ _ rfl (i) (k) rfl rfl true (decide_eq_true (by omega))) ?_
    simp only [Act.put, pu]
    refine pw_nil ?_
    (repeat ((fail_if_success with_reducible refine rg ?_); go_step))
    refine wp_region_pw ?_
    refine pw_mv (by rfl) rfl rfl ?_
    simp only [Act.put, pu]
    refine pw_value (by rfl) (.pointer (some ⟨g3, i, none⟩)) ((exec_index 35 _ _ rfl g3 rfl i 7 rfl (by omega) _ Try.underlying35 Try.sizeOf3)) ?_
    simp only [Act.put, pu]
    refine pw_loadk (by rfl) 3 _ rfl _ (i) rfl r3.r (.int .i64 (L i)) (zC_get L (by omega)) Try.isAgg3 ?_
    simp only [Act.put, pu]
    refine pw_value (by rfl) (.int .i64 x) (x_an _ _ _ _ rfl (L i) 7 x rfl rfl hx) ?_
    simp only [Act.put, pu]
    refine pw_value (by rfl) (.bool false) (exec_eql_k .i64 _ _ _ _ rfl (x) (0) rfl rfl false (hb)) ?_
    simp only [Act.put, pu]
    refine pw_nil ?_
    (repeat ((fail_if_success with_reducible refine rg ?_); go_step))
    refine wp_region_pw ?_
    refine pw_mv (by rfl) rfl rfl ?_
    simp only [Act.put, pu]
    refine pw_value (by rfl) (.int .i64 ((i + 1 : Nat))) (x_addz _ _ _ _ rfl (i) (1) ((i + 1 : Nat)) rfl rfl (by omega) (by omega) (by omega)) ?_
    simp only [Act.put, pu]
    refine pw_as (by rfl) rfl rfl ?_
    simp only [Act.put, pu]
    refine pw_nil ?_
    go_wp2
    go_roundg y
    case measure => omega
    case rel => exact ⟨i + 1, by omega, by exact congrArg (fun x : Nat => Value.int .i64 (x : Int)) hq.symm, rfl, r3, sb⟩
end Go.Proofs.Ytdgbjmolinoplaa
