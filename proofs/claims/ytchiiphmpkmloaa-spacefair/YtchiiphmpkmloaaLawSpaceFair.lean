/- SpaceFair: with 4 servers and 3 clients, and up to 60 keys of few bytes that any ends name: an end that names no more keys than its quota is never refused; no condition. -/
import Derived.Test.YtchiiphmpkmloaaSpBits
namespace Go.Proofs.Ytchiiphmpkmloaa
open Go.ChangeShapes Go.WideShapes Go.ChangeAt Go.RowKit
set_option linter.unusedVariables false
set_option linter.unusedSectionVars false
set_option linter.unusedSimpArgs false
namespace spaceFairP
/-- Which own keys were named ahead of the k-th of round i. -/
def bt (ok : Nat → Bool) (W : Nat → Nat) (i k t : Nat) : Nat := if ok t = true ∧ (W t < i ∨ (W t = i ∧ t < k)) then 1 else 0
def cs (ok : Nat → Bool) (W : Nat → Nat) (i k : Nat) : Nat := bt ok W i k 0 + bt ok W i k 1 + bt ok W i k 2 + bt ok W i k 3
theorem bt_le (ok : Nat → Bool) (W : Nat → Nat) (i k t : Nat) : bt ok W i k t ≤ 1 := by
 unfold bt
 split <;> omega
theorem cs_le (ok : Nat → Bool) (W : Nat → Nat) (i k : Nat) : cs ok W i k ≤ 4 := by
 have h0 := bt_le ok W i k 0
 have h1 := bt_le ok W i k 1
 have h2 := bt_le ok W i k 2
 have h3 := bt_le ok W i k 3
 unfold cs
 omega
theorem bt_other (ok : Nat → Bool) (W : Nat → Nat) (i k t : Nat) (h : ¬ (t = k ∧ ok k = true ∧ W k = i)) : bt ok W i (k + 1) t = bt ok W i k t := by
 unfold bt
 have : (ok t = true ∧ (W t < i ∨ (W t = i ∧ t < k + 1))) ↔ (ok t = true ∧ (W t < i ∨ (W t = i ∧ t < k))) := by
  constructor
  ·rintro ⟨h1, h2 | ⟨h2, h3⟩⟩
   ·exact ⟨h1, .inl h2⟩
   ·by_cases e : t = k
    ·subst e
     exact absurd ⟨rfl, h1, h2⟩ h
    ·exact ⟨h1, .inr ⟨h2, by omega⟩⟩
  ·rintro ⟨h1, h2 | ⟨h2, h3⟩⟩
   ·exact ⟨h1, .inl h2⟩
   ·exact ⟨h1, .inr ⟨h2, by omega⟩⟩
 simp only [this]
theorem bt_this (ok : Nat → Bool) (W : Nat → Nat) (i k : Nat) (h1 : ok k = true) (h2 : W k = i) : bt ok W i (k + 1) k = bt ok W i k k + 1 := by
 unfold bt
 rw [if_pos ⟨h1, .inr ⟨h2, by omega⟩⟩, if_neg (by rintro ⟨_, h3 | ⟨_, h3⟩⟩ <;> omega)]
theorem cs_other (ok : Nat → Bool) (W : Nat → Nat) (i k : Nat) (h : ¬ (ok k = true ∧ W k = i)) : cs ok W i (k + 1) = cs ok W i k := by
 unfold cs
 have h' : ∀ t, ¬ (t = k ∧ ok k = true ∧ W k = i) := fun t h9 => h h9.2
 rw [bt_other _ _ _ _ _ (h' 0), bt_other _ _ _ _ _ (h' 1), bt_other _ _ _ _ _ (h' 2), bt_other _ _ _ _ _ (h' 3)]
theorem cs_this (ok : Nat → Bool) (W : Nat → Nat) (i k : Nat) (hk : k < 4) (h1 : ok k = true) (h2 : W k = i) : cs ok W i (k + 1) = cs ok W i k + 1 := by
 unfold cs
 have ht := bt_this ok W i k h1 h2
 have h' : ∀ t, t ≠ k → bt ok W i (k + 1) t = bt ok W i k t := fun t h9 => bt_other _ _ _ _ _ fun h8 => h9 h8.1
 match k, hk with
 | 0, _ => rw [h' 1 (by decide), h' 2 (by decide), h' 3 (by decide), ht]; omega
 | 1, _ => rw [h' 0 (by decide), h' 2 (by decide), h' 3 (by decide), ht]; omega
 | 2, _ => rw [h' 0 (by decide), h' 1 (by decide), h' 3 (by decide), ht]; omega
 | 3, _ => rw [h' 0 (by decide), h' 1 (by decide), h' 2 (by decide), ht]; omega
theorem bt_next (ok : Nat → Bool) (W : Nat → Nat) (i t : Nat) (ht : t < 4) : bt ok W i 4 t = bt ok W (i + 1) 0 t := by
 unfold bt
 have : (ok t = true ∧ (W t < i ∨ (W t = i ∧ t < 4))) ↔ (ok t = true ∧ (W t < i + 1 ∨ (W t = i + 1 ∧ t < 0))) := by
  constructor
  ·rintro ⟨h1, h2⟩
   exact ⟨h1, .inl (by omega)⟩
  ·rintro ⟨h1, h2⟩
   exact ⟨h1, by omega⟩
 simp only [this]
theorem cs_next (ok : Nat → Bool) (W : Nat → Nat) (i : Nat) : cs ok W i 4 = cs ok W (i + 1) 0 := by
 unfold cs
 rw [bt_next _ _ _ _ (by decide), bt_next _ _ _ _ (by decide), bt_next _ _ _ _ (by decide), bt_next _ _ _ _ (by decide)]
theorem cell_s4 (ka kb kc kd : Ky) (k : Nat) (h : k < 4) : (#[.string ⟨ka.toArray⟩, .string ⟨kb.toArray⟩, .string ⟨kc.toArray⟩, .string ⟨kd.toArray⟩] : Array Value)[k]? = some (.string ⟨([ka, kb, kc, kd].getD k []).toArray⟩) := by
 match k, h with
 | 0, _ => rfl
 | 1, _ => rfl
 | 2, _ => rfl
 | 3, _ => rfl
theorem cell_i4 (ta tb9 tc td : Int) (k : Nat) (h : k < 4) : (#[.int .i64 ta, .int .i64 tb9, .int .i64 tc, .int .i64 td] : Array Value)[k]? = some (.int .i64 ([ta, tb9, tc, td].getD k 0)) := by
 match k, h with
 | 0, _ => rfl
 | 1, _ => rfl
 | 2, _ => rfl
 | 3, _ => rfl
set_option maxRecDepth 100000 in
set_option maxHeartbeats 2000000 in
theorem walk (ab : Option Addr) (c : Nat) (L : List Ac) (gb ob : Nat) (bcs : Array Value) (tb : TypeId) (ka kb kc kd : Ky) (ta tb9 tc td : Int) (w : World) (hm : L.length ≤ maxLen) (hz : ElsAt 2 w ab L.length (acC L) gb ob bcs tb) :
  Calls Try.prog 4 #[.slice ab L.length c, .agg #[.string ⟨ka.toArray⟩, .string ⟨kb.toArray⟩, .string ⟨kc.toArray⟩, .string ⟨kd.toArray⟩], .agg #[.int .i64 ta, .int .i64 tb9, .int .i64 tc, .int .i64 td]] w fun e w' => e = .returned (.bool true) ∧ Below w.heap.size w w' := by
 have HZ0 : Hid (ElsAt 2 w ab L.length (acC L) gb ob bcs tb) := hz
 clear hz hm
 go_enter Try.func4, Try.ntmps4
 have sb := sbmk w
 (repeat ((fail_if_success with_reducible refine rg ?_); go_step))
 refine wp_region_pw ?_
 refine pw_boxr (by rfl) 49 _ rfl (#[.string ⟨ka.toArray⟩, .string ⟨kb.toArray⟩, .string ⟨kc.toArray⟩, .string ⟨kd.toArray⟩]) rfl ?_
 intro g4 z0 n0 r4 k
 simp only [Act.put, pu]
 have b4 := Nat.le_trans sb.size n0
 clear n0
 replace sb := sb.trans (k.below w.heap.size sb.size (by simp <;> omega))
 clear k
 refine pw_boxr (by rfl) 50 _ rfl (#[.int .i64 ta, .int .i64 tb9, .int .i64 tc, .int .i64 td]) rfl ?_
 intro g5 z1 n0 r5 k
 simp only [Act.put, pu]
 have d4x5 := Nat.lt_of_lt_of_le r4.lt n0
 have b5 := Nat.le_trans sb.size n0
 clear n0
 replace r4 := k.row r4 (by simp <;> omega)
 replace sb := sb.trans (k.below w.heap.size sb.size (by simp <;> omega))
 clear k
 refine pw_value (by rfl) (.bool false) (fun _ => rfl) ?_
 simp only [Act.put, pu]
 refine pw_nil ?_
 have sd := sbmk z1
 have HB : Hid (ElsAt 2 z1 ab L.length (acC L) gb ob bcs tb) := HZ0.out.below sb
 have hS := fun w' (hb : Below z1.heap.size z1 w') => short_any ab c L gb ob bcs tb w' (HB.out.below hb)
 have HR4 : Hid (Row z1 g4 #[.string ⟨ka.toArray⟩, .string ⟨kb.toArray⟩, .string ⟨kc.toArray⟩, .string ⟨kd.toArray⟩] 49) := r4
 have HR5 : Hid (Row z1 g5 #[.int .i64 ta, .int .i64 tb9, .int .i64 tc, .int .i64 td] 50) := r5
 clear r4 r5 HZ0
 cases hsh : shB L with
 | false =>
  rw [hsh] at hS
  clear hsh HB
  (repeat ((fail_if_success with_reducible refine rg ?_); go_step))
  refine wp_region_pw ?_
  refine pw_mv (by rfl) rfl rfl ?_
  simp only [Act.put, pu]
  refine pw_callB (by rfl) 7 _ _ rfl Try.func7 (by kernel_rfl) #[.slice ab L.length c] rfl _ (hS _ sd) ?_
  intro z1001 k
  simp only [Act.put, pu]
  replace sd := sd.trans (k.below z1.heap.size sd.size (by simp <;> omega))
  clear k
  refine pw_value (by rfl) (.bool true) (exec_not _ _ rfl false rfl) ?_
  simp only [Act.put, pu]
  refine pw_nil ?_
  (repeat ((fail_if_success with_reducible refine rg ?_); go_step))
  refine wp_region_pw ?_
  refine pw_callB (by rfl) 8 _ _ rfl Try.func8 (by kernel_rfl) #[] rfl _ (awake_any _) ?_
  intro z2000 k
  simp only [Act.put, pu]
  replace sd := sd.trans (k.below z1.heap.size sd.size (by simp <;> omega))
  clear k
  refine pw_as (by rfl) rfl rfl ?_
  simp only [Act.put, pu]
  refine pw_nil ?_
  go_wp2
  go_ret
  exact ⟨rfl, below_on sb (Nat.le_refl _) sd⟩
 | true =>
  rw [hsh] at hS
  have hLn := (shB_yes hsh).1
  have HD40 : Hid (∀ j, j < L.length → (L.getD j ac0).1.length ≤ 40) := (shB_yes hsh).2
  clear hsh
  obtain ⟨kf, hkf⟩ : ∃ kf : Nat → Ky, kf = fun k => [ka, kb, kc, kd].getD k [] := ⟨_, rfl⟩
  obtain ⟨tf, htf⟩ : ∃ tf : Nat → Int, tf = fun k => [ta, tb9, tc, td].getD k 0 := ⟨_, rfl⟩
  have HK4 : Hid (∀ k, k < 4 → (#[.string ⟨ka.toArray⟩, .string ⟨kb.toArray⟩, .string ⟨kc.toArray⟩, .string ⟨kd.toArray⟩] : Array Value)[k]? = some (.string ⟨(kf k).toArray⟩)) := fun k hk => by rw [hkf]; exact cell_s4 ka kb kc kd k hk
  have HT4 : Hid (∀ k, k < 4 → (#[.int .i64 ta, .int .i64 tb9, .int .i64 tc, .int .i64 td] : Array Value)[k]? = some (.int .i64 (tf k))) := fun k hk => by rw [htf]; exact cell_i4 ta tb9 tc td k hk
  obtain ⟨Wf, hWf⟩ : ∃ Wf : Nat → Nat, ∀ k, an (tf k) 63 = Wf k := ⟨fun k => (an63 (tf k)).choose, fun k => (an63 (tf k)).choose_spec.2⟩
  have HW : Hid (∀ k, an (tf k) 63 = Wf k) := hWf
  obtain ⟨ok, hok⟩ : ∃ ok : Nat → Bool, ok = fun k => kyB (kf k) := ⟨_, rfl⟩
  have HOK : Hid (∀ k, ok k = kyB (kf k)) := fun k => by rw [hok]
  clear hkf htf hWf hok
  (repeat ((fail_if_success with_reducible refine rg ?_); go_step))
  refine wp_region_pw ?_
  refine pw_mv (by rfl) rfl rfl ?_
  simp only [Act.put, pu]
  refine pw_callB (by rfl) 7 _ _ rfl Try.func7 (by kernel_rfl) #[.slice ab L.length c] rfl _ (hS _ sd) ?_
  intro z1001 k
  simp only [Act.put, pu]
  replace sd := sd.trans (k.below z1.heap.size sd.size (by simp <;> omega))
  clear k
  refine pw_value (by rfl) (.bool false) (exec_not _ _ rfl true rfl) ?_
  simp only [Act.put, pu]
  refine pw_nil ?_
  clear hS
  (repeat ((fail_if_success with_reducible refine rg ?_); go_step))
  refine wp_region_pw ?_
  refine pw_callE (by rfl) 9 _ _ rfl Try.func9 (by kernel_rfl) #[.int .i64 4, .int .i64 3] rfl (new_at (base := z1.heap.size) sd.size (by decide) (by decide) (by decide) (by decide)) ?_
  rintro _ z3000 ⟨g7, B, rfl, hA, _, hb⟩
  refine ⟨_, rfl, ?_⟩
  simp only [Act.put, pu]
  have k := Kept.ofBelow hb
  clear hb
  replace sd := sd.trans (k.below z1.heap.size sd.size (by simp <;> omega))
  clear k
  refine pw_mv (by rfl) rfl rfl ?_
  simp only [Act.put, pu]
  refine pw_ext (by rfl) rfl rfl rfl ?_
  simp only [Act.put, pu]
  refine pw_ext (by rfl) rfl rfl rfl ?_
  simp only [Act.put, pu]
  refine pw_as (by rfl) rfl rfl ?_
  simp only [Act.put, pu]
  refine pw_as (by rfl) rfl rfl ?_
  simp only [Act.put, pu]
  refine pw_nil ?_
  (repeat ((fail_if_success with_reducible refine rg ?_); go_step))
  refine wp_region_pw ?_
  refine pw_mv (by rfl) rfl rfl ?_
  simp only [Act.put, pu]
  refine pw_value (by rfl) (.bool false) (exec_neq_k .i64 _ _ _ _ rfl (0) (0) rfl rfl false (by rw [decide_eq_true (by omega)]; rfl)) ?_
  simp only [Act.put, pu]
  refine pw_mv (by rfl) rfl rfl ?_
  simp only [Act.put, pu]
  refine pw_mv (by rfl) rfl rfl ?_
  simp only [Act.put, pu]
  refine pw_value (by rfl) (.bool false) (exec_eql_nilp _ _ _ _ rfl (some ⟨g7, 0, none⟩) rfl rfl ptr_sp) ?_
  simp only [Act.put, pu]
  refine pw_pick (by rfl) false (v := .bool false) rfl rfl rfl ?_
  simp only [Act.put, pu]
  refine pw_nil ?_
  (repeat ((fail_if_success with_reducible refine rg ?_); go_step))
  refine wp_region_pw ?_
  refine pw_value (by rfl) (.int .i64 0) (fun _ => rfl) ?_
  simp only [Act.put, pu]
  refine pw_nil ?_
  go_wp2_with fail
  go_loopg [6, 9, 10, 11, 12, 13] (L.length + 1) (fun x s6 s9 s10 s11 s12 s13 wr => ∃ (i : Nat) (l : List Ky) (U : Int → Int) (B : List Nat), i + x = L.length + 1 ∧ s9 = .int .i64 i ∧ SpAt wr z1.heap.size g7 4 3 l U B ∧ l.length ≤ 5 * i ∧ U 7 ≤ cs ok Wf i 0 ∧ Below z1.heap.size z1 wr)
  case atStart => exact ⟨0, [], _, B, by omega, rfl, hA, Nat.zero_le _, Int.natCast_nonneg _, sd⟩
  case round =>
   clear sd hA
   obtain ⟨i, l, U, B, hi, rfl, hA, hl, hU, sd⟩ := hrel
   have HU : Hid (U 7 ≤ cs ok Wf i 0) := hU
   clear hU
   cases gk with
   | zero =>
    obtain rfl : i = L.length + 1 := by omega
    have h1 : ¬ ((L.length + 1 : Nat) : Int) ≤ (L.length : Int) := by omega
    have HU4 : Hid (U 7 ≤ 4) := Int.le_trans HU.out (by have := cs_le ok Wf (L.length + 1) 0; omega)
    have hl4 : l.length ≤ 400 := by omega
    have HS : Hid (Srt l) := hA.srt
    clear hi HU hl
    (repeat ((fail_if_success with_reducible refine rg ?_); go_step))
    refine wp_region_pw ?_
    refine pw_mv (by rfl) rfl rfl ?_
    simp only [Act.put, pu]
    refine pw_mv (by rfl) rfl rfl ?_
    simp only [Act.put, pu]
    refine pw_value (by rfl) (.int .i64 (L.length : Nat)) (exec_len_s 23 _ rfl (ab) (L.length) (c) rfl sl_acs) ?_
    simp only [Act.put, pu]
    refine pw_value (by rfl) (.bool false) (exec_leq_i _ _ _ _ rfl (((L.length + 1 : Nat) : Int)) ((L.length : Nat)) rfl rfl false (decide_eq_false h1)) ?_
    simp only [Act.put, pu]
    refine pw_nil ?_
    (repeat ((fail_if_success with_reducible refine rg ?_); go_step))
    refine wp_region_pw ?_
    refine pw_mv (by rfl) rfl rfl ?_
    simp only [Act.put, pu]
    refine pw_callE (by rfl) 19 _ _ rfl Try.func19 (by kernel_rfl) #[.pointer (some ⟨g7, 0, none⟩)] rfl (keys_at hA (by omega)) ?_
    rintro _ z18001 ⟨aK, cK, gK, csK, rfl, hE, hb⟩
    refine ⟨_, rfl, ?_⟩
    simp only [Act.put, pu]
    have k := Kept.ofBelow hb
    clear hb
    replace hA := hA.below k.nil
    replace sd := sd.trans (k.below z1.heap.size sd.size (by simp <;> omega))
    clear k
    refine pw_as (by rfl) rfl rfl ?_
    simp only [Act.put, pu]
    refine pw_nil ?_
    (repeat ((fail_if_success with_reducible refine rg ?_); go_step))
    refine wp_region_pw ?_
    refine pw_value (by rfl) (.int .i64 0) (fun _ => rfl) ?_
    simp only [Act.put, pu]
    refine pw_nil ?_
    go_wp2_with fail
    go_loopg [6, 15] (l.length - 1) (fun x s6 s15 wr => ∃ j : Nat, j + x = l.length - 1 ∧ s15 = .int .i64 j ∧ SpAt wr z1.heap.size g7 4 3 l U B ∧ ElsAt 1 wr aK l.length (stC l) gK 0 csK 9 ∧ Below z1.heap.size z1 wr)
    case atStart => exact ⟨0, by omega, rfl, hA, hE, sd⟩
    case round =>
     clear sd hA hE
     obtain ⟨j, hj, rfl, hA, hE, sd⟩ := hrel
     cases gk with
     | zero =>
      have h2 : ¬ ((j + 1 : Nat) : Int) < (l.length : Int) := by omega
      have hus := usd_at hA 7
      have h4 := HU4.out
      have hj4 : j ≤ 400 := by omega
      clear hj
      (repeat ((fail_if_success with_reducible refine rg ?_); go_step))
      refine wp_region_pw ?_
      refine pw_mv (by rfl) rfl rfl ?_
      simp only [Act.put, pu]
      refine pw_value (by rfl) (.int .i64 (((j + 1 : Nat) : Int))) (x_addz _ _ _ _ rfl ((j : Nat)) (1) (((j + 1 : Nat) : Int)) rfl rfl (by omega) (by omega) (by omega)) ?_
      simp only [Act.put, pu]
      refine pw_mv (by rfl) rfl rfl ?_
      simp only [Act.put, pu]
      refine pw_value (by rfl) (.int .i64 (l.length : Nat)) (exec_len_s 30 _ rfl (aK) (l.length) (cK) rfl sl_strs) ?_
      simp only [Act.put, pu]
      refine pw_value (by rfl) (.bool false) (exec_lt_b _ _ _ _ rfl (((j + 1 : Nat) : Int)) ((l.length : Nat)) rfl rfl false (decide_eq_false h2)) ?_
      simp only [Act.put, pu]
      refine pw_nil ?_
      (repeat ((fail_if_success with_reducible refine rg ?_); go_step))
      refine wp_region_pw ?_
      refine pw_mv (by rfl) rfl rfl ?_
      simp only [Act.put, pu]
      refine pw_callB (by rfl) 14 _ _ rfl Try.func14 (by kernel_rfl) #[.pointer (some ⟨g7, 0, none⟩), .int .i64 7] rfl _ (hus) ?_
      intro z24001 k
      simp only [Act.put, pu]
      replace sd := sd.trans (k.below z1.heap.size sd.size (by simp <;> omega))
      clear k
      refine pw_value (by rfl) (.bool true) (exec_leq_i _ _ _ _ rfl (U 7) (4) rfl rfl true (decide_eq_true h4)) ?_
      simp only [Act.put, pu]
      refine pw_mv (by rfl) rfl rfl ?_
      simp only [Act.put, pu]
      refine pw_callB (by rfl) 8 _ _ rfl Try.func8 (by kernel_rfl) #[] rfl _ (awake_any _) ?_
      intro z24004 k
      simp only [Act.put, pu]
      replace sd := sd.trans (k.below z1.heap.size sd.size (by simp <;> omega))
      clear k
      refine pw_pick (by rfl) true (v := .bool true) rfl rfl rfl ?_
      simp only [Act.put, pu]
      refine pw_as (by rfl) rfl rfl ?_
      simp only [Act.put, pu]
      refine pw_nil ?_
      go_wp2
      go_ret
      exact ⟨rfl, below_on sb (Nat.le_refl _) sd⟩
     | succ y =>
      have h2 : ((j + 1 : Nat) : Int) < (l.length : Int) := by omega
      have hj1 : j < l.length := by omega
      have hj2 : j + 1 < l.length := by omega
      have hlt := srt_lt HS.out (i := j) (j := j + 1) (by omega) hj2
      obtain ⟨p1, hp1⟩ : ∃ x, l.getD j [] = x := ⟨_, rfl⟩
      obtain ⟨p2, hp2⟩ : ∃ x, l.getD (j + 1) [] = x := ⟨_, rfl⟩
      rw [hp1, hp2] at hlt
      have hgeq : (!lb p1 p2) = false := by rw [hlt]; rfl
      obtain h0 | ⟨rfl, rK, hbt⟩ := hE.at'
      ·exact absurd h0 (by omega)
      have hb1 : csK[0 + j * 1]? = some (.string ⟨p1.toArray⟩) := by rw [← hp1]; exact hbt j hj1 0 _ rfl
      have hb2 : csK[0 + (j + 1) * 1]? = some (.string ⟨p2.toArray⟩) := by rw [← hp2]; exact hbt (j + 1) hj2 0 _ rfl
      clear hbt hp1 hp2 hlt
      (repeat ((fail_if_success with_reducible refine rg ?_); go_step))
      refine wp_region_pw ?_
      refine pw_mv (by rfl) rfl rfl ?_
      simp only [Act.put, pu]
      refine pw_value (by rfl) (.int .i64 (((j + 1 : Nat) : Int))) (x_addz _ _ _ _ rfl ((j : Nat)) (1) (((j + 1 : Nat) : Int)) rfl rfl (by omega) (by omega) (by omega)) ?_
      simp only [Act.put, pu]
      refine pw_mv (by rfl) rfl rfl ?_
      simp only [Act.put, pu]
      refine pw_value (by rfl) (.int .i64 (l.length : Nat)) (exec_len_s 30 _ rfl (some ⟨gK, 0, none⟩) (l.length) (cK) rfl sl_strs) ?_
      simp only [Act.put, pu]
      refine pw_value (by rfl) (.bool true) (exec_lt_b _ _ _ _ rfl (((j + 1 : Nat) : Int)) ((l.length : Nat)) rfl rfl true (decide_eq_true h2)) ?_
      simp only [Act.put, pu]
      refine pw_nil ?_
      (repeat ((fail_if_success with_reducible refine rg ?_); go_step))
      refine wp_region_qw (by kernel_rfl) (by kernel_rfl) ?_
      refine qw_move (by rfl) rfl rfl ?_
      simp only [Act.put, pu]
      refine qw_move (by rfl) rfl rfl ?_
      simp only [Act.put, pu]
      refine qw_value (by rfl) (.pointer (some ⟨gK, 0 + j * 1, none⟩)) ((exec_index_s 30 _ _ rfl (gK) (0) (l.length) (cK) rfl (j) rfl (hj1) _ Try.underlying30 1 Try.sizeOf9)) ?_
      simp only [Act.put, pu]
      refine qw_loadcR (by rfl) 9 _ rfl _ (0 + j * 1) rfl rK (.string ⟨p1.toArray⟩) hb1 Try.isAgg9 ?_
      simp only [Act.put, pu]
      refine qw_move (by rfl) rfl rfl ?_
      simp only [Act.put, pu]
      refine qw_move (by rfl) rfl rfl ?_
      simp only [Act.put, pu]
      refine qw_value (by rfl) (.int .i64 (((j + 1 : Nat) : Int))) (x_addz _ _ _ _ rfl ((j : Nat)) (1) (((j + 1 : Nat) : Int)) rfl rfl (by omega) (by omega) (by omega)) ?_
      simp only [Act.put, pu]
      refine qw_value (by rfl) (.pointer (some ⟨gK, 0 + (j + 1) * 1, none⟩)) ((exec_index_s 30 _ _ rfl (gK) (0) (l.length) (cK) rfl ((j + 1)) rfl (hj2) _ Try.underlying30 1 Try.sizeOf9)) ?_
      simp only [Act.put, pu]
      refine qw_loadcR (by rfl) 9 _ rfl _ (0 + (j + 1) * 1) rfl rK (.string ⟨p2.toArray⟩) hb2 Try.isAgg9 ?_
      simp only [Act.put, pu]
      refine qw_value (by rfl) (.bool false) (y_geqS _ _ _ _ rfl p1 p2 rfl rfl false hgeq) ?_
      simp only [Act.put, pu]
      refine qw_nil ?_
      intro w9 hqb
      replace hA := hA.belowAll hqb
      replace hE := hE.belowAll hqb
      replace sd := below_on sd (Nat.le_refl _) hqb
      clear hqb
      clear rK
      (repeat ((fail_if_success with_reducible refine rg ?_); go_step))
      refine wp_region_pw ?_
      refine pw_mv (by rfl) rfl rfl ?_
      simp only [Act.put, pu]
      refine pw_value (by rfl) (.int .i64 (((j + 1 : Nat) : Int))) (x_addz _ _ _ _ rfl ((j : Nat)) (1) (((j + 1 : Nat) : Int)) rfl rfl (by omega) (by omega) (by omega)) ?_
      simp only [Act.put, pu]
      refine pw_as (by rfl) rfl rfl ?_
      simp only [Act.put, pu]
      refine pw_nil ?_
      go_wp2
      go_roundg y
      case measure => omega
      case rel => exact ⟨j + 1, by omega, rfl, hA, hE, sd⟩
   | succ y =>
    have hiL : i ≤ L.length := by omega
    have h1 : (i : Int) ≤ (L.length : Int) := by omega
    (repeat ((fail_if_success with_reducible refine rg ?_); go_step))
    refine wp_region_pw ?_
    refine pw_mv (by rfl) rfl rfl ?_
    simp only [Act.put, pu]
    refine pw_mv (by rfl) rfl rfl ?_
    simp only [Act.put, pu]
    refine pw_value (by rfl) (.int .i64 (L.length : Nat)) (exec_len_s 23 _ rfl (ab) (L.length) (c) rfl sl_acs) ?_
    simp only [Act.put, pu]
    refine pw_value (by rfl) (.bool true) (exec_leq_i _ _ _ _ rfl ((i : Nat)) ((L.length : Nat)) rfl rfl true (decide_eq_true h1)) ?_
    simp only [Act.put, pu]
    refine pw_nil ?_
    (repeat ((fail_if_success with_reducible refine rg ?_); go_step))
    refine wp_region_pw ?_
    refine pw_value (by rfl) (.int .i64 0) (fun _ => rfl) ?_
    simp only [Act.put, pu]
    refine pw_nil ?_
    go_wp2_with fail
    go_loopg [6, 10, 11, 12, 13] 4 (fun x s6 s10 s11 s12 s13 wr => ∃ (k : Nat) (l : List Ky) (U : Int → Int) (B : List Nat), k + x = 4 ∧ s10 = .int .i64 k ∧ SpAt wr z1.heap.size g7 4 3 l U B ∧ l.length ≤ 5 * i + k ∧ U 7 ≤ cs ok Wf i k ∧ Below z1.heap.size z1 wr)
    case atStart => exact ⟨0, l, U, B, by omega, rfl, hA, hl, HU.out, sd⟩
    case round =>
     clear sd hA hl HU B U l
     obtain ⟨k, l, U, B, hk, rfl, hA, hl, hU, sd⟩ := hrel
     have HU : Hid (U 7 ≤ cs ok Wf i k) := hU
     clear hU
     cases gk with
     | zero =>
      obtain rfl : k = 4 := by omega
      clear hk
      (repeat ((fail_if_success with_reducible refine rg ?_); go_step))
      refine wp_region_pw ?_
      refine pw_mv (by rfl) rfl rfl ?_
      simp only [Act.put, pu]
      refine pw_value (by rfl) (.bool false) (exec_lt_b _ _ _ _ rfl ((4 : Nat)) (4) rfl rfl false (decide_eq_false (by omega))) ?_
      simp only [Act.put, pu]
      refine pw_nil ?_
      by_cases hlt : i < L.length
      ·have h3 : (i : Int) < (L.length : Int) := by omega
       obtain ⟨x, hxg, hx⟩ := ac_at hlt
       have hx40 := HD40.out i hlt
       rw [hxg] at hx40
       obtain h0 | ⟨rfl, rW, hbw⟩ := HB.out.at'
       ·exact absurd h0 (by omega)
       obtain ⟨hbk, hbe⟩ := ac_part hx (hbw i hlt)
       have rB := rW.belowAll sd
       clear hbw hx hxg
       by_cases hne : x.2 = 7
       ·have hne9 : (!decide (x.2 = 7)) = false := by rw [decide_eq_true hne]; rfl
        replace hne := hne9
        clear hne9
        (repeat ((fail_if_success with_reducible refine rg ?_); go_step))
        refine wp_region_pw ?_
        refine pw_mv (by rfl) rfl rfl ?_
        simp only [Act.put, pu]
        refine pw_mv (by rfl) rfl rfl ?_
        simp only [Act.put, pu]
        refine pw_value (by rfl) (.int .i64 (L.length : Nat)) (exec_len_s 23 _ rfl (some ⟨gb, ob, none⟩) (L.length) (c) rfl sl_acs) ?_
        simp only [Act.put, pu]
        refine pw_value (by rfl) (.bool true) (exec_lt_b _ _ _ _ rfl ((i : Nat)) ((L.length : Nat)) rfl rfl true (decide_eq_true h3)) ?_
        simp only [Act.put, pu]
        refine pw_mv (by rfl) rfl rfl ?_
        simp only [Act.put, pu]
        refine pw_mv (by rfl) rfl rfl ?_
        simp only [Act.put, pu]
        refine pw_mv (by rfl) rfl rfl ?_
        simp only [Act.put, pu]
        refine pw_value (by rfl) (.pointer (some ⟨gb, ob + i * 2, none⟩)) ((exec_index_s 23 _ _ rfl (gb) (ob) (L.length) (c) rfl (i) rfl (hlt) _ Try.underlying23 2 Try.sizeOf37)) ?_
        simp only [Act.put, pu]
        refine pw_value (by rfl) (.pointer (some ⟨gb, ob + i * 2 + 1, none⟩)) (exec_field 37 _ 1 rfl gb (ob + i * 2) rfl _ Try.underlying37 _ rfl 0 Try.sizeOf3) ?_
        simp only [Act.put, pu]
        refine pw_loadk (by rfl) 3 _ rfl _ (ob + i * 2 + 1) rfl rB (.int .i64 x.2) hbe Try.isAgg3 ?_
        simp only [Act.put, pu]
        refine pw_value (by rfl) (.bool false) (exec_neq_k .i64 _ _ _ _ rfl (x.2) (7) rfl rfl false (hne)) ?_
        simp only [Act.put, pu]
        refine pw_pick (by rfl) true (v := .bool false) rfl rfl rfl ?_
        simp only [Act.put, pu]
        refine pw_nil ?_
        clear rB rW
        (repeat ((fail_if_success with_reducible refine rg ?_); go_step))
        refine wp_region_pw ?_
        refine pw_mv (by rfl) rfl rfl ?_
        simp only [Act.put, pu]
        refine pw_value (by rfl) (.int .i64 (((i + 1 : Nat) : Int))) (x_addz _ _ _ _ rfl ((i : Nat)) (1) (((i + 1 : Nat) : Int)) rfl rfl (by omega) (by omega) (by omega)) ?_
        simp only [Act.put, pu]
        refine pw_as (by rfl) rfl rfl ?_
        simp only [Act.put, pu]
        refine pw_nil ?_
        go_wp2
        go_roundg y
        case measure => omega
        case rel => exact ⟨i + 1, l, U, B, by omega, rfl, hA, by omega, by rw [← cs_next]; exact HU.out, sd⟩
       ·have hne7 : x.2 ≠ 7 := hne
        have hne9 : (!decide (x.2 = 7)) = true := by rw [decide_eq_false hne]; rfl
        have HU7 : Hid (opU 4 3 l U x.1 x.2 7 = U 7) := by
         unfold opU
         split
         ·exact if_neg (fun e => hne7 e.symm)
         ·rfl
        have hlk := opK_len (n := 4) (m := 3) (l := l) (u := U x.2) (x := x.1) (e := x.2)
        replace hne := hne9
        clear hne9
        (repeat ((fail_if_success with_reducible refine rg ?_); go_step))
        refine wp_region_pw ?_
        refine pw_mv (by rfl) rfl rfl ?_
        simp only [Act.put, pu]
        refine pw_mv (by rfl) rfl rfl ?_
        simp only [Act.put, pu]
        refine pw_value (by rfl) (.int .i64 (L.length : Nat)) (exec_len_s 23 _ rfl (some ⟨gb, ob, none⟩) (L.length) (c) rfl sl_acs) ?_
        simp only [Act.put, pu]
        refine pw_value (by rfl) (.bool true) (exec_lt_b _ _ _ _ rfl ((i : Nat)) ((L.length : Nat)) rfl rfl true (decide_eq_true h3)) ?_
        simp only [Act.put, pu]
        refine pw_mv (by rfl) rfl rfl ?_
        simp only [Act.put, pu]
        refine pw_mv (by rfl) rfl rfl ?_
        simp only [Act.put, pu]
        refine pw_mv (by rfl) rfl rfl ?_
        simp only [Act.put, pu]
        refine pw_value (by rfl) (.pointer (some ⟨gb, ob + i * 2, none⟩)) ((exec_index_s 23 _ _ rfl (gb) (ob) (L.length) (c) rfl (i) rfl (hlt) _ Try.underlying23 2 Try.sizeOf37)) ?_
        simp only [Act.put, pu]
        refine pw_value (by rfl) (.pointer (some ⟨gb, ob + i * 2 + 1, none⟩)) (exec_field 37 _ 1 rfl gb (ob + i * 2) rfl _ Try.underlying37 _ rfl 0 Try.sizeOf3) ?_
        simp only [Act.put, pu]
        refine pw_loadk (by rfl) 3 _ rfl _ (ob + i * 2 + 1) rfl rB (.int .i64 x.2) hbe Try.isAgg3 ?_
        simp only [Act.put, pu]
        refine pw_value (by rfl) (.bool true) (exec_neq_k .i64 _ _ _ _ rfl (x.2) (7) rfl rfl true (hne)) ?_
        simp only [Act.put, pu]
        refine pw_pick (by rfl) true (v := .bool true) rfl rfl rfl ?_
        simp only [Act.put, pu]
        refine pw_nil ?_
        clear rB
        (repeat ((fail_if_success with_reducible refine rg ?_); go_step))
        refine wp_region_ew (by kernel_rfl) (fun z => Below z1.heap.size z1 z) (fun _ _ u1 u2 => below_on u1 (Nat.le_refl _) u2) sd [] [(0, false), (1, false), (2, false), (3, false), (4, false), (5, false), (6, false), (7, false), (8, false), (9, false), (10, false), (11, true)] ?_ (by kernel_rfl)
        refine ew_mv (by rfl) rfl rfl ?_
        simp only [Act.put, pu]
        refine ew_mv (by rfl) rfl rfl ?_
        simp only [Act.put, pu]
        refine ew_mv (by rfl) rfl rfl ?_
        simp only [Act.put, pu]
        refine ew_value (by rfl) (.pointer (some ⟨gb, ob + i * 2, none⟩)) ((exec_index_s 23 _ _ rfl (gb) (ob) (L.length) (c) rfl (i) rfl (hlt) _ Try.underlying23 2 Try.sizeOf37)) ?_
        simp only [Act.put, pu]
        refine ew_value (by rfl) (.pointer (some ⟨gb, ob + i * 2, none⟩)) (exec_field 37 _ 0 rfl gb (ob + i * 2) rfl _ Try.underlying37 _ rfl 0 Try.sizeOf9) ?_
        simp only [Act.put, pu]
        refine ew_loadk (by rfl) 9 _ rfl _ (ob + i * 2) rfl (fun _ hb => rW.belowAll hb) (.string ⟨x.1.toArray⟩) hbk Try.isAgg9 ?_
        simp only [Act.put, pu]
        refine ew_mv (by rfl) rfl rfl ?_
        simp only [Act.put, pu]
        refine ew_mv (by rfl) rfl rfl ?_
        simp only [Act.put, pu]
        refine ew_value (by rfl) (.pointer (some ⟨gb, ob + i * 2, none⟩)) ((exec_index_s 23 _ _ rfl (gb) (ob) (L.length) (c) rfl (i) rfl (hlt) _ Try.underlying23 2 Try.sizeOf37)) ?_
        simp only [Act.put, pu]
        refine ew_value (by rfl) (.pointer (some ⟨gb, ob + i * 2 + 1, none⟩)) (exec_field 37 _ 1 rfl gb (ob + i * 2) rfl _ Try.underlying37 _ rfl 0 Try.sizeOf3) ?_
        simp only [Act.put, pu]
        refine ew_loadk (by rfl) 3 _ rfl _ (ob + i * 2 + 1) rfl (fun _ hb => rW.belowAll hb) (.int .i64 x.2) hbe Try.isAgg3 ?_
        simp only [Act.put, pu]
        refine ew_callE (by rfl) 11 _ _ rfl Try.func11 (by kernel_rfl) #[.pointer (some ⟨g7, 0, none⟩), .string ⟨x.1.toArray⟩, .int .i64 x.2] rfl ?_
        intro wu hqu
        refine (opn_b (w0 := z1) (hA.belowAll hqu) (below_on sd (Nat.le_refl _) hqu) x.1 x.2 (by omega) (by omega)).mono ?_
        rintro _ wv ⟨B2, rfl, hA2, hb⟩
        replace sd := (below_on sd (Nat.le_refl _) hqu).trans hb
        refine ⟨_, rfl, fun _ => sd, ?_⟩
        simp only [Act.put, pu]
        refine ew_nil ?_
        intro wz hq5
        replace hA2 := hA2.belowAll hq5
        replace sd := below_on sd (Nat.le_refl _) hq5
        clear hq5 hb hqu hA
        (repeat ((fail_if_success with_reducible refine rg ?_); go_step))
        refine wp_region_pw ?_
        refine pw_mv (by rfl) rfl rfl ?_
        simp only [Act.put, pu]
        refine pw_value (by rfl) (.int .i64 (((i + 1 : Nat) : Int))) (x_addz _ _ _ _ rfl ((i : Nat)) (1) (((i + 1 : Nat) : Int)) rfl rfl (by omega) (by omega) (by omega)) ?_
        simp only [Act.put, pu]
        refine pw_as (by rfl) rfl rfl ?_
        simp only [Act.put, pu]
        refine pw_nil ?_
        go_wp2
        go_roundg y
        case measure => omega
        case rel => exact ⟨i + 1, _, _, B2, by omega, rfl, hA2, by omega, by rw [HU7.out, ← cs_next]; exact HU.out, sd⟩
      ·have h3 : ¬ (i : Int) < (L.length : Int) := by omega
       (repeat ((fail_if_success with_reducible refine rg ?_); go_step))
       refine wp_region_pw ?_
       refine pw_mv (by rfl) rfl rfl ?_
       simp only [Act.put, pu]
       refine pw_mv (by rfl) rfl rfl ?_
       simp only [Act.put, pu]
       refine pw_value (by rfl) (.int .i64 (L.length : Nat)) (exec_len_s 23 _ rfl (ab) (L.length) (c) rfl sl_acs) ?_
       simp only [Act.put, pu]
       refine pw_value (by rfl) (.bool false) (exec_lt_b _ _ _ _ rfl ((i : Nat)) ((L.length : Nat)) rfl rfl false (decide_eq_false h3)) ?_
       simp only [Act.put, pu]
       refine pw_mv (by rfl) rfl rfl ?_
       simp only [Act.put, pu]
       refine pw_skip (by rfl) ?_
       simp only [Act.put, pu]
       refine pw_skip (by rfl) ?_
       simp only [Act.put, pu]
       refine pw_skip (by rfl) ?_
       simp only [Act.put, pu]
       refine pw_skip (by rfl) ?_
       simp only [Act.put, pu]
       refine pw_skip (by rfl) ?_
       simp only [Act.put, pu]
       refine pw_skip (by rfl) ?_
       simp only [Act.put, pu]
       refine pw_pick (by rfl) false (v := .bool false) rfl rfl rfl ?_
       simp only [Act.put, pu]
       refine pw_nil ?_
       (repeat ((fail_if_success with_reducible refine rg ?_); go_step))
       refine wp_region_pw ?_
       refine pw_mv (by rfl) rfl rfl ?_
       simp only [Act.put, pu]
       refine pw_value (by rfl) (.int .i64 (((i + 1 : Nat) : Int))) (x_addz _ _ _ _ rfl ((i : Nat)) (1) (((i + 1 : Nat) : Int)) rfl rfl (by omega) (by omega) (by omega)) ?_
       simp only [Act.put, pu]
       refine pw_as (by rfl) rfl rfl ?_
       simp only [Act.put, pu]
       refine pw_nil ?_
       go_wp2
       go_roundg y
       case measure => omega
       case rel => exact ⟨i + 1, l, U, B, by omega, rfl, hA, by omega, by rw [← cs_next]; exact HU.out, sd⟩
     | succ y2 =>
      have hk4 : k < 4 := by omega
      by_cases h2 : (Wf k : Int) = (i : Int)
      ·by_cases h3 : ((kf k).length : Int) ≥ 1
       ·by_cases h4 : ((kf k).length : Int) ≤ 8
        ·have hkey : kyB (kf k) = true := decide_eq_true (by omega)
         have hokk : ok k = true := (HOK.out k).trans hkey
         have hwk : Wf k = i := by omega
         have hcs := cs_this ok Wf i k hk4 hokk hwk
         have hcl := cs_le ok Wf i (k + 1)
         have hu7 : U 7 < quo 4 3 7 := by
          have h9 : quo 4 3 7 = 4 := by decide
          have := HU.out
          omega
         have hE0 : opE 4 3 l (U 7) (kf k) 7 = 0 := by
          by_cases h9 : kf k ∈ l
          ·exact (op_known (n := 4) (m := 3) (u := U 7) (e := 7) (by decide) hkey h9).1
          ·exact (op_new (n := 4) (m := 3) (e := 7) (by decide) hkey h9 hu7).1
         have HU2 : Hid (opU 4 3 l U (kf k) 7 7 ≤ (cs ok Wf i (k + 1) : Nat)) := by
          have h9 : U 7 ≤ (cs ok Wf i k : Nat) := HU.out
          have h8 : opU 4 3 l U (kf k) 7 7 ≤ U 7 + 1 := by
           unfold opU
           split
           ·show (if (7 : Int) = 7 then U 7 + 1 else U 7) ≤ _
            rw [if_pos rfl]
            exact Int.le_refl _
           ·show U 7 ≤ U 7 + 1
            omega
          show opU 4 3 l U (kf k) 7 7 ≤ ((cs ok Wf i (k + 1) : Nat) : Int)
          omega
         have hlk := opK_len (n := 4) (m := 3) (l := l) (u := U 7) (x := kf k) (e := 7)
         have hcon := fun w' (h : SpAt w' z1.heap.size g7 4 3 l U B) (hb : Below z1.heap.size z1 w') => opn_is h hb (kf k) 7 (by omega) (by omega) rfl rfl hE0 rfl rfl
         clear hkey hokk hwk hcs hcl hu7 hE0
         (repeat ((fail_if_success with_reducible refine rg ?_); go_step))
         refine wp_region_pw ?_
         refine pw_mv (by rfl) rfl rfl ?_
         simp only [Act.put, pu]
         refine pw_value (by rfl) (.bool true) (exec_lt_b _ _ _ _ rfl ((k : Nat)) (4) rfl rfl true (decide_eq_true (by omega))) ?_
         simp only [Act.put, pu]
         refine pw_nil ?_
         have r4 := HR4.out.belowAll sd
         have r5 := HR5.out.belowAll sd
         (repeat ((fail_if_success with_reducible refine rg ?_); go_step))
         refine wp_region_pw ?_
         refine pw_mv (by rfl) rfl rfl ?_
         simp only [Act.put, pu]
         refine pw_value (by rfl) (.pointer (some ⟨g5, k, none⟩)) (exec_index 50 _ _ rfl g5 rfl (k) 4 rfl (hk4) _ Try.underlying50 Try.sizeOf3) ?_
         simp only [Act.put, pu]
         refine pw_loadk (by rfl) 3 _ rfl _ (k) rfl r5.r (.int .i64 (tf k)) (HT4.out k hk4) Try.isAgg3 ?_
         simp only [Act.put, pu]
         refine pw_value (by rfl) (.int .i64 (Wf k : Nat)) (x_an _ _ _ _ rfl (tf k) 63 (Wf k : Nat) rfl rfl (HW.out k)) ?_
         simp only [Act.put, pu]
         refine pw_mv (by rfl) rfl rfl ?_
         simp only [Act.put, pu]
         refine pw_value (by rfl) (.bool true) (exec_eql_k .i64 _ _ _ _ rfl ((Wf k : Nat)) ((i : Nat)) rfl rfl true (decide_eq_true h2)) ?_
         simp only [Act.put, pu]
         refine pw_mv (by rfl) rfl rfl ?_
         simp only [Act.put, pu]
         refine pw_mv (by rfl) rfl rfl ?_
         simp only [Act.put, pu]
         refine pw_value (by rfl) (.pointer (some ⟨g4, k, none⟩)) (exec_index 49 _ _ rfl g4 rfl (k) 4 rfl (hk4) _ Try.underlying49 Try.sizeOf9) ?_
         simp only [Act.put, pu]
         refine pw_loadk (by rfl) 9 _ rfl _ (k) rfl r4.r (.string ⟨(kf k).toArray⟩) (HK4.out k hk4) Try.isAgg9 ?_
         simp only [Act.put, pu]
         refine pw_value (by rfl) (.int .i64 ((kf k).length : Nat)) (y_lenS _ _ rfl (kf k) rfl Try.underlying9) ?_
         simp only [Act.put, pu]
         refine pw_value (by rfl) (.bool true) (exec_geq_i _ _ _ _ rfl (((kf k).length : Nat)) (1) rfl rfl true (decide_eq_true h3)) ?_
         simp only [Act.put, pu]
         refine pw_pick (by rfl) true (v := .bool true) rfl rfl rfl ?_
         simp only [Act.put, pu]
         refine pw_mv (by rfl) rfl rfl ?_
         simp only [Act.put, pu]
         refine pw_mv (by rfl) rfl rfl ?_
         simp only [Act.put, pu]
         refine pw_value (by rfl) (.pointer (some ⟨g4, k, none⟩)) (exec_index 49 _ _ rfl g4 rfl (k) 4 rfl (hk4) _ Try.underlying49 Try.sizeOf9) ?_
         simp only [Act.put, pu]
         refine pw_loadk (by rfl) 9 _ rfl _ (k) rfl r4.r (.string ⟨(kf k).toArray⟩) (HK4.out k hk4) Try.isAgg9 ?_
         simp only [Act.put, pu]
         refine pw_value (by rfl) (.int .i64 ((kf k).length : Nat)) (y_lenS _ _ rfl (kf k) rfl Try.underlying9) ?_
         simp only [Act.put, pu]
         refine pw_value (by rfl) (.bool true) (exec_leq_i _ _ _ _ rfl (((kf k).length : Nat)) (8) rfl rfl true (decide_eq_true h4)) ?_
         simp only [Act.put, pu]
         refine pw_pick (by rfl) true (v := .bool true) rfl rfl rfl ?_
         simp only [Act.put, pu]
         refine pw_nil ?_
         (repeat ((fail_if_success with_reducible refine rg ?_); go_step))
         refine wp_region_pw ?_
         refine pw_mv (by rfl) rfl rfl ?_
         simp only [Act.put, pu]
         refine pw_mv (by rfl) rfl rfl ?_
         simp only [Act.put, pu]
         refine pw_value (by rfl) (.pointer (some ⟨g4, k, none⟩)) (exec_index 49 _ _ rfl g4 rfl (k) 4 rfl (hk4) _ Try.underlying49 Try.sizeOf9) ?_
         simp only [Act.put, pu]
         refine pw_loadk (by rfl) 9 _ rfl _ (k) rfl r4.r (.string ⟨(kf k).toArray⟩) (HK4.out k hk4) Try.isAgg9 ?_
         simp only [Act.put, pu]
         refine pw_callE (by rfl) 11 _ _ rfl Try.func11 (by kernel_rfl) #[.pointer (some ⟨g7, 0, none⟩), .string ⟨(kf k).toArray⟩, .int .i64 7] rfl (hcon _ hA sd) ?_
         clear hA
         rintro _ z13004 ⟨B2, rfl, hA2, hb⟩
         refine ⟨_, rfl, ?_⟩
         simp only [Act.put, pu]
         replace sd := sd.trans hb
         clear hb
         refine pw_mv (by rfl) rfl rfl ?_
         simp only [Act.put, pu]
         refine pw_ext (by rfl) rfl rfl rfl ?_
         simp only [Act.put, pu]
         refine pw_ext (by rfl) rfl rfl rfl ?_
         simp only [Act.put, pu]
         refine pw_ext (by rfl) rfl rfl rfl ?_
         simp only [Act.put, pu]
         refine pw_as (by rfl) rfl rfl ?_
         simp only [Act.put, pu]
         refine pw_as (by rfl) rfl rfl ?_
         simp only [Act.put, pu]
         refine pw_as (by rfl) rfl rfl ?_
         simp only [Act.put, pu]
         refine pw_nil ?_
         (repeat ((fail_if_success with_reducible refine rg ?_); go_step))
         refine wp_region_pw ?_
         refine pw_mv (by rfl) rfl rfl ?_
         simp only [Act.put, pu]
         refine pw_value (by rfl) (.bool false) (exec_neq_k .i64 _ _ _ _ rfl (0) (0) rfl rfl false (by rw [decide_eq_true rfl]; rfl)) ?_
         simp only [Act.put, pu]
         refine pw_nil ?_
         clear r4 r5 hcon
         (repeat ((fail_if_success with_reducible refine rg ?_); go_step))
         refine wp_region_pw ?_
         refine pw_mv (by rfl) rfl rfl ?_
         simp only [Act.put, pu]
         refine pw_value (by rfl) (.int .i64 (((k + 1 : Nat) : Int))) (x_addz _ _ _ _ rfl ((k : Nat)) (1) (((k + 1 : Nat) : Int)) rfl rfl (by omega) (by omega) (by omega)) ?_
         simp only [Act.put, pu]
         refine pw_as (by rfl) rfl rfl ?_
         simp only [Act.put, pu]
         refine pw_nil ?_
         go_wp2
         go_roundg y2
         case measure => omega
         case rel => exact ⟨k + 1, _, _, B2, by omega, rfl, hA2, by omega, HU2.out, sd⟩
        ·have hno : ¬ (ok k = true ∧ Wf k = i) := fun h9 => by
          have := of_decide_eq_true ((HOK.out k).symm.trans h9.1)
          omega
         (repeat ((fail_if_success with_reducible refine rg ?_); go_step))
         refine wp_region_pw ?_
         refine pw_mv (by rfl) rfl rfl ?_
         simp only [Act.put, pu]
         refine pw_value (by rfl) (.bool true) (exec_lt_b _ _ _ _ rfl ((k : Nat)) (4) rfl rfl true (decide_eq_true (by omega))) ?_
         simp only [Act.put, pu]
         refine pw_nil ?_
         have r4 := HR4.out.belowAll sd
         have r5 := HR5.out.belowAll sd
         (repeat ((fail_if_success with_reducible refine rg ?_); go_step))
         refine wp_region_pw ?_
         refine pw_mv (by rfl) rfl rfl ?_
         simp only [Act.put, pu]
         refine pw_value (by rfl) (.pointer (some ⟨g5, k, none⟩)) (exec_index 50 _ _ rfl g5 rfl (k) 4 rfl (hk4) _ Try.underlying50 Try.sizeOf3) ?_
         simp only [Act.put, pu]
         refine pw_loadk (by rfl) 3 _ rfl _ (k) rfl r5.r (.int .i64 (tf k)) (HT4.out k hk4) Try.isAgg3 ?_
         simp only [Act.put, pu]
         refine pw_value (by rfl) (.int .i64 (Wf k : Nat)) (x_an _ _ _ _ rfl (tf k) 63 (Wf k : Nat) rfl rfl (HW.out k)) ?_
         simp only [Act.put, pu]
         refine pw_mv (by rfl) rfl rfl ?_
         simp only [Act.put, pu]
         refine pw_value (by rfl) (.bool true) (exec_eql_k .i64 _ _ _ _ rfl ((Wf k : Nat)) ((i : Nat)) rfl rfl true (decide_eq_true h2)) ?_
         simp only [Act.put, pu]
         refine pw_mv (by rfl) rfl rfl ?_
         simp only [Act.put, pu]
         refine pw_mv (by rfl) rfl rfl ?_
         simp only [Act.put, pu]
         refine pw_value (by rfl) (.pointer (some ⟨g4, k, none⟩)) (exec_index 49 _ _ rfl g4 rfl (k) 4 rfl (hk4) _ Try.underlying49 Try.sizeOf9) ?_
         simp only [Act.put, pu]
         refine pw_loadk (by rfl) 9 _ rfl _ (k) rfl r4.r (.string ⟨(kf k).toArray⟩) (HK4.out k hk4) Try.isAgg9 ?_
         simp only [Act.put, pu]
         refine pw_value (by rfl) (.int .i64 ((kf k).length : Nat)) (y_lenS _ _ rfl (kf k) rfl Try.underlying9) ?_
         simp only [Act.put, pu]
         refine pw_value (by rfl) (.bool true) (exec_geq_i _ _ _ _ rfl (((kf k).length : Nat)) (1) rfl rfl true (decide_eq_true h3)) ?_
         simp only [Act.put, pu]
         refine pw_pick (by rfl) true (v := .bool true) rfl rfl rfl ?_
         simp only [Act.put, pu]
         refine pw_mv (by rfl) rfl rfl ?_
         simp only [Act.put, pu]
         refine pw_mv (by rfl) rfl rfl ?_
         simp only [Act.put, pu]
         refine pw_value (by rfl) (.pointer (some ⟨g4, k, none⟩)) (exec_index 49 _ _ rfl g4 rfl (k) 4 rfl (hk4) _ Try.underlying49 Try.sizeOf9) ?_
         simp only [Act.put, pu]
         refine pw_loadk (by rfl) 9 _ rfl _ (k) rfl r4.r (.string ⟨(kf k).toArray⟩) (HK4.out k hk4) Try.isAgg9 ?_
         simp only [Act.put, pu]
         refine pw_value (by rfl) (.int .i64 ((kf k).length : Nat)) (y_lenS _ _ rfl (kf k) rfl Try.underlying9) ?_
         simp only [Act.put, pu]
         refine pw_value (by rfl) (.bool false) (exec_leq_i _ _ _ _ rfl (((kf k).length : Nat)) (8) rfl rfl false (decide_eq_false h4)) ?_
         simp only [Act.put, pu]
         refine pw_pick (by rfl) true (v := .bool false) rfl rfl rfl ?_
         simp only [Act.put, pu]
         refine pw_nil ?_
         clear r4 r5
         (repeat ((fail_if_success with_reducible refine rg ?_); go_step))
         refine wp_region_pw ?_
         refine pw_mv (by rfl) rfl rfl ?_
         simp only [Act.put, pu]
         refine pw_value (by rfl) (.int .i64 (((k + 1 : Nat) : Int))) (x_addz _ _ _ _ rfl ((k : Nat)) (1) (((k + 1 : Nat) : Int)) rfl rfl (by omega) (by omega) (by omega)) ?_
         simp only [Act.put, pu]
         refine pw_as (by rfl) rfl rfl ?_
         simp only [Act.put, pu]
         refine pw_nil ?_
         go_wp2
         go_roundg y2
         case measure => omega
         case rel => exact ⟨k + 1, l, U, B, by omega, rfl, hA, by omega, by rw [cs_other _ _ _ _ hno]; exact HU.out, sd⟩
       ·have hno : ¬ (ok k = true ∧ Wf k = i) := fun h9 => by
         have := of_decide_eq_true ((HOK.out k).symm.trans h9.1)
         omega
        (repeat ((fail_if_success with_reducible refine rg ?_); go_step))
        refine wp_region_pw ?_
        refine pw_mv (by rfl) rfl rfl ?_
        simp only [Act.put, pu]
        refine pw_value (by rfl) (.bool true) (exec_lt_b _ _ _ _ rfl ((k : Nat)) (4) rfl rfl true (decide_eq_true (by omega))) ?_
        simp only [Act.put, pu]
        refine pw_nil ?_
        have r4 := HR4.out.belowAll sd
        have r5 := HR5.out.belowAll sd
        (repeat ((fail_if_success with_reducible refine rg ?_); go_step))
        refine wp_region_pw ?_
        refine pw_mv (by rfl) rfl rfl ?_
        simp only [Act.put, pu]
        refine pw_value (by rfl) (.pointer (some ⟨g5, k, none⟩)) (exec_index 50 _ _ rfl g5 rfl (k) 4 rfl (hk4) _ Try.underlying50 Try.sizeOf3) ?_
        simp only [Act.put, pu]
        refine pw_loadk (by rfl) 3 _ rfl _ (k) rfl r5.r (.int .i64 (tf k)) (HT4.out k hk4) Try.isAgg3 ?_
        simp only [Act.put, pu]
        refine pw_value (by rfl) (.int .i64 (Wf k : Nat)) (x_an _ _ _ _ rfl (tf k) 63 (Wf k : Nat) rfl rfl (HW.out k)) ?_
        simp only [Act.put, pu]
        refine pw_mv (by rfl) rfl rfl ?_
        simp only [Act.put, pu]
        refine pw_value (by rfl) (.bool true) (exec_eql_k .i64 _ _ _ _ rfl ((Wf k : Nat)) ((i : Nat)) rfl rfl true (decide_eq_true h2)) ?_
        simp only [Act.put, pu]
        refine pw_mv (by rfl) rfl rfl ?_
        simp only [Act.put, pu]
        refine pw_mv (by rfl) rfl rfl ?_
        simp only [Act.put, pu]
        refine pw_value (by rfl) (.pointer (some ⟨g4, k, none⟩)) (exec_index 49 _ _ rfl g4 rfl (k) 4 rfl (hk4) _ Try.underlying49 Try.sizeOf9) ?_
        simp only [Act.put, pu]
        refine pw_loadk (by rfl) 9 _ rfl _ (k) rfl r4.r (.string ⟨(kf k).toArray⟩) (HK4.out k hk4) Try.isAgg9 ?_
        simp only [Act.put, pu]
        refine pw_value (by rfl) (.int .i64 ((kf k).length : Nat)) (y_lenS _ _ rfl (kf k) rfl Try.underlying9) ?_
        simp only [Act.put, pu]
        refine pw_value (by rfl) (.bool false) (exec_geq_i _ _ _ _ rfl (((kf k).length : Nat)) (1) rfl rfl false (decide_eq_false h3)) ?_
        simp only [Act.put, pu]
        refine pw_pick (by rfl) true (v := .bool false) rfl rfl rfl ?_
        simp only [Act.put, pu]
        refine pw_mv (by rfl) rfl rfl ?_
        simp only [Act.put, pu]
        refine pw_skip (by rfl) ?_
        simp only [Act.put, pu]
        refine pw_skip (by rfl) ?_
        simp only [Act.put, pu]
        refine pw_skip (by rfl) ?_
        simp only [Act.put, pu]
        refine pw_skip (by rfl) ?_
        simp only [Act.put, pu]
        refine pw_skip (by rfl) ?_
        simp only [Act.put, pu]
        refine pw_pick (by rfl) false (v := .bool false) rfl rfl rfl ?_
        simp only [Act.put, pu]
        refine pw_nil ?_
        clear r4 r5
        (repeat ((fail_if_success with_reducible refine rg ?_); go_step))
        refine wp_region_pw ?_
        refine pw_mv (by rfl) rfl rfl ?_
        simp only [Act.put, pu]
        refine pw_value (by rfl) (.int .i64 (((k + 1 : Nat) : Int))) (x_addz _ _ _ _ rfl ((k : Nat)) (1) (((k + 1 : Nat) : Int)) rfl rfl (by omega) (by omega) (by omega)) ?_
        simp only [Act.put, pu]
        refine pw_as (by rfl) rfl rfl ?_
        simp only [Act.put, pu]
        refine pw_nil ?_
        go_wp2
        go_roundg y2
        case measure => omega
        case rel => exact ⟨k + 1, l, U, B, by omega, rfl, hA, by omega, by rw [cs_other _ _ _ _ hno]; exact HU.out, sd⟩
      ·have hno : ¬ (ok k = true ∧ Wf k = i) := fun h9 => h2 (by omega)
       (repeat ((fail_if_success with_reducible refine rg ?_); go_step))
       refine wp_region_pw ?_
       refine pw_mv (by rfl) rfl rfl ?_
       simp only [Act.put, pu]
       refine pw_value (by rfl) (.bool true) (exec_lt_b _ _ _ _ rfl ((k : Nat)) (4) rfl rfl true (decide_eq_true (by omega))) ?_
       simp only [Act.put, pu]
       refine pw_nil ?_
       have r4 := HR4.out.belowAll sd
       have r5 := HR5.out.belowAll sd
       (repeat ((fail_if_success with_reducible refine rg ?_); go_step))
       refine wp_region_pw ?_
       refine pw_mv (by rfl) rfl rfl ?_
       simp only [Act.put, pu]
       refine pw_value (by rfl) (.pointer (some ⟨g5, k, none⟩)) (exec_index 50 _ _ rfl g5 rfl (k) 4 rfl (hk4) _ Try.underlying50 Try.sizeOf3) ?_
       simp only [Act.put, pu]
       refine pw_loadk (by rfl) 3 _ rfl _ (k) rfl r5.r (.int .i64 (tf k)) (HT4.out k hk4) Try.isAgg3 ?_
       simp only [Act.put, pu]
       refine pw_value (by rfl) (.int .i64 (Wf k : Nat)) (x_an _ _ _ _ rfl (tf k) 63 (Wf k : Nat) rfl rfl (HW.out k)) ?_
       simp only [Act.put, pu]
       refine pw_mv (by rfl) rfl rfl ?_
       simp only [Act.put, pu]
       refine pw_value (by rfl) (.bool false) (exec_eql_k .i64 _ _ _ _ rfl ((Wf k : Nat)) ((i : Nat)) rfl rfl false (decide_eq_false h2)) ?_
       simp only [Act.put, pu]
       refine pw_mv (by rfl) rfl rfl ?_
       simp only [Act.put, pu]
       refine pw_skip (by rfl) ?_
       simp only [Act.put, pu]
       refine pw_skip (by rfl) ?_
       simp only [Act.put, pu]
       refine pw_skip (by rfl) ?_
       simp only [Act.put, pu]
       refine pw_skip (by rfl) ?_
       simp only [Act.put, pu]
       refine pw_skip (by rfl) ?_
       simp only [Act.put, pu]
       refine pw_pick (by rfl) false (v := .bool false) rfl rfl rfl ?_
       simp only [Act.put, pu]
       refine pw_mv (by rfl) rfl rfl ?_
       simp only [Act.put, pu]
       refine pw_skip (by rfl) ?_
       simp only [Act.put, pu]
       refine pw_skip (by rfl) ?_
       simp only [Act.put, pu]
       refine pw_skip (by rfl) ?_
       simp only [Act.put, pu]
       refine pw_skip (by rfl) ?_
       simp only [Act.put, pu]
       refine pw_skip (by rfl) ?_
       simp only [Act.put, pu]
       refine pw_pick (by rfl) false (v := .bool false) rfl rfl rfl ?_
       simp only [Act.put, pu]
       refine pw_nil ?_
       clear r4 r5
       (repeat ((fail_if_success with_reducible refine rg ?_); go_step))
       refine wp_region_pw ?_
       refine pw_mv (by rfl) rfl rfl ?_
       simp only [Act.put, pu]
       refine pw_value (by rfl) (.int .i64 (((k + 1 : Nat) : Int))) (x_addz _ _ _ _ rfl ((k : Nat)) (1) (((k + 1 : Nat) : Int)) rfl rfl (by omega) (by omega) (by omega)) ?_
       simp only [Act.put, pu]
       refine pw_as (by rfl) rfl rfl ?_
       simp only [Act.put, pu]
       refine pw_nil ?_
       go_wp2
       go_roundg y2
       case measure => omega
       case rel => exact ⟨k + 1, l, U, B, by omega, rfl, hA, by omega, by rw [cs_other _ _ _ _ hno]; exact HU.out, sd⟩
set_option maxRecDepth 100000 in
theorem lifted (os : Os) (started : os.Started) (H : Type) (enc : TypeId × Value → H) :
  ReturnsInHanded {} Try.checked os 4 .any (Rows.spaceFairSpec.pre6 enc Try.prog Try.f4 Rows.spaceFairRow.domain false) (Rows.spaceFairSpec.post enc Try.prog Try.f4 false true false false) := by
 refine returnsInHanded_of_change (C := Try.checked) own started (by kernel_rfl) Try.func4
  (ChangeSpec.witness6 (enc := enc) (C := Try.checked) false ⟨#[], #[.slice none 0 0, .agg #[.string ⟨#[]⟩, .string ⟨#[]⟩, .string ⟨#[]⟩, .string ⟨#[]⟩], .agg #[.int .i64 0, .int .i64 0, .int .i64 0, .int .i64 0]], []⟩ 8 (by kernel_rfl) (by kernel_rfl) (by kernel_rfl) (by kernel_rfl)) ?_
 intro W base args ds gs before hval0 hW hcnd _
 have hval : ∀ (j : Nat) t v, Try.f4.params[j]? = some t → args[j]? = some v → Value.okWide Try.prog W .any base t v := hval0
 have hW' := hW
 obtain ⟨p, q, hA0, hV, rfl, hfz, hnd⟩ := hW
 have hA : DataW.TrodAll enc Try.prog W 0 (fun _ => true) true Try.f4.params.toList args.toList ds p := hA0
 rw [Try.params4] at hA hval
 obtain ⟨v0, vs0, d0, ds0, p0, q0, hargs, rfl, rfl, h0, r0⟩ := trodAll_cons hA
 obtain ⟨v1, vs1, d1, ds1, p1, q1, rfl, rfl, rfl, h1, r1⟩ := trodAll_cons r0
 obtain ⟨v2, vs2, d2, ds2, p2, q2, rfl, rfl, rfl, h2, r2⟩ := trodAll_cons r1
 obtain ⟨rfl, rfl, rfl⟩ := trodAll_nil r2
 obtain rfl : args = #[v0, v1, v2] := by cases args; simp_all
 obtain ⟨rfl, rfl⟩ := trodVars_none hV
 have k0 := h0
 have lt0 := lt_of_trod h0
 obtain ⟨ab0, c0, L0, gb0, ob0, bcs0, tb0, rfl, hn0, hz0⟩ := open_acs (hval 0 23 v0 rfl rfl) h0
 have k1 := h1
 have lt1 := lt_of_trod h1
 obtain ⟨fa1, fb1, fc1, fd1, rfl⟩ := open_s4 (hval 1 49 v1 rfl rfl) h1
 have k2 := h2
 have lt2 := lt_of_trod h2
 obtain ⟨fa2, fb2, fc2, fd2, rfl⟩ := open_i4 (hval 2 50 v2 rfl rfl) h2
 clear hA0 hval0
 refine (walk ab0 c0 L0 gb0 ob0 bcs0 tb0 fa1 fb1 fc1 fd1 fa2 fb2 fc2 fd2 W hn0 hz0).mono fun e W' ⟨he, bel⟩ => ?_
 subst he
 exact ⟨_, rfl, _, _, _, [], _, [], hW', trodAll_mk1 (shut_bool Try.underlying4 _), (trodAll_cons_mk (Below.trod laidOut (by kernel_rfl) (of_decide_eq_true (by kernel_rfl)) k0 bel lt0) (trodAll_cons_mk (Below.trod laidOut (by kernel_rfl) (of_decide_eq_true (by kernel_rfl)) k1 bel lt1) (trodAll_cons_mk (Below.trod laidOut (by kernel_rfl) (of_decide_eq_true (by kernel_rfl)) k2 bel lt2) trodAll_mk0))), rfl, bel.frame _, fun h => by cases h⟩
theorem over : Rows.spaceFairRow.holds Try.pinned (OpenSpec.ofChange Rows.spaceFairSpec) :=
 OpenClaim.holds_of_wide 4 Try.f4 rfl rfl rfl rfl rfl rfl rfl ⟨rfl, rfl, rfl, rfl, rfl⟩ rfl rfl rfl rfl rfl (by kernel_rfl) Try.func4 (by kernel_rfl)
  (of_decide_eq_true (by kernel_rfl)) (by unfold Func.isWrapper; first | (rw [if_pos (by decide +kernel)]; kernel_rfl) | (rw [if_neg (by decide +kernel)]; exact ⟨rfl, rfl⟩))
  (fun os started H enc _ => lifted os started H enc)
end spaceFairP
/-- with 4 servers and 3 clients, and up to 60 keys of few bytes that any ends name: an end that names no more keys than its quota is never refused; no condition. -/
theorem spaceFair_holds : Rows.SpaceFairSaid := spaceFairP.over
end Go.Proofs.Ytchiiphmpkmloaa
