/- tape's Draw, Draws. -/
import Derived.Test.YtlacmkliofnjcaaDoorTB
namespace Go.Proofs.YtlacmkliofnjcaaDoor
open Go.RowKit
set_option linter.unusedVariables false
theorem bitLen_256 {q : Nat} (h : q < 2 ^ 256) : bitLen q ≤ 256 := by
 unfold bitLen
 split
 ·exact Nat.zero_le _
 ·rename_i h0
  have := (Nat.log2_lt h0).2 h
  omega
set_option maxRecDepth 100000 in
set_option maxHeartbeats 2000000 in
theorem tdraw_no (v x : Option Addr) (s : List UInt8) (w : World) (h : TpAt w x false s) :
  Calls Tryd.prog 18 #[.pointer x, .pointer v] w fun e w' => e = .returned (.tuple #[.agg (natC 0), .int .i64 1]) ∧ Below w.heap.size w w' := by
 have him := fun w' (hb : Below w.heap.size w w') => isMade_any x false s w' (h.below hb)
 clear h
 go_enter Tryd.func18, Tryd.ntmps18
 have sb := sbmk w
 (repeat ((fail_if_success with_reducible refine rg ?_); go_step))
 refine wp_region_pw ?_
 refine pw_new (by rfl) 35 rfl _ zero_nat ?_
 intro g4 z0 n0 r4 k
 simp only [Act.put, pu]
 have b4 := Nat.le_trans sb.size n0
 clear n0
 replace sb := sb.trans (k.below w.heap.size sb.size (by simp <;> omega))
 clear k
 refine pw_value (by rfl) (.int .i64 0) (fun _ => rfl) ?_
 simp only [Act.put, pu]
 refine pw_nil ?_
 (repeat ((fail_if_success with_reducible refine rg ?_); go_step))
 refine wp_region_pw ?_
 refine pw_mv (by rfl) rfl rfl ?_
 simp only [Act.put, pu]
 refine pw_callB (by rfl) 24 _ _ rfl Tryd.func24 (by kernel_rfl) #[.pointer x] rfl _ (him _ sb) ?_
 intro z1001 k
 simp only [Act.put, pu]
 replace r4 := k.row r4 (by simp <;> omega)
 replace sb := sb.trans (k.below w.heap.size sb.size (by simp <;> omega))
 clear k
 refine pw_value (by rfl) (.bool true) (exec_not _ _ rfl false rfl) ?_
 simp only [Act.put, pu]
 refine pw_mv (by rfl) rfl rfl ?_
 simp only [Act.put, pu]
 refine pw_skip (by rfl) ?_
 simp only [Act.put, pu]
 refine pw_skip (by rfl) ?_
 simp only [Act.put, pu]
 refine pw_skip (by rfl) ?_
 simp only [Act.put, pu]
 refine pw_pick (by rfl) true (v := .bool true) rfl rfl rfl ?_
 simp only [Act.put, pu]
 refine pw_nil ?_
 (repeat ((fail_if_success with_reducible refine rg ?_); go_step))
 refine wp_region_pw ?_
 refine pw_value (by rfl) (.agg (natC 0)) (exec_build0 _ rfl _ built_nat) ?_
 simp only [Act.put, pu]
 refine pw_put (by rfl) 35 _ _ rfl _ rfl r4 (natC 0) rfl (by exact size_nat) (by simp only [natC_size]) (natC_one _) ?_
 clear r4
 intro z2001 r4 k
 simp only [Act.put]
 replace sb := sb.trans (k.below w.heap.size sb.size (by simp <;> omega))
 clear k
 refine pw_value (by rfl) (.int .i64 1) (fun _ => rfl) ?_
 simp only [Act.put, pu]
 refine pw_nil ?_
 go_wp2
 exact ret_row2 rfl _ rfl r4 4 _ Tryd.underlying35 (by exact size_nat) rfl _ rfl ⟨rfl, sb⟩
set_option maxRecDepth 100000 in
set_option maxHeartbeats 2000000 in
theorem tdraw_nog (g0 : Nat) (v : Option Addr) (s : List UInt8) (w : World) (r0 : Row w g0 (tpC true s) 62) (h : NoG w v) :
  Calls Tryd.prog 18 #[.pointer (some ⟨g0, 0, none⟩), .pointer v] w fun e w' => e = .returned (.tuple #[.agg (natC 0), .int .i64 1]) ∧ Below w.heap.size w w' := by
 have hig := fun w' (hb : Below w.heap.size w w') => isGroup_no v w' (h.below hb)
 clear h
 go_enter Tryd.func18, Tryd.ntmps18
 have sb := sbmk w
 (repeat ((fail_if_success with_reducible refine rg ?_); go_step))
 refine wp_region_pw ?_
 refine pw_new (by rfl) 35 rfl _ zero_nat ?_
 intro g4 z0 n0 r4 k
 simp only [Act.put, pu]
 have d0x4 := Nat.lt_of_lt_of_le r0.lt n0
 have b4 := Nat.le_trans sb.size n0
 clear n0
 replace r0 := k.row r0 (by simp <;> omega)
 replace sb := sb.trans (k.below w.heap.size sb.size (by simp <;> omega))
 clear k
 refine pw_value (by rfl) (.int .i64 0) (fun _ => rfl) ?_
 simp only [Act.put, pu]
 refine pw_nil ?_
 (repeat ((fail_if_success with_reducible refine rg ?_); go_step))
 refine wp_region_pw ?_
 refine pw_mv (by rfl) rfl rfl ?_
 simp only [Act.put, pu]
 refine pw_callB (by rfl) 24 _ _ rfl Tryd.func24 (by kernel_rfl) #[.pointer (some ⟨g0, 0, none⟩)] rfl _ (isMade_at g0 true s _ r0) ?_
 intro z1001 k
 simp only [Act.put, pu]
 replace r4 := k.row r4 (by simp <;> omega)
 replace r0 := k.row r0 (by simp <;> omega)
 replace sb := sb.trans (k.below w.heap.size sb.size (by simp <;> omega))
 clear k
 refine pw_value (by rfl) (.bool false) (exec_not _ _ rfl true rfl) ?_
 simp only [Act.put, pu]
 refine pw_mv (by rfl) rfl rfl ?_
 simp only [Act.put, pu]
 refine pw_mv (by rfl) rfl rfl ?_
 simp only [Act.put, pu]
 refine pw_callB (by rfl) 32 _ _ rfl Tryd.func32 (by kernel_rfl) #[.pointer v] rfl _ (hig _ sb) ?_
 intro z1005 k
 simp only [Act.put, pu]
 replace r4 := k.row r4 (by simp <;> omega)
 replace r0 := k.row r0 (by simp <;> omega)
 replace sb := sb.trans (k.below w.heap.size sb.size (by simp <;> omega))
 clear k
 refine pw_value (by rfl) (.bool true) (exec_not _ _ rfl false rfl) ?_
 simp only [Act.put, pu]
 refine pw_pick (by rfl) false (v := .bool true) rfl rfl rfl ?_
 simp only [Act.put, pu]
 refine pw_nil ?_
 (repeat ((fail_if_success with_reducible refine rg ?_); go_step))
 refine wp_region_pw ?_
 refine pw_value (by rfl) (.agg (natC 0)) (exec_build0 _ rfl _ built_nat) ?_
 simp only [Act.put, pu]
 refine pw_put (by rfl) 35 _ _ rfl _ rfl r4 (natC 0) rfl (by exact size_nat) (by simp only [natC_size]) (natC_one _) ?_
 clear r4
 intro z2001 r4 k
 simp only [Act.put]
 replace sb := sb.trans (k.below w.heap.size sb.size (by simp <;> omega))
 clear k
 refine pw_value (by rfl) (.int .i64 1) (fun _ => rfl) ?_
 simp only [Act.put, pu]
 refine pw_nil ?_
 go_wp2
 exact ret_row2 rfl _ rfl r4 4 _ Tryd.underlying35 (by exact size_nat) rfl _ rfl ⟨rfl, sb⟩
set_option maxRecDepth 100000 in
set_option maxHeartbeats 2000000 in
theorem tdraw_ok (g0 : Nat) (v : Option Addr) (P q G : Nat) (r f : Option Addr) (s : List UInt8) (w : World) (h0 : 0 < q) (h1 : q < 2 ^ 256) (r0 : Row w g0 (tpC true s) 62) (h : KnAt w v P q G r f) :
  Calls Tryd.prog 18 #[.pointer (some ⟨g0, 0, none⟩), .pointer v] w fun e w' => e = .returned (.tuple #[.agg (natC (drN q s)), .int .i64 (drE q s)]) ∧ Row w' g0 (tpC true (drT q s)) 62 ∧ Kept [g0] w w' := by
 have hig := fun w' (hb : Below w.heap.size w w') => isGroup_yes v P q G r f w' h0 h1 (h.below hb)
 have hq := fun w' (hb : Below w.heap.size w w') => grpQ_any v P q G r f w' (h.below hb)
 have hl := fun w' => nlen_any q w' h1
 have hb256 := bitLen_256 h1
 have hby : (bitLen q + 7) / 8 = byN q := rfl
 have hpos := byN_pos h0
 have hfew := fun (g : Nat) (u : List UInt8) w' (hf : u.length < byN q) (hr : Row w' g (tpC true u) 62) => nextTry_few g (bitLen q) u w' hb256 hf hr
 have hok := fun (g : Nat) (u : List UInt8) w' (hf : byN q ≤ u.length) (hr : Row w' g (tpC true u) 62) => nextTry_ok g (bitLen q) u w' hb256 hf hr
 rw [hby] at hok
 have hcmp := fun (A : Nat) w' (hA : A < 2 ^ 256) => ncmp_any A q w' hA h1
 clear h hby
 go_enter Tryd.func18, Tryd.ntmps18
 have sb := sbmk w
 (repeat ((fail_if_success with_reducible refine rg ?_); go_step))
 refine wp_region_pw ?_
 refine pw_new (by rfl) 35 rfl _ zero_nat ?_
 intro g4 z0 n0 r4 k
 simp only [Act.put, pu]
 have d0x4 := Nat.lt_of_lt_of_le r0.lt n0
 have b4 := Nat.le_trans sb.size n0
 clear n0
 replace r0 := k.row r0 (by simp <;> omega)
 replace sb := sb.trans (k.below w.heap.size sb.size (by simp <;> omega))
 clear k
 refine pw_value (by rfl) (.int .i64 0) (fun _ => rfl) ?_
 simp only [Act.put, pu]
 refine pw_nil ?_
 (repeat ((fail_if_success with_reducible refine rg ?_); go_step))
 refine wp_region_pw ?_
 refine pw_mv (by rfl) rfl rfl ?_
 simp only [Act.put, pu]
 refine pw_callB (by rfl) 24 _ _ rfl Tryd.func24 (by kernel_rfl) #[.pointer (some ⟨g0, 0, none⟩)] rfl _ (isMade_at g0 true s _ r0) ?_
 intro z1001 k
 simp only [Act.put, pu]
 replace r4 := k.row r4 (by simp <;> omega)
 replace r0 := k.row r0 (by simp <;> omega)
 replace sb := sb.trans (k.below w.heap.size sb.size (by simp <;> omega))
 clear k
 refine pw_value (by rfl) (.bool false) (exec_not _ _ rfl true rfl) ?_
 simp only [Act.put, pu]
 refine pw_mv (by rfl) rfl rfl ?_
 simp only [Act.put, pu]
 refine pw_mv (by rfl) rfl rfl ?_
 simp only [Act.put, pu]
 refine pw_callB (by rfl) 32 _ _ rfl Tryd.func32 (by kernel_rfl) #[.pointer v] rfl _ (hig _ sb) ?_
 intro z1005 k
 simp only [Act.put, pu]
 replace r4 := k.row r4 (by simp <;> omega)
 replace r0 := k.row r0 (by simp <;> omega)
 replace sb := sb.trans (k.below w.heap.size sb.size (by simp <;> omega))
 clear k
 refine pw_value (by rfl) (.bool false) (exec_not _ _ rfl true rfl) ?_
 simp only [Act.put, pu]
 refine pw_pick (by rfl) false (v := .bool false) rfl rfl rfl ?_
 simp only [Act.put, pu]
 refine pw_nil ?_
 (repeat ((fail_if_success with_reducible refine rg ?_); go_step))
 refine wp_region_pw ?_
 refine pw_mv (by rfl) rfl rfl ?_
 simp only [Act.put, pu]
 refine pw_callB (by rfl) 33 _ _ rfl Tryd.func33 (by kernel_rfl) #[.pointer v] rfl _ (hq _ sb) ?_
 intro z3001 k
 simp only [Act.put, pu]
 replace r4 := k.row r4 (by simp <;> omega)
 replace r0 := k.row r0 (by simp <;> omega)
 replace sb := sb.trans (k.below w.heap.size sb.size (by simp <;> omega))
 clear k
 refine pw_new (by rfl) 35 rfl _ zero_nat ?_
 intro g6 z3002 n0 r6 k
 simp only [Act.put, pu]
 have d4x6 := Nat.lt_of_lt_of_le r4.lt n0
 have d0x6 := Nat.lt_of_lt_of_le r0.lt n0
 have b6 := Nat.le_trans sb.size n0
 clear n0
 replace r4 := k.row r4 (by simp <;> omega)
 replace r0 := k.row r0 (by simp <;> omega)
 replace sb := sb.trans (k.below w.heap.size sb.size (by simp <;> omega))
 clear k
 refine pw_put (by rfl) 35 _ _ rfl _ rfl r6 (natC q) rfl (by exact size_nat) (by simp only [natC_size]) (natC_one _) ?_
 clear r6
 intro z3003 r6 k
 simp only [Act.put]
 replace r4 := k.row r4 (by simp <;> omega)
 replace r0 := k.row r0 (by simp <;> omega)
 replace sb := sb.trans (k.below w.heap.size sb.size (by simp <;> omega))
 clear k
 refine pw_nil ?_
 (repeat ((fail_if_success with_reducible refine rg ?_); go_step))
 refine wp_region_pw ?_
 refine pw_mv (by rfl) rfl rfl ?_
 simp only [Act.put, pu]
 refine pw_value (by rfl) (.pointer (some ⟨g0, 0, none⟩)) (exec_nil _ rfl g0 0 rfl) ?_
 simp only [Act.put, pu]
 refine pw_loadm (by rfl) 62 _ rfl _ 0 rfl r0.r _ (part_all _) _ Tryd.underlying62 rfl size_tp ?_
 simp only [Act.put, pu]
 refine pw_new (by rfl) 62 rfl _ zero_tp ?_
 intro g7 z4003 n0 r7 k
 simp only [Act.put, pu]
 have d4x7 := Nat.lt_of_lt_of_le r4.lt n0
 have d0x7 := Nat.lt_of_lt_of_le r0.lt n0
 have d6x7 := Nat.lt_of_lt_of_le r6.lt n0
 have b7 := Nat.le_trans sb.size n0
 clear n0
 replace r4 := k.row r4 (by simp <;> omega)
 replace r0 := k.row r0 (by simp <;> omega)
 replace r6 := k.row r6 (by simp <;> omega)
 replace sb := sb.trans (k.below w.heap.size sb.size (by simp <;> omega))
 clear k
 refine pw_put (by rfl) 62 _ _ rfl _ rfl r7 (tpC true s) rfl (by exact size_tp) (by rfl) (tp_one _ _) ?_
 clear r7
 intro z4004 r7 k
 simp only [Act.put]
 replace r4 := k.row r4 (by simp <;> omega)
 replace r0 := k.row r0 (by simp <;> omega)
 replace r6 := k.row r6 (by simp <;> omega)
 replace sb := sb.trans (k.below w.heap.size sb.size (by simp <;> omega))
 clear k
 refine pw_nil ?_
 clear hq hig
 have sk := Kept.trans (Kept.refl [g0] w) (Kept.ofBelow sb) (by simp)
 clear sb
 have hd0 : drwR q (s.length + 1) s = drw q s := rfl
 have HH : Hid (0 < q ∧ q < 2 ^ 256 ∧ bitLen q ≤ 256 ∧ 0 < byN q ∧ drwR q (s.length + 1) s = drw q s) := ⟨h0, h1, hb256, hpos, hd0⟩
 clear h0 h1 hb256 hpos hd0
 go_wp2_with fail
 go_loopg [8, 9] s.length (fun g s8 s9 wr => ∃ u : List UInt8, Hid (drwR q (g + 1) u = drw q s) ∧ u.length ≤ g ∧ Row wr g4 (natC 0) 35 ∧ Row wr g0 (tpC true s) 62 ∧ Row wr g6 (natC q) 35 ∧ Row wr g7 (tpC true u) 62 ∧ Kept [g0] w wr)
 case atStart => exact ⟨s, HH.out.2.2.2.2, Nat.le_refl _, r4, r0, r6, r7, sk⟩
 case round =>
  clear r4 r0 r6 r7 sk
  obtain ⟨u, hu, hul, r4, r0, r6, r7, sk⟩ := hrel
  by_cases hf : u.length < byN q
  ·have HD : Hid (drw q s = none) := by show drw q s = none; rw [← hu.out, drwR_few hf]
   clear hu hul
   (repeat ((fail_if_success with_reducible refine rg ?_); go_step))
   refine wp_region_pw ?_
   refine pw_loadm (by rfl) 35 _ rfl _ 0 rfl r6.r _ (part_all _) _ Tryd.underlying35 rfl size_nat ?_
   simp only [Act.put, pu]
   refine pw_callB (by rfl) 35 _ _ rfl Tryd.func35 (by kernel_rfl) #[.agg (natC q)] rfl _ (hl _) ?_
   intro z5001 k
   simp only [Act.put, pu]
   replace r4 := k.row r4 (by simp <;> omega)
   replace r0 := k.row r0 (by simp <;> omega)
   replace r6 := k.row r6 (by simp <;> omega)
   replace r7 := k.row r7 (by simp <;> omega)
   replace sk := sk.trans k (by simp <;> omega)
   clear k
   refine pw_callB (by rfl) 34 _ _ rfl Tryd.func34 (by kernel_rfl) #[.pointer (some ⟨g7, 0, none⟩), .int .i64 (bitLen q : Nat)] rfl _ (hfew g7 u _ hf r7) ?_
   intro z5002 k
   simp only [Act.put, pu]
   replace r4 := k.row r4 (by simp <;> omega)
   replace r0 := k.row r0 (by simp <;> omega)
   replace r6 := k.row r6 (by simp <;> omega)
   replace r7 := k.row r7 (by simp <;> omega)
   replace sk := sk.trans k (by simp <;> omega)
   clear k
   refine pw_mv (by rfl) rfl rfl ?_
   simp only [Act.put, pu]
   refine pw_ext (by rfl) rfl rfl rfl ?_
   simp only [Act.put, pu]
   refine pw_ext (by rfl) rfl rfl rfl ?_
   simp only [Act.put, pu]
   refine pw_new (by rfl) 35 rfl _ zero_nat ?_
   intro g8 z5006 n0 r8 k
   simp only [Act.put, pu]
   have d4x8 := Nat.lt_of_lt_of_le r4.lt n0
   have d0x8 := Nat.lt_of_lt_of_le r0.lt n0
   have d6x8 := Nat.lt_of_lt_of_le r6.lt n0
   have d7x8 := Nat.lt_of_lt_of_le r7.lt n0
   have b8 := Nat.le_trans sk.size n0
   clear n0
   replace r4 := k.row r4 (by simp <;> omega)
   replace r0 := k.row r0 (by simp <;> omega)
   replace r6 := k.row r6 (by simp <;> omega)
   replace r7 := k.row r7 (by simp <;> omega)
   replace sk := sk.trans k (by simp <;> omega)
   clear k
   refine pw_put (by rfl) 35 _ _ rfl _ rfl r8 (natC 0) rfl (by exact size_nat) (by simp only [natC_size]) (natC_one _) ?_
   clear r8
   intro z5007 r8 k
   simp only [Act.put]
   replace r4 := k.row r4 (by simp <;> omega)
   replace r0 := k.row r0 (by simp <;> omega)
   replace r6 := k.row r6 (by simp <;> omega)
   replace r7 := k.row r7 (by simp <;> omega)
   replace sk := sk.trans k (by simp <;> omega)
   clear k
   refine pw_as (by rfl) rfl rfl ?_
   simp only [Act.put, pu]
   refine pw_nil ?_
   clear hf
   (repeat ((fail_if_success with_reducible refine rg ?_); go_step))
   refine wp_region_pw ?_
   refine pw_mv (by rfl) rfl rfl ?_
   simp only [Act.put, pu]
   refine pw_value (by rfl) (.bool true) (exec_neq_k .i64 _ _ _ _ rfl 5 0 rfl rfl true rfl) ?_
   simp only [Act.put, pu]
   refine pw_nil ?_
   (repeat ((fail_if_success with_reducible refine rg ?_); go_step))
   refine wp_region_pw ?_
   refine pw_value (by rfl) (.agg (natC 0)) (exec_build0 _ rfl _ built_nat) ?_
   simp only [Act.put, pu]
   refine pw_mv (by rfl) rfl rfl ?_
   simp only [Act.put, pu]
   refine pw_put (by rfl) 35 _ _ rfl _ rfl r4 (natC 0) rfl (by exact size_nat) (by simp only [natC_size]) (natC_one _) ?_
   clear r4
   intro z7002 r4 k
   simp only [Act.put]
   replace r0 := k.row r0 (by simp <;> omega)
   replace sk := sk.trans k (by simp <;> omega)
   clear k
   refine pw_as (by rfl) rfl rfl ?_
   simp only [Act.put, pu]
   refine pw_nil ?_
   go_wp2
   obtain ⟨e1, e2, _, e4, _⟩ := dr_none HD.out
   exact ret_row2 rfl _ rfl r4 4 _ Tryd.underlying35 (by exact size_nat) rfl _ rfl ⟨by rw [e1, e4]; rfl, by rw [e2]; exact r0, sk⟩
  ·have hlt : tryN q (u.take (byN q)) < 2 ^ 256 := by
    unfold tryN
    exact Nat.lt_of_lt_of_le (Nat.mod_lt _ (Nat.two_pow_pos _)) (Nat.pow_le_pow_right (by decide) HH.out.2.2.1)
   have hu' : byN q ≤ u.length := Nat.le_of_not_lt hf
   have hok' := fun w' hr => hok g7 u w' hu' hr
   have e0 : natB (u.take (byN q)) % 2 ^ bitLen q = tryN q (u.take (byN q)) := rfl
   rw [e0] at hok'
   have hc' := fun w' => hcmp (tryN q (u.take (byN q))) w' hlt
   have hneg := cmp_neg (tryN q (u.take (byN q))) q
   clear e0 hok hcmp hfew
   by_cases ht : tryN q (u.take (byN q)) < q
   ·have HD : Hid (drw q s = some (tryN q (u.take (byN q)), u.drop (byN q))) := by show drw q s = _; rw [← hu.out, drwR_hit hf ht]
    rw [decide_eq_true ht] at hneg
    clear hu hul hu' hlt
    generalize tryN q (u.take (byN q)) = X at *
    generalize u.drop (byN q) = u2 at *
    clear hf ht
    (repeat ((fail_if_success with_reducible refine rg ?_); go_step))
    refine wp_region_pw ?_
    refine pw_loadm (by rfl) 35 _ rfl _ 0 rfl r6.r _ (part_all _) _ Tryd.underlying35 rfl size_nat ?_
    simp only [Act.put, pu]
    refine pw_callB (by rfl) 35 _ _ rfl Tryd.func35 (by kernel_rfl) #[.agg (natC q)] rfl _ (hl _) ?_
    intro z5001 k
    simp only [Act.put, pu]
    replace r4 := k.row r4 (by simp <;> omega)
    replace r0 := k.row r0 (by simp <;> omega)
    replace r6 := k.row r6 (by simp <;> omega)
    replace r7 := k.row r7 (by simp <;> omega)
    replace sk := sk.trans k (by simp <;> omega)
    clear k
    refine pw_callE (by rfl) 34 _ _ rfl Tryd.func34 (by kernel_rfl) #[.pointer (some ⟨g7, 0, none⟩), .int .i64 (bitLen q : Nat)] rfl (hok' _ r7) ?_
    clear r7
    rintro _ z5002 ⟨rfl, r7, k⟩
    refine ⟨_, rfl, ?_⟩
    simp only [Act.put, pu]
    replace r4 := k.row r4 (by simp <;> omega)
    replace r0 := k.row r0 (by simp <;> omega)
    replace r6 := k.row r6 (by simp <;> omega)
    replace sk := sk.trans k (by simp <;> omega)
    clear k
    refine pw_mv (by rfl) rfl rfl ?_
    simp only [Act.put, pu]
    refine pw_ext (by rfl) rfl rfl rfl ?_
    simp only [Act.put, pu]
    refine pw_ext (by rfl) rfl rfl rfl ?_
    simp only [Act.put, pu]
    refine pw_new (by rfl) 35 rfl _ zero_nat ?_
    intro g8 z5006 n0 r8 k
    simp only [Act.put, pu]
    have d4x8 := Nat.lt_of_lt_of_le r4.lt n0
    have d0x8 := Nat.lt_of_lt_of_le r0.lt n0
    have d6x8 := Nat.lt_of_lt_of_le r6.lt n0
    have d7x8 := Nat.lt_of_lt_of_le r7.lt n0
    have b8 := Nat.le_trans sk.size n0
    clear n0
    replace r4 := k.row r4 (by simp <;> omega)
    replace r0 := k.row r0 (by simp <;> omega)
    replace r6 := k.row r6 (by simp <;> omega)
    replace r7 := k.row r7 (by simp <;> omega)
    replace sk := sk.trans k (by simp <;> omega)
    clear k
    refine pw_put (by rfl) 35 _ _ rfl _ rfl r8 (natC X) rfl (by exact size_nat) (by simp only [natC_size]) (natC_one _) ?_
    clear r8
    intro z5007 r8 k
    simp only [Act.put]
    replace r4 := k.row r4 (by simp <;> omega)
    replace r0 := k.row r0 (by simp <;> omega)
    replace r6 := k.row r6 (by simp <;> omega)
    replace r7 := k.row r7 (by simp <;> omega)
    replace sk := sk.trans k (by simp <;> omega)
    clear k
    refine pw_as (by rfl) rfl rfl ?_
    simp only [Act.put, pu]
    refine pw_nil ?_
    clear hok'
    (repeat ((fail_if_success with_reducible refine rg ?_); go_step))
    refine wp_region_pw ?_
    refine pw_mv (by rfl) rfl rfl ?_
    simp only [Act.put, pu]
    refine pw_value (by rfl) (.bool false) (exec_neq_k .i64 _ _ _ _ rfl 0 0 rfl rfl false rfl) ?_
    simp only [Act.put, pu]
    refine pw_nil ?_
    (repeat ((fail_if_success with_reducible refine rg ?_); go_step))
    refine wp_region_pw ?_
    refine pw_loadm (by rfl) 35 _ rfl _ 0 rfl r8.r _ (part_all _) _ Tryd.underlying35 rfl size_nat ?_
    simp only [Act.put, pu]
    refine pw_loadm (by rfl) 35 _ rfl _ 0 rfl r6.r _ (part_all _) _ Tryd.underlying35 rfl size_nat ?_
    simp only [Act.put, pu]
    refine pw_callB (by rfl) 36 _ _ rfl Tryd.func36 (by kernel_rfl) #[.agg (natC X), .agg (natC q)] rfl _ (hc' _) ?_
    intro z8002 k
    simp only [Act.put, pu]
    replace r4 := k.row r4 (by simp <;> omega)
    replace r0 := k.row r0 (by simp <;> omega)
    replace r6 := k.row r6 (by simp <;> omega)
    replace r7 := k.row r7 (by simp <;> omega)
    replace r8 := k.row r8 (by simp <;> omega)
    replace sk := sk.trans k (by simp <;> omega)
    clear k
    refine pw_value (by rfl) (.bool true) (exec_lt_b _ _ _ _ rfl (cmpI X q) 0 rfl rfl true hneg) ?_
    simp only [Act.put, pu]
    refine pw_nil ?_
    (repeat ((fail_if_success with_reducible refine rg ?_); go_step))
    refine wp_region_pw ?_
    refine pw_mv (by rfl) rfl rfl ?_
    simp only [Act.put, pu]
    refine pw_loadm (by rfl) 62 _ rfl _ 0 rfl r7.r _ (part_all _) _ Tryd.underlying62 rfl size_tp ?_
    simp only [Act.put, pu]
    refine pw_value (by rfl) (.pointer (some ⟨g0, 0, none⟩)) (exec_nil _ rfl g0 0 rfl) ?_
    simp only [Act.put, pu]
    refine pw_put (by rfl) 62 _ _ rfl _ rfl r0 (tpC true u2) rfl (by exact size_tp) (by rfl) (tp_one _ _) ?_
    clear r0
    intro z9003 r0 k
    simp only [Act.put]
    replace r4 := k.row r4 (by simp <;> omega)
    replace r6 := k.row r6 (by simp <;> omega)
    replace r7 := k.row r7 (by simp <;> omega)
    replace r8 := k.row r8 (by simp <;> omega)
    replace sk := sk.trans k (by simp <;> omega)
    clear k
    refine pw_nil ?_
    (repeat ((fail_if_success with_reducible refine rg ?_); go_step))
    refine wp_region_pw ?_
    refine pw_loadm (by rfl) 35 _ rfl _ 0 rfl r8.r _ (part_all _) _ Tryd.underlying35 rfl size_nat ?_
    simp only [Act.put, pu]
    refine pw_put (by rfl) 35 _ _ rfl _ rfl r4 (natC X) rfl (by exact size_nat) (by simp only [natC_size]) (natC_one _) ?_
    clear r4
    intro z10001 r4 k
    simp only [Act.put]
    replace r0 := k.row r0 (by simp <;> omega)
    replace r8 := k.row r8 (by simp <;> omega)
    replace sk := sk.trans k (by simp <;> omega)
    clear k
    refine pw_value (by rfl) (.int .i64 0) (fun _ => rfl) ?_
    simp only [Act.put, pu]
    refine pw_nil ?_
    go_wp2
    obtain ⟨e1, e2, _, e4, _⟩ := dr_some HD.out
    exact ret_row2 rfl _ rfl r4 4 _ Tryd.underlying35 (by exact size_nat) rfl _ rfl ⟨by rw [e1, e4]; rfl, by rw [e2]; exact r0, sk⟩
   ·cases gk with
    | zero => exact absurd HH.out.2.2.2.1 (by omega)
    | succ g =>
    have hu2 : Hid (drwR q (g + 1) (u.drop (byN q)) = drw q s) := by show drwR q (g + 1) (u.drop (byN q)) = drw q s; rw [← hu.out, drwR_miss hf ht]
    have hl2 : (u.drop (byN q)).length ≤ g := by
     have := HH.out.2.2.2.1
     rw [List.length_drop]
     omega
    rw [decide_eq_false ht] at hneg
    clear hu hul hu' hlt
    generalize tryN q (u.take (byN q)) = X at *
    generalize u.drop (byN q) = u2 at *
    clear hf ht
    (repeat ((fail_if_success with_reducible refine rg ?_); go_step))
    refine wp_region_pw ?_
    refine pw_loadm (by rfl) 35 _ rfl _ 0 rfl r6.r _ (part_all _) _ Tryd.underlying35 rfl size_nat ?_
    simp only [Act.put, pu]
    refine pw_callB (by rfl) 35 _ _ rfl Tryd.func35 (by kernel_rfl) #[.agg (natC q)] rfl _ (hl _) ?_
    intro z5001 k
    simp only [Act.put, pu]
    replace r4 := k.row r4 (by simp <;> omega)
    replace r0 := k.row r0 (by simp <;> omega)
    replace r6 := k.row r6 (by simp <;> omega)
    replace r7 := k.row r7 (by simp <;> omega)
    replace sk := sk.trans k (by simp <;> omega)
    clear k
    refine pw_callE (by rfl) 34 _ _ rfl Tryd.func34 (by kernel_rfl) #[.pointer (some ⟨g7, 0, none⟩), .int .i64 (bitLen q : Nat)] rfl (hok' _ r7) ?_
    clear r7
    rintro _ z5002 ⟨rfl, r7, k⟩
    refine ⟨_, rfl, ?_⟩
    simp only [Act.put, pu]
    replace r4 := k.row r4 (by simp <;> omega)
    replace r0 := k.row r0 (by simp <;> omega)
    replace r6 := k.row r6 (by simp <;> omega)
    replace sk := sk.trans k (by simp <;> omega)
    clear k
    refine pw_mv (by rfl) rfl rfl ?_
    simp only [Act.put, pu]
    refine pw_ext (by rfl) rfl rfl rfl ?_
    simp only [Act.put, pu]
    refine pw_ext (by rfl) rfl rfl rfl ?_
    simp only [Act.put, pu]
    refine pw_new (by rfl) 35 rfl _ zero_nat ?_
    intro g8 z5006 n0 r8 k
    simp only [Act.put, pu]
    have d4x8 := Nat.lt_of_lt_of_le r4.lt n0
    have d0x8 := Nat.lt_of_lt_of_le r0.lt n0
    have d6x8 := Nat.lt_of_lt_of_le r6.lt n0
    have d7x8 := Nat.lt_of_lt_of_le r7.lt n0
    have b8 := Nat.le_trans sk.size n0
    clear n0
    replace r4 := k.row r4 (by simp <;> omega)
    replace r0 := k.row r0 (by simp <;> omega)
    replace r6 := k.row r6 (by simp <;> omega)
    replace r7 := k.row r7 (by simp <;> omega)
    replace sk := sk.trans k (by simp <;> omega)
    clear k
    refine pw_put (by rfl) 35 _ _ rfl _ rfl r8 (natC X) rfl (by exact size_nat) (by simp only [natC_size]) (natC_one _) ?_
    clear r8
    intro z5007 r8 k
    simp only [Act.put]
    replace r4 := k.row r4 (by simp <;> omega)
    replace r0 := k.row r0 (by simp <;> omega)
    replace r6 := k.row r6 (by simp <;> omega)
    replace r7 := k.row r7 (by simp <;> omega)
    replace sk := sk.trans k (by simp <;> omega)
    clear k
    refine pw_as (by rfl) rfl rfl ?_
    simp only [Act.put, pu]
    refine pw_nil ?_
    clear hok'
    (repeat ((fail_if_success with_reducible refine rg ?_); go_step))
    refine wp_region_pw ?_
    refine pw_mv (by rfl) rfl rfl ?_
    simp only [Act.put, pu]
    refine pw_value (by rfl) (.bool false) (exec_neq_k .i64 _ _ _ _ rfl 0 0 rfl rfl false rfl) ?_
    simp only [Act.put, pu]
    refine pw_nil ?_
    (repeat ((fail_if_success with_reducible refine rg ?_); go_step))
    refine wp_region_pw ?_
    refine pw_loadm (by rfl) 35 _ rfl _ 0 rfl r8.r _ (part_all _) _ Tryd.underlying35 rfl size_nat ?_
    simp only [Act.put, pu]
    refine pw_loadm (by rfl) 35 _ rfl _ 0 rfl r6.r _ (part_all _) _ Tryd.underlying35 rfl size_nat ?_
    simp only [Act.put, pu]
    refine pw_callB (by rfl) 36 _ _ rfl Tryd.func36 (by kernel_rfl) #[.agg (natC X), .agg (natC q)] rfl _ (hc' _) ?_
    intro z8002 k
    simp only [Act.put, pu]
    replace r4 := k.row r4 (by simp <;> omega)
    replace r0 := k.row r0 (by simp <;> omega)
    replace r6 := k.row r6 (by simp <;> omega)
    replace r7 := k.row r7 (by simp <;> omega)
    replace r8 := k.row r8 (by simp <;> omega)
    replace sk := sk.trans k (by simp <;> omega)
    clear k
    refine pw_value (by rfl) (.bool false) (exec_lt_b _ _ _ _ rfl (cmpI X q) 0 rfl rfl false hneg) ?_
    simp only [Act.put, pu]
    refine pw_nil ?_
    go_wp2
    go_roundg g
    case measure => omega
    case rel => exact ⟨u2, hu2, hl2, r4, r0, r6, r7, sk⟩
end Go.Proofs.YtlacmkliofnjcaaDoor
/- tape's Draws. -/
namespace Go.Proofs.YtlacmkliofnjcaaDoor
open Go.RowKit
set_option linter.unusedVariables false
theorem sl_natsX : Tryd.prog.underlying 43 = some (.slice (Tryd.prog.elem 43)) := by kernel_rfl
set_option maxRecDepth 100000 in
set_option maxHeartbeats 2000000 in
theorem tdraws_no (v x : Option Addr) (n : Int) (s : List UInt8) (w : World) (h : TpAt w x false s) :
  Calls Tryd.prog 17 #[.pointer x, .pointer v, .int .i64 n] w fun e w' => e = .returned (.tuple #[.slice none 0 0, .int .i64 1]) ∧ Below w.heap.size w w' := by
 have him := fun w' (hb : Below w.heap.size w w') => isMade_any x false s w' (h.below hb)
 clear h
 go_enter Tryd.func17, Tryd.ntmps17
 have sb := sbmk w
 (repeat ((fail_if_success with_reducible refine rg ?_); go_step))
 refine wp_region_pw ?_
 refine pw_move (by rfl) (.inr rfl) rfl ?_
 simp only [Act.put, pu]
 refine pw_value (by rfl) (.int .i64 0) (fun _ => rfl) ?_
 simp only [Act.put, pu]
 refine pw_nil ?_
 (repeat ((fail_if_success with_reducible refine rg ?_); go_step))
 refine wp_region_pw ?_
 refine pw_mv (by rfl) rfl rfl ?_
 simp only [Act.put, pu]
 refine pw_callB (by rfl) 24 _ _ rfl Tryd.func24 (by kernel_rfl) #[.pointer x] rfl _ (him _ sb) ?_
 intro z1001 k
 simp only [Act.put, pu]
 replace sb := sb.trans (k.below w.heap.size sb.size (by simp <;> omega))
 clear k
 refine pw_value (by rfl) (.bool true) (exec_not _ _ rfl false rfl) ?_
 simp only [Act.put, pu]
 refine pw_mv (by rfl) rfl rfl ?_
 simp only [Act.put, pu]
 refine pw_skip (by rfl) ?_
 simp only [Act.put, pu]
 refine pw_skip (by rfl) ?_
 simp only [Act.put, pu]
 refine pw_skip (by rfl) ?_
 simp only [Act.put, pu]
 refine pw_pick (by rfl) true (v := .bool true) rfl rfl rfl ?_
 simp only [Act.put, pu]
 refine pw_mv (by rfl) rfl rfl ?_
 simp only [Act.put, pu]
 refine pw_skip (by rfl) ?_
 simp only [Act.put, pu]
 refine pw_skip (by rfl) ?_
 simp only [Act.put, pu]
 refine pw_pick (by rfl) true (v := .bool true) rfl rfl rfl ?_
 simp only [Act.put, pu]
 refine pw_nil ?_
 (repeat ((fail_if_success with_reducible refine rg ?_); go_step))
 refine wp_region_pw ?_
 refine pw_move (by rfl) (.inr rfl) rfl ?_
 simp only [Act.put, pu]
 refine pw_value (by rfl) (.int .i64 1) (fun _ => rfl) ?_
 simp only [Act.put, pu]
 refine pw_nil ?_
 go_wp2
 go_ret2
 exact ⟨rfl, sb⟩
set_option maxRecDepth 100000 in
set_option maxHeartbeats 2000000 in
theorem tdraws_neg (g0 : Nat) (v : Option Addr) (P q G : Nat) (r f : Option Addr) (n : Int) (s : List UInt8) (w : World) (hn : n < 0) (h0 : 0 < q) (h1 : q < 2 ^ 256) (r0 : Row w g0 (tpC true s) 62) (h : KnAt w v P q G r f) :
  Calls Tryd.prog 17 #[.pointer (some ⟨g0, 0, none⟩), .pointer v, .int .i64 n] w fun e w' => e = .returned (.tuple #[.slice none 0 0, .int .i64 1]) ∧ Below w.heap.size w w' := by
 have hig := fun w' (hb : Below w.heap.size w w') => isGroup_yes v P q G r f w' h0 h1 (h.below hb)
 clear h h1
 go_enter Tryd.func17, Tryd.ntmps17
 have sb := sbmk w
 (repeat ((fail_if_success with_reducible refine rg ?_); go_step))
 refine wp_region_pw ?_
 refine pw_move (by rfl) (.inr rfl) rfl ?_
 simp only [Act.put, pu]
 refine pw_value (by rfl) (.int .i64 0) (fun _ => rfl) ?_
 simp only [Act.put, pu]
 refine pw_nil ?_
 (repeat ((fail_if_success with_reducible refine rg ?_); go_step))
 refine wp_region_pw ?_
 refine pw_mv (by rfl) rfl rfl ?_
 simp only [Act.put, pu]
 refine pw_callB (by rfl) 24 _ _ rfl Tryd.func24 (by kernel_rfl) #[.pointer (some ⟨g0, 0, none⟩)] rfl _ (isMade_at g0 true s _ r0) ?_
 intro z1001 k
 simp only [Act.put, pu]
 replace r0 := k.row r0 (by simp <;> omega)
 replace sb := sb.trans (k.below w.heap.size sb.size (by simp <;> omega))
 clear k
 refine pw_value (by rfl) (.bool false) (exec_not _ _ rfl true rfl) ?_
 simp only [Act.put, pu]
 refine pw_mv (by rfl) rfl rfl ?_
 simp only [Act.put, pu]
 refine pw_mv (by rfl) rfl rfl ?_
 simp only [Act.put, pu]
 refine pw_callB (by rfl) 32 _ _ rfl Tryd.func32 (by kernel_rfl) #[.pointer v] rfl _ (hig _ sb) ?_
 intro z1005 k
 simp only [Act.put, pu]
 replace r0 := k.row r0 (by simp <;> omega)
 replace sb := sb.trans (k.below w.heap.size sb.size (by simp <;> omega))
 clear k
 refine pw_value (by rfl) (.bool false) (exec_not _ _ rfl true rfl) ?_
 simp only [Act.put, pu]
 refine pw_pick (by rfl) false (v := .bool false) rfl rfl rfl ?_
 simp only [Act.put, pu]
 refine pw_mv (by rfl) rfl rfl ?_
 simp only [Act.put, pu]
 refine pw_mv (by rfl) rfl rfl ?_
 simp only [Act.put, pu]
 refine pw_value (by rfl) (.bool true) (exec_lt_b _ _ _ _ rfl n 0 rfl rfl true (decide_eq_true hn)) ?_
 simp only [Act.put, pu]
 refine pw_pick (by rfl) false (v := .bool true) rfl rfl rfl ?_
 simp only [Act.put, pu]
 refine pw_nil ?_
 (repeat ((fail_if_success with_reducible refine rg ?_); go_step))
 refine wp_region_pw ?_
 refine pw_move (by rfl) (.inr rfl) rfl ?_
 simp only [Act.put, pu]
 refine pw_value (by rfl) (.int .i64 1) (fun _ => rfl) ?_
 simp only [Act.put, pu]
 refine pw_nil ?_
 go_wp2
 go_ret2
 exact ⟨rfl, sb⟩
set_option maxRecDepth 100000 in
set_option maxHeartbeats 2000000 in
theorem tdraws_ok (g0 : Nat) (v : Option Addr) (P q G : Nat) (r f : Option Addr) (n : Nat) (s : List UInt8) (w : World) (hn : n ≤ 1000) (h0 : 0 < q) (h1 : q < 2 ^ 256) (r0 : Row w g0 (tpC true s) 62) (h : KnAt w v P q G r f) :
  Calls Tryd.prog 17 #[.pointer (some ⟨g0, 0, none⟩), .pointer v, .int .i64 n] w fun e w' => ∃ vl, e = .returned (.tuple #[vl, .int .i64 (dwE q s n)]) ∧ OwnN w' w.heap.size vl (dwN q s n) (dwf q s) ∧ Row w' g0 (tpC true (dwT q s n)) 62 ∧ Kept [g0] w w' := by
 have hig := fun w' (hb : Below w.heap.size w w') => isGroup_yes v P q G r f w' h0 h1 (h.below hb)
 have hdr := fun (x : Nat) (u : List UInt8) w' (hb : Below w.heap.size w w') (hr : Row w' x (tpC true u) 62) => tdraw_ok x v P q G r f u w' h0 h1 hr (h.below hb)
 obtain ⟨ie, hie, hz, hsz, _⟩ := info_nat'
 have hs1 : ¬ 1 * ie.size > 2 ^ 24 := by rw [hsz]; decide
 have hs2 : ¬ 1 * ie.size = 0 := by rw [hsz]; decide
 have hl1 := fun A => lit_one A ie.size hsz
 clear h h1 h0
 have hlt0 := r0.lt
 go_enter Tryd.func17, Tryd.ntmps17
 have sb := sbmk w
 (repeat ((fail_if_success with_reducible refine rg ?_); go_step))
 refine wp_region_pw ?_
 refine pw_move (by rfl) (.inr rfl) rfl ?_
 simp only [Act.put, pu]
 refine pw_value (by rfl) (.int .i64 0) (fun _ => rfl) ?_
 simp only [Act.put, pu]
 refine pw_nil ?_
 (repeat ((fail_if_success with_reducible refine rg ?_); go_step))
 refine wp_region_pw ?_
 refine pw_mv (by rfl) rfl rfl ?_
 simp only [Act.put, pu]
 refine pw_callB (by rfl) 24 _ _ rfl Tryd.func24 (by kernel_rfl) #[.pointer (some ⟨g0, 0, none⟩)] rfl _ (isMade_at g0 true s _ r0) ?_
 intro z1001 k
 simp only [Act.put, pu]
 replace r0 := k.row r0 (by simp <;> omega)
 replace sb := sb.trans (k.below w.heap.size sb.size (by simp <;> omega))
 clear k
 refine pw_value (by rfl) (.bool false) (exec_not _ _ rfl true rfl) ?_
 simp only [Act.put, pu]
 refine pw_mv (by rfl) rfl rfl ?_
 simp only [Act.put, pu]
 refine pw_mv (by rfl) rfl rfl ?_
 simp only [Act.put, pu]
 refine pw_callB (by rfl) 32 _ _ rfl Tryd.func32 (by kernel_rfl) #[.pointer v] rfl _ (hig _ sb) ?_
 intro z1005 k
 simp only [Act.put, pu]
 replace r0 := k.row r0 (by simp <;> omega)
 replace sb := sb.trans (k.below w.heap.size sb.size (by simp <;> omega))
 clear k
 refine pw_value (by rfl) (.bool false) (exec_not _ _ rfl true rfl) ?_
 simp only [Act.put, pu]
 refine pw_pick (by rfl) false (v := .bool false) rfl rfl rfl ?_
 simp only [Act.put, pu]
 refine pw_mv (by rfl) rfl rfl ?_
 simp only [Act.put, pu]
 refine pw_mv (by rfl) rfl rfl ?_
 simp only [Act.put, pu]
 refine pw_value (by rfl) (.bool false) (exec_lt_b _ _ _ _ rfl (n : Int) 0 rfl rfl false (decide_eq_false (by omega))) ?_
 simp only [Act.put, pu]
 refine pw_pick (by rfl) false (v := .bool false) rfl rfl rfl ?_
 simp only [Act.put, pu]
 refine pw_nil ?_
 (repeat ((fail_if_success with_reducible refine rg ?_); go_step))
 refine wp_region_pw ?_
 refine pw_mv (by rfl) rfl rfl ?_
 simp only [Act.put, pu]
 refine pw_value (by rfl) (.pointer (some ⟨g0, 0, none⟩)) (exec_nil _ rfl g0 0 rfl) ?_
 simp only [Act.put, pu]
 refine pw_loadm (by rfl) 62 _ rfl _ 0 rfl r0.r _ (part_all _) _ Tryd.underlying62 rfl size_tp ?_
 simp only [Act.put, pu]
 refine pw_new (by rfl) 62 rfl _ zero_tp ?_
 intro g8 z3003 n0 r8 k
 simp only [Act.put, pu]
 have d0x8 := Nat.lt_of_lt_of_le r0.lt n0
 have b8 := Nat.le_trans sb.size n0
 clear n0
 replace r0 := k.row r0 (by simp <;> omega)
 replace sb := sb.trans (k.below w.heap.size sb.size (by simp <;> omega))
 clear k
 refine pw_put (by rfl) 62 _ _ rfl _ rfl r8 (tpC true s) rfl (by exact size_tp) (by rfl) (tp_one _ _) ?_
 clear r8
 intro z3004 r8 k
 simp only [Act.put]
 replace r0 := k.row r0 (by simp <;> omega)
 replace sb := sb.trans (k.below w.heap.size sb.size (by simp <;> omega))
 clear k
 refine pw_nil ?_
 clear hig
 (repeat ((fail_if_success with_reducible refine rg ?_); go_step))
 refine wp_region_pw ?_
 refine pw_value (by rfl) (.slice none 0 0) ((fun _ => rfl)) ?_
 simp only [Act.put, pu]
 refine pw_nil ?_
 (repeat ((fail_if_success with_reducible refine rg ?_); go_step))
 refine wp_region_pw ?_
 refine pw_mv (by rfl) rfl rfl ?_
 simp only [Act.put, pu]
 refine pw_value (by rfl) (.int .i64 0) (fun _ => rfl) ?_
 simp only [Act.put, pu]
 refine pw_nil ?_
 go_wp2_with fail
 go_loopg [9, 10, 11, 28] n (fun g s9 s10 s11 s28 wr => ∃ (i : Nat) (u : List UInt8), i + g = n ∧ s28 = .int .i64 i ∧ Hid (dst q s i = some u) ∧ OwnN wr w.heap.size s9 i (dwf q s) ∧ s9.ownBlock ≠ some g8 ∧ Row wr g0 (tpC true s) 62 ∧ Row wr g8 (tpC true u) 62 ∧ Below w.heap.size w wr)
 case atStart => exact ⟨0, s, by omega, rfl, (show dst q s 0 = some s from rfl), ownN_nil _ _ _, nofun, r0, r8, sb⟩
 case round =>
  clear r0 r8 sb
  obtain ⟨i, u, hi, rfl, hu, hL, ehLx8, r0, r8, sb⟩ := hrel
  cases gk with
  | zero =>
   obtain rfl : i = n := by omega
   clear hi hdr
   (repeat ((fail_if_success with_reducible refine rg ?_); go_step))
   refine wp_region_pw ?_
   refine pw_value (by rfl) (.bool false) (exec_lt_b _ _ _ _ rfl i i rfl rfl false (decide_eq_false (Int.lt_irrefl _))) ?_
   simp only [Act.put, pu]
   refine pw_nil ?_
   have sk := Kept.trans (Kept.refl [g0] w) (Kept.ofBelow sb) (by simp)
   have ehLx0 := hL.low hlt0
   clear sb
   (repeat ((fail_if_success with_reducible refine rg ?_); go_step))
   refine wp_region_pw ?_
   refine pw_mv (by rfl) rfl rfl ?_
   simp only [Act.put, pu]
   refine pw_loadm (by rfl) 62 _ rfl _ 0 rfl r8.r _ (part_all _) _ Tryd.underlying62 rfl size_tp ?_
   simp only [Act.put, pu]
   refine pw_value (by rfl) (.pointer (some ⟨g0, 0, none⟩)) (exec_nil _ rfl g0 0 rfl) ?_
   simp only [Act.put, pu]
   refine pw_put (by rfl) 62 _ _ rfl _ rfl r0 (tpC true u) rfl (by exact size_tp) (by rfl) (tp_one _ _) ?_
   clear r0
   intro z12003 r0 k
   simp only [Act.put]
   replace r8 := k.row r8 (by simp <;> omega)
   replace hL := hL.on k (own_ne1 ehLx0)
   replace sk := sk.trans k (by simp <;> omega)
   clear k
   refine pw_nil ?_
   (repeat ((fail_if_success with_reducible refine rg ?_); go_step))
   refine wp_region_pw ?_
   refine pw_mv (by rfl) rfl rfl ?_
   simp only [Act.put, pu]
   refine pw_as (by rfl) rfl rfl ?_
   simp only [Act.put, pu]
   refine pw_value (by rfl) (.int .i64 0) (fun _ => rfl) ?_
   simp only [Act.put, pu]
   refine pw_nil ?_
   go_wp2
   go_ret2
   obtain ⟨e1, e2, _, e4, _⟩ := dw_some hu.out
   exact ⟨_, by rw [e4]; rfl, by rw [e1]; exact hL, by rw [e2]; exact r0, sk⟩
  | succ g =>
   have hin : i < n := by omega
   cases hd : drw q u with
   | none =>
    have HD : Hid (dst q s n = none) := dst_stop hu.out hd hin
    have hdr' := fun w' hb hr => hdr g8 u w' hb hr
    obtain ⟨e1, e2, _, e4, _⟩ := dr_none hd
    rw [e1, e2, e4] at hdr'
    clear e1 e2 e4 hdr hu hd hi
    (repeat ((fail_if_success with_reducible refine rg ?_); go_step))
    refine wp_region_pw ?_
    refine pw_value (by rfl) (.bool true) (exec_lt_b _ _ _ _ rfl i n rfl rfl true (decide_eq_true (by omega))) ?_
    simp only [Act.put, pu]
    refine pw_nil ?_
    clear hin
    (repeat ((fail_if_success with_reducible refine rg ?_); go_step))
    refine wp_region_pw ?_
    refine pw_mv (by rfl) rfl rfl ?_
    simp only [Act.put, pu]
    refine pw_callE (by rfl) 18 _ _ rfl Tryd.func18 (by kernel_rfl) #[.pointer (some ⟨g8, 0, none⟩), .pointer v] rfl (hdr' _ sb r8) ?_
    clear r8
    rintro _ z7001 ⟨rfl, r8, k⟩
    refine ⟨_, rfl, ?_⟩
    simp only [Act.put, pu]
    replace r0 := k.row r0 (by simp <;> omega)
    replace hL := hL.on k (own_ne1 ehLx8)
    replace sb := sb.trans (k.below w.heap.size sb.size (by simp <;> omega))
    clear k
    refine pw_mv (by rfl) rfl rfl ?_
    simp only [Act.put, pu]
    refine pw_ext (by rfl) rfl rfl rfl ?_
    simp only [Act.put, pu]
    refine pw_ext (by rfl) rfl rfl rfl ?_
    simp only [Act.put, pu]
    refine pw_new (by rfl) 35 rfl _ zero_nat ?_
    intro g10 z7005 n0 r10 k
    simp only [Act.put, pu]
    have d0x10 := Nat.lt_of_lt_of_le r0.lt n0
    have d8x10 := Nat.lt_of_lt_of_le r8.lt n0
    have ehLx10 := hL.new n0
    have b10 := Nat.le_trans sb.size n0
    clear n0
    replace r0 := k.row r0 (by simp <;> omega)
    replace r8 := k.row r8 (by simp <;> omega)
    replace hL := hL.on k (own_ne0 _)
    replace sb := sb.trans (k.below w.heap.size sb.size (by simp <;> omega))
    clear k
    refine pw_put (by rfl) 35 _ _ rfl _ rfl r10 (natC 0) rfl (by exact size_nat) (by simp only [natC_size]) (natC_one _) ?_
    clear r10
    intro z7006 r10 k
    simp only [Act.put]
    replace r0 := k.row r0 (by simp <;> omega)
    replace r8 := k.row r8 (by simp <;> omega)
    replace hL := hL.on k (own_ne1 ehLx10)
    replace sb := sb.trans (k.below w.heap.size sb.size (by simp <;> omega))
    clear k
    refine pw_as (by rfl) rfl rfl ?_
    simp only [Act.put, pu]
    refine pw_nil ?_
    (repeat ((fail_if_success with_reducible refine rg ?_); go_step))
    refine wp_region_pw ?_
    refine pw_mv (by rfl) rfl rfl ?_
    simp only [Act.put, pu]
    refine pw_value (by rfl) (.bool true) (exec_neq_k .i64 _ _ _ _ rfl 5 0 rfl rfl true rfl) ?_
    simp only [Act.put, pu]
    refine pw_nil ?_
    (repeat ((fail_if_success with_reducible refine rg ?_); go_step))
    refine wp_region_pw ?_
    refine pw_mv (by rfl) rfl rfl ?_
    simp only [Act.put, pu]
    refine pw_value (by rfl) (.slice none 0 0) ((fun _ => rfl)) ?_
    simp only [Act.put, pu]
    refine pw_as (by rfl) rfl rfl ?_
    simp only [Act.put, pu]
    refine pw_nil ?_
    go_wp2
    go_ret2
    obtain ⟨e1, e2, _, e4, _⟩ := dw_none HD.out
    exact ⟨_, by rw [e4]; rfl, by rw [e1]; exact ownN_nil _ _ _, by rw [e2]; exact r0, Kept.trans (Kept.refl [g0] w) (Kept.ofBelow sb) (by simp)⟩
   | some y =>
    obtain ⟨x, tl⟩ := y
    obtain ⟨hnx, hfx⟩ := dst_next hu.out hd
    have HD : Hid (dst q s (i + 1) = some tl) := hnx
    have HF : Hid (dwf q s i = x) := hfx
    have hdr' := fun w' hb hr => hdr g8 u w' hb hr
    obtain ⟨e1, e2, _, e4, _⟩ := dr_some hd
    rw [e1, e2, e4] at hdr'
    clear e1 e2 e4 hdr hu hd hnx hfx
    (repeat ((fail_if_success with_reducible refine rg ?_); go_step))
    refine wp_region_pw ?_
    refine pw_value (by rfl) (.bool true) (exec_lt_b _ _ _ _ rfl i n rfl rfl true (decide_eq_true (by omega))) ?_
    simp only [Act.put, pu]
    refine pw_nil ?_
    (repeat ((fail_if_success with_reducible refine rg ?_); go_step))
    refine wp_region_pw ?_
    refine pw_mv (by rfl) rfl rfl ?_
    simp only [Act.put, pu]
    refine pw_callE (by rfl) 18 _ _ rfl Tryd.func18 (by kernel_rfl) #[.pointer (some ⟨g8, 0, none⟩), .pointer v] rfl (hdr' _ sb r8) ?_
    clear r8
    rintro _ z7001 ⟨rfl, r8, k⟩
    refine ⟨_, rfl, ?_⟩
    simp only [Act.put, pu]
    replace r0 := k.row r0 (by simp <;> omega)
    replace hL := hL.on k (own_ne1 ehLx8)
    replace sb := sb.trans (k.below w.heap.size sb.size (by simp <;> omega))
    clear k
    refine pw_mv (by rfl) rfl rfl ?_
    simp only [Act.put, pu]
    refine pw_ext (by rfl) rfl rfl rfl ?_
    simp only [Act.put, pu]
    refine pw_ext (by rfl) rfl rfl rfl ?_
    simp only [Act.put, pu]
    refine pw_new (by rfl) 35 rfl _ zero_nat ?_
    intro g10 z7005 n0 r10 k
    simp only [Act.put, pu]
    have d0x10 := Nat.lt_of_lt_of_le r0.lt n0
    have d8x10 := Nat.lt_of_lt_of_le r8.lt n0
    have ehLx10 := hL.new n0
    have b10 := Nat.le_trans sb.size n0
    clear n0
    replace r0 := k.row r0 (by simp <;> omega)
    replace r8 := k.row r8 (by simp <;> omega)
    replace hL := hL.on k (own_ne0 _)
    replace sb := sb.trans (k.below w.heap.size sb.size (by simp <;> omega))
    clear k
    refine pw_put (by rfl) 35 _ _ rfl _ rfl r10 (natC x) rfl (by exact size_nat) (by simp only [natC_size]) (natC_one _) ?_
    clear r10
    intro z7006 r10 k
    simp only [Act.put]
    replace r0 := k.row r0 (by simp <;> omega)
    replace r8 := k.row r8 (by simp <;> omega)
    replace hL := hL.on k (own_ne1 ehLx10)
    replace sb := sb.trans (k.below w.heap.size sb.size (by simp <;> omega))
    clear k
    refine pw_as (by rfl) rfl rfl ?_
    simp only [Act.put, pu]
    refine pw_nil ?_
    (repeat ((fail_if_success with_reducible refine rg ?_); go_step))
    refine wp_region_pw ?_
    refine pw_mv (by rfl) rfl rfl ?_
    simp only [Act.put, pu]
    refine pw_value (by rfl) (.bool false) (exec_neq_k .i64 _ _ _ _ rfl 0 0 rfl rfl false rfl) ?_
    simp only [Act.put, pu]
    refine pw_nil ?_
    have hl1' := hl1 x
    (repeat ((fail_if_success with_reducible refine rg ?_); go_step))
    refine wp_region_pw ?_
    refine pw_mv (by rfl) rfl rfl ?_
    simp only [Act.put, pu]
    refine pw_loadm (by rfl) 35 _ rfl _ 0 rfl r10.r _ (part_all _) _ Tryd.underlying35 rfl size_nat ?_
    simp only [Act.put, pu]
    refine pw_litr (by rfl) 43 35 1 _ rfl (natC x) ie _ Tryd.underlying43 hie hz hs1 hs2 [(0, .agg (natC x))] rfl hl1' ?_
    intro gX z10002 n0 rX k
    simp only [Act.put, pu]
    have d0xX := Nat.lt_of_lt_of_le r0.lt n0
    have d8xX := Nat.lt_of_lt_of_le r8.lt n0
    have d10xX := Nat.lt_of_lt_of_le r10.lt n0
    have ehLxX := hL.new n0
    have bX := Nat.le_trans sb.size n0
    clear n0
    replace r0 := k.row r0 (by simp <;> omega)
    replace r8 := k.row r8 (by simp <;> omega)
    replace r10 := k.row r10 (by simp <;> omega)
    replace hL := hL.on k (own_ne0 _)
    replace sb := sb.trans (k.below w.heap.size sb.size (by simp <;> omega))
    clear k
    refine pw_appN (by rfl) _ _ rfl (w.heap.size) (_) (i) (dwf q s) rfl hL gX _ rfl (by rw [HF.out]; exact rX) (by omega) sb.size ?_
    have h0 := hL
    clear hL
    intro v1 z10003 hL k hp
    simp only [Act.put, pu]
    have cr0 := r0.lt
    replace r0 := k.row r0 (by first | exact own_nin ehLx0 | exact own_nin (h0.low (by omega)))
    have cr8 := r8.lt
    replace r8 := k.row r8 (by first | exact own_nin ehLx8 | exact own_nin (h0.low (by omega)))
    have cr10 := r10.lt
    replace r10 := k.row r10 (by first | exact own_nin ehLx10 | exact own_nin (h0.low (by omega)))
    have crX := rX.lt
    replace rX := k.row rX (by first | exact own_nin ehLxX | exact own_nin (h0.low (by omega)))
    (try replace ehLx0 := own_apart hp cr0 ehLx0)
    clear cr0
    (try replace ehLx8 := own_apart hp cr8 ehLx8)
    clear cr8
    (try replace ehLx10 := own_apart hp cr10 ehLx10)
    clear cr10
    (try replace ehLxX := own_apart hp crX ehLxX)
    clear crX
    clear hp
    replace sb := sb.trans (k.below w.heap.size sb.size h0.base)
    clear h0
    clear k
    refine pw_as (by rfl) rfl rfl ?_
    simp only [Act.put, pu]
    refine pw_nil ?_
    (repeat ((fail_if_success with_reducible refine rg ?_); go_step))
    refine wp_region_pw ?_
    refine pw_value (by rfl) (.int .i64 ((i + 1 : Nat) : Int)) (exec_add_in _ _ _ _ rfl i 1 rfl rfl (by omega)) ?_
    simp only [Act.put, pu]
    refine pw_mv (by rfl) rfl rfl ?_
    simp only [Act.put, pu]
    refine pw_nil ?_
    go_wp2
    go_roundg g
    case measure => omega
    case rel => exact ⟨i + 1, tl, by omega, rfl, HD, hL, ehLx8, r0, r8, sb⟩
end Go.Proofs.YtlacmkliofnjcaaDoor
