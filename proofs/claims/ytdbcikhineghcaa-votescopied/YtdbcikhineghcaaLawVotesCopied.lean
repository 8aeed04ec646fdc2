/- VotesCopied: for any votes, up to 40 of few bytes, and one more: a copy has the same votes, and goes its own way; votes that nobody made answer nothing; no condition. -/
import Derived.Test.YtdbcikhineghcaaVtOpen
namespace Go.Proofs.Ytdbcikhineghcaa
open Go.ChangeShapes Go.WideShapes Go.ChangeAt Go.RowKit
set_option linter.unusedVariables false
set_option linter.unusedSectionVars false
set_option linter.unusedSimpArgs false
namespace votesCopiedP
/-- Votes that New did not give. -/
def NoV (w : World) (q : Option Addr) : Prop := q = none ∨ ∃ g, q = some ⟨g, 0, none⟩ ∧ Row w g (voC 0 fun _ => vt0) 51
theorem NoV.below {w w2 : World} {q : Option Addr} (h : NoV w q) (hb : Below w.heap.size w w2) : NoV w2 q := h.imp id fun ⟨g, e, r⟩ => ⟨g, e, r.belowAll hb⟩
theorem nov_put {w : World} {q : Option Addr} (h : NoV w q) (k s c : Int) (d : List UInt8) : Calls Try.prog 10 #[.pointer q, .int .i64 k, .agg (tsC s c), .string ⟨d.toArray⟩] w fun e w' => e = .returned (.bool false) ∧ Below w.heap.size w w' := by
 rcases h with rfl | ⟨g, rfl, r⟩
 ·exact put_nil k s c d w
 ·exact put_no g 0 _ k s c d w r (decide_eq_false fun h => by omega)
theorem nov_cnt {w : World} {q : Option Addr} (h : NoV w q) (s c : Int) (d : List UInt8) : Calls Try.prog 11 #[.pointer q, .agg (tsC s c), .string ⟨d.toArray⟩] w fun e w' => e = .returned (.int .i64 0) ∧ Below w.heap.size w w' := by
 rcases h with rfl | ⟨g, rfl, r⟩
 ·exact cnt_nil s c d w
 ·exact cnt_no g 0 _ s c d w r (Int.le_refl _)
theorem nov_at {w : World} {q : Option Addr} (h : NoV w q) (k c o : Int) : Calls Try.prog 13 #[.pointer q, .int .i64 k, .int .i64 c, .int .i64 o] w fun e w' => e = .returned (.tuple #[.agg (tsC 0 0), .string ⟨#[]⟩]) ∧ Below w.heap.size w w' := by
 rcases h with rfl | ⟨g, rfl, r⟩
 ·exact at_nil k c o w
 ·exact at_no g 0 _ k c o w r (decide_eq_false fun h => by omega)
theorem nov_copy {w : World} {q : Option Addr} (h : NoV w q) : Calls Try.prog 15 #[.pointer q] w fun e w' => e = .returned (.pointer none) ∧ Below w.heap.size w w' := by
 rcases h with rfl | ⟨g, rfl, r⟩
 ·exact copy_nil w
 ·exact copy_no g 0 _ w r (Int.le_refl _)
theorem info_vpx : (Try.prog.info? 25).map (fun i => (i.zero, i.size)) = some (some (.pointer none), 1) := by kernel_rfl
theorem info_vp' : ∃ i, Try.prog.info? 25 = some i ∧ i.zero = some (.pointer none) ∧ i.size = 1 := by
 cases hi : Try.prog.info? 25 with
 | none => have := info_vpx; rw [hi] at this; cases this
 | some i =>
  have h := info_vpx
  rw [hi] at h
  simp only [Option.map_some, Option.some.injEq, Prod.mk.injEq] at h
  exact ⟨i, rfl, h.1, h.2⟩
theorem lit_vp (g : Nat) (k : Nat) (hk : k = 1) : Instr.fill (fun i => some (i * k, k)) ((Array.range (2 * k)).map ((Value.pointer none).cells[· % (Value.pointer none).cells.size]!)) [(0, .pointer none), (1, .pointer (some ⟨g, 0, none⟩))] = some #[.pointer none, .pointer (some ⟨g, 0, none⟩)] := by
 subst hk
 kernel_rfl
theorem sl_vp : Try.prog.underlying 52 = some (.slice (Try.prog.elem 52)) := by kernel_rfl
theorem cop_at (g : Nat) (i : Nat) (h : i < 2) : ∃ q, (#[.pointer none, .pointer (some ⟨g, 0, none⟩)] : Array Value)[0 + i * 1]? = some (.pointer q) ∧ (q = none ∨ q = some ⟨g, 0, none⟩) := by
 match i, h with
 | 0, _ => exact ⟨none, rfl, .inl rfl⟩
 | 1, _ => exact ⟨_, rfl, .inr rfl⟩
set_option maxRecDepth 100000 in
set_option maxHeartbeats 2000000 in
theorem walk (ab : Option Addr) (c : Nat) (L : List Rv) (gb ob : Nat) (bcs : Array Value) (tb : TypeId) (x : Rv) (w : World) (hm : L.length ≤ maxLen) (hz : ElsAt 4 w ab L.length (lsC L) gb ob bcs tb) :
  Calls Try.prog 5 #[.slice ab L.length c, .agg (rvA x)] w fun e w' => e = .returned (.bool true) ∧ Below w.heap.size w w' := by
 have hS := fun w' (hb : Below w.heap.size w w') => short_any ab c L gb ob bcs tb w' (hz.below hb)
 have HB : Hid (ElsAt 4 w ab L.length (lsC L) gb ob bcs tb) := hz
 clear hm hz
 cases hsh : shB L with
 | false =>
  rw [hsh] at hS
  clear hsh HB
  go_enter Try.func5, Try.ntmps5
  have sb := sbmk w
  (repeat ((fail_if_success with_reducible refine rg ?_); go_step))
  refine wp_region_pw ?_
  refine pw_boxr (by rfl) 34 _ rfl (rvA x) rfl ?_
  intro g3 z0 n0 r3 k
  simp only [Act.put, pu]
  have b3 := Nat.le_trans sb.size n0
  clear n0
  replace sb := sb.trans (k.below w.heap.size sb.size (by simp <;> omega))
  clear k
  refine pw_value (by rfl) (.bool false) (fun _ => rfl) ?_
  simp only [Act.put, pu]
  refine pw_nil ?_
  (repeat ((fail_if_success with_reducible refine rg ?_); go_step))
  refine wp_region_pw ?_
  refine pw_mv (by rfl) rfl rfl ?_
  simp only [Act.put, pu]
  refine pw_callB (by rfl) 6 _ _ rfl Try.func6 (by kernel_rfl) #[.slice ab L.length c] rfl _ (hS _ sb) ?_
  intro z1001 k
  simp only [Act.put, pu]
  replace r3 := k.row r3 (by simp <;> omega)
  replace sb := sb.trans (k.below w.heap.size sb.size (by simp <;> omega))
  clear k
  refine pw_value (by rfl) (.bool true) (exec_not _ _ rfl false rfl) ?_
  simp only [Act.put, pu]
  refine pw_mv (by rfl) rfl rfl ?_
  simp only [Act.put, pu]
  refine pw_skip (by rfl) ?_
  simp only [Act.put, pu]
  refine pw_skip (by rfl) ?_
  simp only [Act.put, pu]
  refine pw_skip (by rfl) ?_
  simp only [Act.put, pu]
  refine pw_skip (by rfl) ?_
  simp only [Act.put, pu]
  refine pw_pick (by rfl) true (v := .bool true) rfl rfl rfl ?_
  simp only [Act.put, pu]
  refine pw_nil ?_
  (repeat ((fail_if_success with_reducible refine rg ?_); go_step))
  refine wp_region_pw ?_
  refine pw_callB (by rfl) 7 _ _ rfl Try.func7 (by kernel_rfl) #[] rfl _ (awake_any _) ?_
  intro z2000 k
  simp only [Act.put, pu]
  replace sb := sb.trans (k.below w.heap.size sb.size (by simp <;> omega))
  clear k
  refine pw_as (by rfl) rfl rfl ?_
  simp only [Act.put, pu]
  refine pw_nil ?_
  go_wp2
  go_ret
  exact ⟨rfl, sb⟩
 | true =>
  rw [hsh] at hS
  have hLn := (shB_yes hsh).1
  have HD40 : Hid (∀ j, j < L.length → (L.getD j rv0).2.2.2.length ≤ 40) := (shB_yes hsh).2
  clear hsh
  by_cases h1 : ((x.2.2.2.length : Nat) : Int) > 40
  ·clear HB HD40 hLn
   go_enter Try.func5, Try.ntmps5
   have sb := sbmk w
   (repeat ((fail_if_success with_reducible refine rg ?_); go_step))
   refine wp_region_pw ?_
   refine pw_boxr (by rfl) 34 _ rfl (rvA x) rfl ?_
   intro g3 z0 n0 r3 k
   simp only [Act.put, pu]
   have b3 := Nat.le_trans sb.size n0
   clear n0
   replace sb := sb.trans (k.below w.heap.size sb.size (by simp <;> omega))
   clear k
   refine pw_value (by rfl) (.bool false) (fun _ => rfl) ?_
   simp only [Act.put, pu]
   refine pw_nil ?_
   (repeat ((fail_if_success with_reducible refine rg ?_); go_step))
   refine wp_region_pw ?_
   refine pw_mv (by rfl) rfl rfl ?_
   simp only [Act.put, pu]
   refine pw_callB (by rfl) 6 _ _ rfl Try.func6 (by kernel_rfl) #[.slice ab L.length c] rfl _ (hS _ sb) ?_
   intro z1001 k
   simp only [Act.put, pu]
   replace r3 := k.row r3 (by simp <;> omega)
   replace sb := sb.trans (k.below w.heap.size sb.size (by simp <;> omega))
   clear k
   refine pw_value (by rfl) (.bool false) (exec_not _ _ rfl true rfl) ?_
   simp only [Act.put, pu]
   refine pw_mv (by rfl) rfl rfl ?_
   simp only [Act.put, pu]
   refine pw_value (by rfl) (.pointer (some ⟨g3, 3, none⟩)) (exec_field 34 _ 2 rfl g3 (0) rfl _ Try.underlying34 _ rfl 0 Try.sizeOf9) ?_
   simp only [Act.put, pu]
   refine pw_loadk (by rfl) 9 _ rfl _ (3) rfl r3.r (.string ⟨x.2.2.2.toArray⟩) rfl Try.isAgg9 ?_
   simp only [Act.put, pu]
   refine pw_value (by rfl) (.int .i64 (x.2.2.2.length : Nat)) (y_lenS _ _ rfl x.2.2.2 rfl Try.underlying9) ?_
   simp only [Act.put, pu]
   refine pw_value (by rfl) (.bool true) (exec_gt_i _ _ _ _ rfl ((x.2.2.2.length : Nat) : Int) 40 rfl rfl true (decide_eq_true h1)) ?_
   simp only [Act.put, pu]
   refine pw_pick (by rfl) false (v := .bool true) rfl rfl rfl ?_
   simp only [Act.put, pu]
   refine pw_nil ?_
   (repeat ((fail_if_success with_reducible refine rg ?_); go_step))
   refine wp_region_pw ?_
   refine pw_callB (by rfl) 7 _ _ rfl Try.func7 (by kernel_rfl) #[] rfl _ (awake_any _) ?_
   intro z2000 k
   simp only [Act.put, pu]
   replace sb := sb.trans (k.below w.heap.size sb.size (by simp <;> omega))
   clear k
   refine pw_as (by rfl) rfl rfl ?_
   simp only [Act.put, pu]
   refine pw_nil ?_
   go_wp2
   go_ret
   exact ⟨rfl, sb⟩
  have hN := fun w' => vnew_yes 7 w' (by omega) (by omega)
  obtain ⟨ip, hip, hzp, hszp⟩ := info_vp'
  have hs1 : ¬ 2 * ip.size > 2 ^ 24 := by rw [hszp]; decide
  have hs2 : ¬ 2 * ip.size = 0 := by rw [hszp]; decide
  have hx40 : x.2.2.2.length ≤ 16777216 := by omega
  go_enter Try.func5, Try.ntmps5
  have sb := sbmk w
  (repeat ((fail_if_success with_reducible refine rg ?_); go_step))
  refine wp_region_pw ?_
  refine pw_boxr (by rfl) 34 _ rfl (rvA x) rfl ?_
  intro g3 z0 n0 r3 k
  simp only [Act.put, pu]
  have b3 := Nat.le_trans sb.size n0
  clear n0
  replace sb := sb.trans (k.below w.heap.size sb.size (by simp <;> omega))
  clear k
  refine pw_value (by rfl) (.bool false) (fun _ => rfl) ?_
  simp only [Act.put, pu]
  refine pw_nil ?_
  (repeat ((fail_if_success with_reducible refine rg ?_); go_step))
  refine wp_region_pw ?_
  refine pw_mv (by rfl) rfl rfl ?_
  simp only [Act.put, pu]
  refine pw_callB (by rfl) 6 _ _ rfl Try.func6 (by kernel_rfl) #[.slice ab L.length c] rfl _ (hS _ sb) ?_
  intro z1001 k
  simp only [Act.put, pu]
  replace r3 := k.row r3 (by simp <;> omega)
  replace sb := sb.trans (k.below w.heap.size sb.size (by simp <;> omega))
  clear k
  refine pw_value (by rfl) (.bool false) (exec_not _ _ rfl true rfl) ?_
  simp only [Act.put, pu]
  refine pw_mv (by rfl) rfl rfl ?_
  simp only [Act.put, pu]
  refine pw_value (by rfl) (.pointer (some ⟨g3, 3, none⟩)) (exec_field 34 _ 2 rfl g3 (0) rfl _ Try.underlying34 _ rfl 0 Try.sizeOf9) ?_
  simp only [Act.put, pu]
  refine pw_loadk (by rfl) 9 _ rfl _ (3) rfl r3.r (.string ⟨x.2.2.2.toArray⟩) rfl Try.isAgg9 ?_
  simp only [Act.put, pu]
  refine pw_value (by rfl) (.int .i64 (x.2.2.2.length : Nat)) (y_lenS _ _ rfl x.2.2.2 rfl Try.underlying9) ?_
  simp only [Act.put, pu]
  refine pw_value (by rfl) (.bool false) (exec_gt_i _ _ _ _ rfl ((x.2.2.2.length : Nat) : Int) 40 rfl rfl false (decide_eq_false h1)) ?_
  simp only [Act.put, pu]
  refine pw_pick (by rfl) false (v := .bool false) rfl rfl rfl ?_
  simp only [Act.put, pu]
  refine pw_nil ?_
  clear h1
  (repeat ((fail_if_success with_reducible refine rg ?_); go_step))
  refine wp_region_pw ?_
  refine pw_callE (by rfl) 8 _ _ rfl Try.func8 (by kernel_rfl) #[.int .i64 7] rfl (hN _) ?_
  rintro _ z3000 ⟨g5, rfl, n5, r5, hb⟩
  refine ⟨_, rfl, ?_⟩
  simp only [Act.put, pu]
  have d3x5 := Nat.lt_of_lt_of_le r3.lt n5
  have b5 := Nat.le_trans sb.size n5
  clear n5
  have k := Kept.ofBelow hb
  clear hb
  replace r3 := k.row r3 (by simp <;> omega)
  replace sb := sb.trans (k.below w.heap.size sb.size (by simp <;> omega))
  clear k
  refine pw_mv (by rfl) rfl rfl ?_
  simp only [Act.put, pu]
  refine pw_ext (by rfl) rfl rfl rfl ?_
  simp only [Act.put, pu]
  refine pw_ext (by rfl) rfl rfl rfl ?_
  simp only [Act.put, pu]
  refine pw_as (by rfl) rfl rfl ?_
  simp only [Act.put, pu]
  refine pw_as (by rfl) rfl rfl ?_
  simp only [Act.put, pu]
  refine pw_nil ?_
  clear hN hS
  (repeat ((fail_if_success with_reducible refine rg ?_); go_step))
  refine wp_region_pw ?_
  refine pw_mv (by rfl) rfl rfl ?_
  simp only [Act.put, pu]
  refine pw_value (by rfl) (.bool false) (exec_neq_k .i64 _ _ _ _ rfl (0) (0) rfl rfl false (by rw [decide_eq_true (by omega)]; rfl)) ?_
  simp only [Act.put, pu]
  refine pw_mv (by rfl) rfl rfl ?_
  simp only [Act.put, pu]
  refine pw_mv (by rfl) rfl rfl ?_
  simp only [Act.put, pu]
  refine pw_value (by rfl) (.bool false) (exec_eql_nilp _ _ _ _ rfl (some ⟨g5, 0, none⟩) rfl rfl ptr_vs) ?_
  simp only [Act.put, pu]
  refine pw_pick (by rfl) false (v := .bool false) rfl rfl rfl ?_
  simp only [Act.put, pu]
  refine pw_nil ?_
  (repeat ((fail_if_success with_reducible refine rg ?_); go_step))
  refine wp_region_pw ?_
  refine pw_value (by rfl) (.int .i64 0) (fun _ => rfl) ?_
  simp only [Act.put, pu]
  refine pw_nil ?_
  go_wp2_with fail
  go_loopg [7] L.length (fun v s7 wr => ∃ (i : Nat) (V : Nat → Vt), i + v = L.length ∧ s7 = .int .i64 i ∧ Row wr g3 (rvA x) 34 ∧ Row wr g5 (voC 7 V) 51 ∧ Below w.heap.size w wr)
  case atStart => exact ⟨0, fun _ => vt0, by omega, rfl, r3, r5, sb⟩
  case round =>
   clear sb r3 r5
   obtain ⟨i, V, hi, rfl, r3, r5, sb⟩ := hrel
   cases gk with
   | succ yv =>
    clear hip hzp hszp hs1 hs2 hx40
    have hlt : i < L.length := by omega
    obtain ⟨X, hxg, hx, _⟩ := ls_at hlt
    have hX40 := HD40.out i hlt
    rw [hxg] at hX40
    have HXg : Hid (lsC L i = rvA X) := hx
    have hPut := fun w' r => put_any g5 7 V X.1 X.2.1 X.2.2.1 X.2.2.2 w' r (by omega) (by omega)
    generalize puV 7 V X.1 X.2.1 X.2.2.1 X.2.2.2 = V2 at *
    generalize puB 7 V X.1 X.2.1 X.2.2.1 = B at *
    clear hX40 hx hxg
    obtain h0 | ⟨rfl, rW, _⟩ := HB.out.at'
    ·exact absurd h0 (by omega)
    have hgw := rW.lt
    clear rW
    obtain h0 | ⟨_, rB, hbt⟩ := (HB.out.below sb).at'
    ·exact absurd h0 (by omega)
    have hbx := hbt i hlt
    rw [HXg.out] at hbx
    clear hbt HXg
    obtain ⟨hk, hsq, hcl, hdg, hst⟩ := rv_part rfl hbx
    clear hbx
    (repeat ((fail_if_success with_reducible refine rg ?_); go_step))
    refine wp_region_pw ?_
    refine pw_mv (by rfl) rfl rfl ?_
    simp only [Act.put, pu]
    refine pw_mv (by rfl) rfl rfl ?_
    simp only [Act.put, pu]
    refine pw_value (by rfl) (.int .i64 (L.length : Nat)) (exec_len_s 22 _ rfl (some ⟨gb, ob, none⟩) (L.length) (c) rfl sl_rv) ?_
    simp only [Act.put, pu]
    refine pw_value (by rfl) (.bool true) (exec_lt_b _ _ _ _ rfl ((i : Nat)) ((L.length : Nat)) rfl rfl true (decide_eq_true (by omega))) ?_
    simp only [Act.put, pu]
    refine pw_nil ?_
    (repeat ((fail_if_success with_reducible refine rg ?_); go_step))
    apply wp_region_mix (by kernel_rfl) [(g5, 51, voC 7 V)] [_, _, _, _, _, _, _, _, _, _, _, _, _, _, _, _, _] ⟨r5, trivial⟩ (by simp <;> omega)
    ·intro p
     refine mx_move rfl rfl ?_
     simp only [Act.put, pu]
     refine mx_move rfl rfl ?_
     simp only [Act.put, pu]
     refine mx_move rfl rfl ?_
     simp only [Act.put, pu]
     refine mx_val (.pointer (some ⟨gb, ob + i * 4, none⟩)) ((exec_index_s 22 _ _ rfl gb ob (L.length) (c) rfl (i) rfl (hlt) _ Try.underlying22 4 Try.sizeOf34)) ?_
     simp only [Act.put, pu]
     refine mx_val (.pointer (some ⟨gb, ob + i * 4, none⟩)) (exec_field 34 _ 0 rfl gb (ob + i * 4) rfl _ Try.underlying34 _ rfl 0 Try.sizeOf3) ?_
     simp only [Act.put, pu]
     refine mx_loadcR 3 _ rfl _ (ob + i * 4) rfl rB (by simp <;> omega) (.int .i64 X.1) hk Try.isAgg3 ?_
     simp only [Act.put, pu]
     refine mx_move rfl rfl ?_
     simp only [Act.put, pu]
     refine mx_move rfl rfl ?_
     simp only [Act.put, pu]
     refine mx_val (.pointer (some ⟨gb, ob + i * 4, none⟩)) ((exec_index_s 22 _ _ rfl gb ob (L.length) (c) rfl (i) rfl (hlt) _ Try.underlying22 4 Try.sizeOf34)) ?_
     simp only [Act.put, pu]
     refine mx_val (.pointer (some ⟨gb, ob + i * 4 + 1, none⟩)) (exec_field 34 _ 1 rfl gb (ob + i * 4) rfl _ Try.underlying34 _ rfl 1 Try.sizeOf32) ?_
     simp only [Act.put, pu]
     refine mx_loadmR 32 _ rfl _ (ob + i * 4 + 1) rfl rB (by simp <;> omega) ((tsC X.2.1 X.2.2.1)) hst _ Try.underlying32 rfl size_st ?_
     simp only [Act.put, pu]
     refine mx_move rfl rfl ?_
     simp only [Act.put, pu]
     refine mx_move rfl rfl ?_
     simp only [Act.put, pu]
     refine mx_val (.pointer (some ⟨gb, ob + i * 4, none⟩)) ((exec_index_s 22 _ _ rfl gb ob (L.length) (c) rfl (i) rfl (hlt) _ Try.underlying22 4 Try.sizeOf34)) ?_
     simp only [Act.put, pu]
     refine mx_val (.pointer (some ⟨gb, ob + i * 4 + 3, none⟩)) (exec_field 34 _ 2 rfl gb (ob + i * 4) rfl _ Try.underlying34 _ rfl 0 Try.sizeOf9) ?_
     simp only [Act.put, pu]
     refine mx_loadcR 9 _ rfl _ (ob + i * 4 + 3) rfl rB (by simp <;> omega) (.string ⟨X.2.2.2.toArray⟩) hdg Try.isAgg9 ?_
     simp only [Act.put, pu]
     refine mx_callF 10 _ _ rfl Try.func10 (by kernel_rfl) #[.pointer (some ⟨g5, 0, none⟩), .int .i64 X.1, .agg (tsC X.2.1 X.2.2.1), .string ⟨X.2.2.2.toArray⟩] rfl (.bool B) 0 (voC 7 V2) rfl (fun w' _ r => hPut w' r) ?_
     simp only [Act.put, pu]
     refine mx_end ?_
     intro w7 hkw hrw hnew hdis
     have zr5 : Row w7 (g5) (voC 7 V2) 51 := hrw 0 (51, voC 7 V2) rfl
     replace r3 := hkw.row r3 (by simp <;> omega)
     replace sb := sb.trans (hkw.below w.heap.size sb.size (by simp <;> omega))
     clear hkw hrw hnew hdis r5
     have r5 := zr5
     clear zr5
     (repeat ((fail_if_success with_reducible refine rg ?_); go_step))
     refine wp_region_pw ?_
     refine pw_mv (by rfl) rfl rfl ?_
     simp only [Act.put, pu]
     refine pw_value (by rfl) (.int .i64 (((i + 1 : Nat) : Int))) (x_addz _ _ _ _ rfl ((i : Nat)) (1) (((i + 1 : Nat) : Int)) rfl rfl (by omega) (by omega) (by omega)) ?_
     simp only [Act.put, pu]
     refine pw_as (by rfl) rfl rfl ?_
     simp only [Act.put, pu]
     refine pw_nil ?_
     go_wp2
     go_roundg yv
     case measure => omega
     case rel => exact ⟨i + 1, V2, by omega, rfl, r3, r5, sb⟩
    ·kernel_rfl
   | zero =>
    have h1 : ¬ (i : Int) < (L.length : Int) := by omega
    have hCp := fun w' (r : Row w' g5 (voC 7 V) 51) => copy_yes g5 7 V w' r (by omega)
    have hC := fun g w' (r : Row w' g (voC 7 V) 51) => cnt_any g 7 V x.2.1 x.2.2.1 x.2.2.2 w' r (by omega) (by omega)
    have hPut := fun g w' r => put_any g 7 V x.1 x.2.1 x.2.2.1 x.2.2.2 w' r (by omega) (by omega)
    have hnw : puB 7 V x.1 x.2.1 x.2.2.1 = true → cntN 7 (puV 7 V x.1 x.2.1 x.2.2.1 x.2.2.2) x.2.1 x.2.2.1 x.2.2.2 = cntN 7 V x.2.1 x.2.2.1 x.2.2.2 + 1 := cntN_new (n := 7)
    have hle := cntN_le 7 V x.2.1 x.2.2.1 x.2.2.2
    obtain ⟨V2, hV2⟩ : ∃ V2, puV 7 V x.1 x.2.1 x.2.2.1 x.2.2.2 = V2 := ⟨_, rfl⟩
    obtain ⟨B, hB⟩ : ∃ B, puB 7 V x.1 x.2.1 x.2.2.1 = B := ⟨_, rfl⟩
    rw [hV2] at hPut hnw
    rw [hB] at hPut hnw
    have hD := fun g w' (r : Row w' g (voC 7 V2) 51) => cnt_any g 7 V2 x.2.1 x.2.2.1 x.2.2.2 w' r (by omega) (by omega)
    generalize cntN 7 V x.2.1 x.2.2.1 x.2.2.2 = u at *
    generalize cntN 7 V2 x.2.1 x.2.2.1 x.2.2.2 = u2 at *
    have HNW : Hid (B = true → u2 = u + 1) := hnw
    clear hnw hV2 hB hi HD40 hLn
    (repeat ((fail_if_success with_reducible refine rg ?_); go_step))
    refine wp_region_pw ?_
    refine pw_mv (by rfl) rfl rfl ?_
    simp only [Act.put, pu]
    refine pw_mv (by rfl) rfl rfl ?_
    simp only [Act.put, pu]
    refine pw_value (by rfl) (.int .i64 (L.length : Nat)) (exec_len_s 22 _ rfl (ab) (L.length) (c) rfl sl_rv) ?_
    simp only [Act.put, pu]
    refine pw_value (by rfl) (.bool false) (exec_lt_b _ _ _ _ rfl ((i : Nat)) ((L.length : Nat)) rfl rfl false (decide_eq_false h1)) ?_
    simp only [Act.put, pu]
    refine pw_nil ?_
    (repeat ((fail_if_success with_reducible refine rg ?_); go_step))
    refine wp_region_pw ?_
    refine pw_mv (by rfl) rfl rfl ?_
    simp only [Act.put, pu]
    refine pw_callE (by rfl) 15 _ _ rfl Try.func15 (by kernel_rfl) #[.pointer (some ⟨g5, 0, none⟩)] rfl (hCp _ r5) ?_
    rintro _ z10001 ⟨g8, rfl, n8, r8, hb⟩
    refine ⟨_, rfl, ?_⟩
    simp only [Act.put, pu]
    have d3x8 := Nat.lt_of_lt_of_le r3.lt n8
    have d5x8 := Nat.lt_of_lt_of_le r5.lt n8
    have b8 := Nat.le_trans sb.size n8
    clear n8
    have k := Kept.ofBelow hb
    clear hb
    replace r3 := k.row r3 (by simp <;> omega)
    replace r5 := k.row r5 (by simp <;> omega)
    replace sb := sb.trans (k.below w.heap.size sb.size (by simp <;> omega))
    clear k
    refine pw_as (by rfl) rfl rfl ?_
    simp only [Act.put, pu]
    refine pw_nil ?_
    clear hCp
    (repeat ((fail_if_success with_reducible refine rg ?_); go_step))
    refine wp_region_pw ?_
    refine pw_mv (by rfl) rfl rfl ?_
    simp only [Act.put, pu]
    refine pw_value (by rfl) (.pointer (some ⟨g3, 1, none⟩)) (exec_field 34 _ 1 rfl g3 (0) rfl _ Try.underlying34 _ rfl 1 Try.sizeOf32) ?_
    simp only [Act.put, pu]
    refine pw_loadm (by rfl) 32 _ rfl _ (1) rfl r3.r ((tsC x.2.1 x.2.2.1)) (rv_st x) _ Try.underlying32 rfl size_st ?_
    simp only [Act.put, pu]
    refine pw_value (by rfl) (.pointer (some ⟨g3, 3, none⟩)) (exec_field 34 _ 2 rfl g3 (0) rfl _ Try.underlying34 _ rfl 0 Try.sizeOf9) ?_
    simp only [Act.put, pu]
    refine pw_loadk (by rfl) 9 _ rfl _ (3) rfl r3.r (.string ⟨x.2.2.2.toArray⟩) rfl Try.isAgg9 ?_
    simp only [Act.put, pu]
    refine pw_callB (by rfl) 11 _ _ rfl Try.func11 (by kernel_rfl) #[.pointer (some ⟨g5, 0, none⟩), .agg (tsC x.2.1 x.2.2.1), .string ⟨x.2.2.2.toArray⟩] rfl _ (hC _ _ r5) ?_
    intro z11005 k
    simp only [Act.put, pu]
    replace r3 := k.row r3 (by simp <;> omega)
    replace r5 := k.row r5 (by simp <;> omega)
    replace r8 := k.row r8 (by simp <;> omega)
    replace sb := sb.trans (k.below w.heap.size sb.size (by simp <;> omega))
    clear k
    refine pw_as (by rfl) rfl rfl ?_
    simp only [Act.put, pu]
    refine pw_nil ?_
    (repeat ((fail_if_success with_reducible refine rg ?_); go_step))
    refine wp_region_pw ?_
    refine pw_mv (by rfl) rfl rfl ?_
    simp only [Act.put, pu]
    refine pw_value (by rfl) (.bool false) (exec_eql_nilp _ _ _ _ rfl (some ⟨g8, 0, none⟩) rfl rfl ptr_vs) ?_
    simp only [Act.put, pu]
    refine pw_mv (by rfl) rfl rfl ?_
    simp only [Act.put, pu]
    refine pw_mv (by rfl) rfl rfl ?_
    simp only [Act.put, pu]
    refine pw_value (by rfl) (.pointer (some ⟨g3, 1, none⟩)) (exec_field 34 _ 1 rfl g3 (0) rfl _ Try.underlying34 _ rfl 1 Try.sizeOf32) ?_
    simp only [Act.put, pu]
    refine pw_loadm (by rfl) 32 _ rfl _ (1) rfl r3.r ((tsC x.2.1 x.2.2.1)) (rv_st x) _ Try.underlying32 rfl size_st ?_
    simp only [Act.put, pu]
    refine pw_value (by rfl) (.pointer (some ⟨g3, 3, none⟩)) (exec_field 34 _ 2 rfl g3 (0) rfl _ Try.underlying34 _ rfl 0 Try.sizeOf9) ?_
    simp only [Act.put, pu]
    refine pw_loadk (by rfl) 9 _ rfl _ (3) rfl r3.r (.string ⟨x.2.2.2.toArray⟩) rfl Try.isAgg9 ?_
    simp only [Act.put, pu]
    refine pw_callB (by rfl) 11 _ _ rfl Try.func11 (by kernel_rfl) #[.pointer (some ⟨g8, 0, none⟩), .agg (tsC x.2.1 x.2.2.1), .string ⟨x.2.2.2.toArray⟩] rfl _ (hC _ _ r8) ?_
    intro z12008 k
    simp only [Act.put, pu]
    replace r3 := k.row r3 (by simp <;> omega)
    replace r5 := k.row r5 (by simp <;> omega)
    replace r8 := k.row r8 (by simp <;> omega)
    replace sb := sb.trans (k.below w.heap.size sb.size (by simp <;> omega))
    clear k
    refine pw_mv (by rfl) rfl rfl ?_
    simp only [Act.put, pu]
    refine pw_value (by rfl) (.bool false) (exec_neq_k .i64 _ _ _ _ rfl (((u : Nat) : Int)) (((u : Nat) : Int)) rfl rfl false (by rw [decide_eq_true rfl]; rfl)) ?_
    simp only [Act.put, pu]
    refine pw_pick (by rfl) false (v := .bool false) rfl rfl rfl ?_
    simp only [Act.put, pu]
    refine pw_nil ?_
    (repeat ((fail_if_success with_reducible refine rg ?_); go_step))
    refine wp_region_pw ?_
    refine pw_mv (by rfl) rfl rfl ?_
    simp only [Act.put, pu]
    refine pw_value (by rfl) (.pointer (some ⟨g3, 0, none⟩)) (exec_field 34 _ 0 rfl g3 (0) rfl _ Try.underlying34 _ rfl 0 Try.sizeOf3) ?_
    simp only [Act.put, pu]
    refine pw_loadk (by rfl) 3 _ rfl _ (0) rfl r3.r (.int .i64 x.1) rfl Try.isAgg3 ?_
    simp only [Act.put, pu]
    refine pw_value (by rfl) (.pointer (some ⟨g3, 1, none⟩)) (exec_field 34 _ 1 rfl g3 (0) rfl _ Try.underlying34 _ rfl 1 Try.sizeOf32) ?_
    simp only [Act.put, pu]
    refine pw_loadm (by rfl) 32 _ rfl _ (1) rfl r3.r ((tsC x.2.1 x.2.2.1)) (rv_st x) _ Try.underlying32 rfl size_st ?_
    simp only [Act.put, pu]
    refine pw_value (by rfl) (.pointer (some ⟨g3, 3, none⟩)) (exec_field 34 _ 2 rfl g3 (0) rfl _ Try.underlying34 _ rfl 0 Try.sizeOf9) ?_
    simp only [Act.put, pu]
    refine pw_loadk (by rfl) 9 _ rfl _ (3) rfl r3.r (.string ⟨x.2.2.2.toArray⟩) rfl Try.isAgg9 ?_
    simp only [Act.put, pu]
    refine pw_callE (by rfl) 10 _ _ rfl Try.func10 (by kernel_rfl) #[.pointer (some ⟨g8, 0, none⟩), .int .i64 x.1, .agg (tsC x.2.1 x.2.2.1), .string ⟨x.2.2.2.toArray⟩] rfl (hPut _ _ r8) ?_
    have cr8 := r8.lt
    clear r8
    rintro _ z14007 ⟨rfl, r8, k⟩
    refine ⟨_, rfl, ?_⟩
    simp only [Act.put, pu]
    clear cr8
    replace r3 := k.row r3 (by simp <;> omega)
    replace r5 := k.row r5 (by simp <;> omega)
    replace sb := sb.trans (k.below w.heap.size sb.size (by simp <;> omega))
    clear k
    refine pw_as (by rfl) rfl rfl ?_
    simp only [Act.put, pu]
    refine pw_nil ?_
    cases B with
    | true =>
     have hu2 := HNW.out rfl
     clear HNW
     (repeat ((fail_if_success with_reducible refine rg ?_); go_step))
     refine wp_region_pw ?_
     refine pw_mv (by rfl) rfl rfl ?_
     simp only [Act.put, pu]
     refine pw_value (by rfl) (.pointer (some ⟨g3, 1, none⟩)) (exec_field 34 _ 1 rfl g3 (0) rfl _ Try.underlying34 _ rfl 1 Try.sizeOf32) ?_
     simp only [Act.put, pu]
     refine pw_loadm (by rfl) 32 _ rfl _ (1) rfl r3.r ((tsC x.2.1 x.2.2.1)) (rv_st x) _ Try.underlying32 rfl size_st ?_
     simp only [Act.put, pu]
     refine pw_value (by rfl) (.pointer (some ⟨g3, 3, none⟩)) (exec_field 34 _ 2 rfl g3 (0) rfl _ Try.underlying34 _ rfl 0 Try.sizeOf9) ?_
     simp only [Act.put, pu]
     refine pw_loadk (by rfl) 9 _ rfl _ (3) rfl r3.r (.string ⟨x.2.2.2.toArray⟩) rfl Try.isAgg9 ?_
     simp only [Act.put, pu]
     refine pw_callB (by rfl) 11 _ _ rfl Try.func11 (by kernel_rfl) #[.pointer (some ⟨g5, 0, none⟩), .agg (tsC x.2.1 x.2.2.1), .string ⟨x.2.2.2.toArray⟩] rfl _ (hC _ _ r5) ?_
     intro z15005 k
     simp only [Act.put, pu]
     replace r3 := k.row r3 (by simp <;> omega)
     replace r5 := k.row r5 (by simp <;> omega)
     replace r8 := k.row r8 (by simp <;> omega)
     replace sb := sb.trans (k.below w.heap.size sb.size (by simp <;> omega))
     clear k
     refine pw_mv (by rfl) rfl rfl ?_
     simp only [Act.put, pu]
     refine pw_value (by rfl) (.bool false) (exec_neq_k .i64 _ _ _ _ rfl (((u : Nat) : Int)) (((u : Nat) : Int)) rfl rfl false (by rw [decide_eq_true rfl]; rfl)) ?_
     simp only [Act.put, pu]
     refine pw_mv (by rfl) rfl rfl ?_
     simp only [Act.put, pu]
     refine pw_mv (by rfl) rfl rfl ?_
     simp only [Act.put, pu]
     refine pw_mv (by rfl) rfl rfl ?_
     simp only [Act.put, pu]
     refine pw_mv (by rfl) rfl rfl ?_
     simp only [Act.put, pu]
     refine pw_value (by rfl) (.pointer (some ⟨g3, 1, none⟩)) (exec_field 34 _ 1 rfl g3 (0) rfl _ Try.underlying34 _ rfl 1 Try.sizeOf32) ?_
     simp only [Act.put, pu]
     refine pw_loadm (by rfl) 32 _ rfl _ (1) rfl r3.r ((tsC x.2.1 x.2.2.1)) (rv_st x) _ Try.underlying32 rfl size_st ?_
     simp only [Act.put, pu]
     refine pw_value (by rfl) (.pointer (some ⟨g3, 3, none⟩)) (exec_field 34 _ 2 rfl g3 (0) rfl _ Try.underlying34 _ rfl 0 Try.sizeOf9) ?_
     simp only [Act.put, pu]
     refine pw_loadk (by rfl) 9 _ rfl _ (3) rfl r3.r (.string ⟨x.2.2.2.toArray⟩) rfl Try.isAgg9 ?_
     simp only [Act.put, pu]
     refine pw_callB (by rfl) 11 _ _ rfl Try.func11 (by kernel_rfl) #[.pointer (some ⟨g8, 0, none⟩), .agg (tsC x.2.1 x.2.2.1), .string ⟨x.2.2.2.toArray⟩] rfl _ (hD _ _ r8) ?_
     intro z15016 k
     simp only [Act.put, pu]
     replace r3 := k.row r3 (by simp <;> omega)
     replace r5 := k.row r5 (by simp <;> omega)
     replace r8 := k.row r8 (by simp <;> omega)
     replace sb := sb.trans (k.below w.heap.size sb.size (by simp <;> omega))
     clear k
     refine pw_mv (by rfl) rfl rfl ?_
     simp only [Act.put, pu]
     refine pw_value (by rfl) (.int .i64 (((u : Nat) : Int) + 1)) (x_addz _ _ _ _ rfl (((u : Nat) : Int)) (1) (((u : Nat) : Int) + 1) rfl rfl (by omega) (by omega) (by omega)) ?_
     simp only [Act.put, pu]
     refine pw_value (by rfl) (.bool false) (exec_neq_k .i64 _ _ _ _ rfl (((u2 : Nat) : Int)) (((u : Nat) : Int) + 1) rfl rfl false (by rw [decide_eq_true (by omega)]; rfl)) ?_
     simp only [Act.put, pu]
     refine pw_pick (by rfl) true (v := .bool false) rfl rfl rfl ?_
     simp only [Act.put, pu]
     refine pw_pick (by rfl) false (v := .bool false) rfl rfl rfl ?_
     simp only [Act.put, pu]
     refine pw_mv (by rfl) rfl rfl ?_
     simp only [Act.put, pu]
     refine pw_mv (by rfl) rfl rfl ?_
     simp only [Act.put, pu]
     refine pw_value (by rfl) (.pointer (some ⟨g3, 0, none⟩)) (exec_field 34 _ 0 rfl g3 (0) rfl _ Try.underlying34 _ rfl 0 Try.sizeOf3) ?_
     simp only [Act.put, pu]
     refine pw_loadk (by rfl) 3 _ rfl _ (0) rfl r3.r (.int .i64 x.1) rfl Try.isAgg3 ?_
     simp only [Act.put, pu]
     refine pw_value (by rfl) (.pointer (some ⟨g3, 1, none⟩)) (exec_field 34 _ 1 rfl g3 (0) rfl _ Try.underlying34 _ rfl 1 Try.sizeOf32) ?_
     simp only [Act.put, pu]
     refine pw_loadm (by rfl) 32 _ rfl _ (1) rfl r3.r ((tsC x.2.1 x.2.2.1)) (rv_st x) _ Try.underlying32 rfl size_st ?_
     simp only [Act.put, pu]
     refine pw_value (by rfl) (.pointer (some ⟨g3, 3, none⟩)) (exec_field 34 _ 2 rfl g3 (0) rfl _ Try.underlying34 _ rfl 0 Try.sizeOf9) ?_
     simp only [Act.put, pu]
     refine pw_loadk (by rfl) 9 _ rfl _ (3) rfl r3.r (.string ⟨x.2.2.2.toArray⟩) rfl Try.isAgg9 ?_
     simp only [Act.put, pu]
     refine pw_callE (by rfl) 10 _ _ rfl Try.func10 (by kernel_rfl) #[.pointer (some ⟨g5, 0, none⟩), .int .i64 x.1, .agg (tsC x.2.1 x.2.2.1), .string ⟨x.2.2.2.toArray⟩] rfl (hPut _ _ r5) ?_
     have cr5 := r5.lt
     clear r5
     rintro _ z15030 ⟨rfl, r5, k⟩
     refine ⟨_, rfl, ?_⟩
     simp only [Act.put, pu]
     clear cr5
     replace r3 := k.row r3 (by simp <;> omega)
     replace r8 := k.row r8 (by simp <;> omega)
     replace sb := sb.trans (k.below w.heap.size sb.size (by simp <;> omega))
     clear k
     refine pw_mv (by rfl) rfl rfl ?_
     simp only [Act.put, pu]
     refine pw_value (by rfl) (.bool false) (x_nb _ _ _ _ rfl true true rfl rfl Try.underlying4 false rfl) ?_
     simp only [Act.put, pu]
     refine pw_pick (by rfl) false (v := .bool false) rfl rfl rfl ?_
     simp only [Act.put, pu]
     refine pw_nil ?_
     have hli := fun g => lit_vp g ip.size hszp
     (repeat ((fail_if_success with_reducible refine rg ?_); go_step))
     refine wp_region_pw ?_
     refine pw_value (by rfl) (.agg (voC 0 fun _ => vt0)) (exec_buildv _ [] rfl [] rfl _ built_vs0) ?_
     simp only [Act.put, pu]
     refine pw_boxr (by rfl) 51 _ rfl (voC 0 fun _ => vt0) rfl ?_
     intro g121 z17001 n0 r121 k
     simp only [Act.put, pu]
     have b121 := Nat.le_trans sb.size n0
     clear n0
     replace sb := sb.trans (k.below w.heap.size sb.size (by simp <;> omega))
     clear k
     refine pw_litr (by rfl) 52 25 2 _ rfl #[.pointer none, .pointer (some ⟨g121, 0, none⟩)] ip _ Try.underlying52 hip hzp hs1 hs2 [(0, .pointer none), (1, .pointer (some ⟨g121, 0, none⟩))] rfl (hli _) ?_
     intro gL z17002 n0 rL k
     simp only [Act.put, pu]
     have d121xL := Nat.lt_of_lt_of_le r121.lt n0
     have bL := Nat.le_trans sb.size n0
     clear n0
     replace r121 := k.row r121 (by simp <;> omega)
     replace sb := sb.trans (k.below w.heap.size sb.size (by simp <;> omega))
     clear k
     refine pw_as (by rfl) rfl rfl ?_
     simp only [Act.put, pu]
     refine pw_nil ?_
     clear hC hD hPut hli hip hzp hszp hs1 hs2
     (repeat ((fail_if_success with_reducible refine rg ?_); go_step))
     refine wp_region_pw ?_
     refine pw_value (by rfl) (.int .i64 0) (fun _ => rfl) ?_
     simp only [Act.put, pu]
     refine pw_nil ?_
     go_wp2_with fail
     go_loopg [4, 12, 13, 14] 2 (fun v s4 s12 s13 s14 wr => ∃ i : Nat, i + v = 2 ∧ s12 = .int .i64 i ∧ Row wr g121 (voC 0 fun _ => vt0) 51 ∧ Row wr gL #[.pointer none, .pointer (some ⟨g121, 0, none⟩)] 25 ∧ Below w.heap.size w wr)
     case atStart => exact ⟨0, by omega, rfl, r121, rL, sb⟩
     case round =>
      clear sb r121 rL
      obtain ⟨i, hi3, rfl, r121, rL, sb⟩ := hrel
      cases gk with
      | zero =>
       have h2 : ¬ (i : Int) < 2 := by omega
       (repeat ((fail_if_success with_reducible refine rg ?_); go_step))
       refine wp_region_pw ?_
       refine pw_mv (by rfl) rfl rfl ?_
       simp only [Act.put, pu]
       refine pw_mv (by rfl) rfl rfl ?_
       simp only [Act.put, pu]
       refine pw_value (by rfl) (.int .i64 ((2 : Nat) : Int)) (exec_len_s 52 _ rfl (some ⟨gL, 0, none⟩) (2) (2) rfl sl_vp) ?_
       simp only [Act.put, pu]
       refine pw_value (by rfl) (.bool false) (exec_lt_b _ _ _ _ rfl ((i : Nat)) (((2 : Nat) : Int)) rfl rfl false (decide_eq_false h2)) ?_
       simp only [Act.put, pu]
       refine pw_nil ?_
       (repeat ((fail_if_success with_reducible refine rg ?_); go_step))
       refine wp_region_pw ?_
       refine pw_callB (by rfl) 7 _ _ rfl Try.func7 (by kernel_rfl) #[] rfl _ (awake_any _) ?_
       intro z24000 k
       simp only [Act.put, pu]
       replace sb := sb.trans (k.below w.heap.size sb.size (by simp <;> omega))
       clear k
       refine pw_as (by rfl) rfl rfl ?_
       simp only [Act.put, pu]
       refine pw_nil ?_
       go_wp2
       go_ret
       exact ⟨rfl, sb⟩
      | succ yv =>
       have hi2 : i < 2 := by omega
       obtain ⟨q, hcq, hq⟩ := cop_at g121 i hi2
       have HQ : Hid (q = none ∨ q = some ⟨g121, 0, none⟩) := hq
       clear hq
       (repeat ((fail_if_success with_reducible refine rg ?_); go_step))
       refine wp_region_pw ?_
       refine pw_mv (by rfl) rfl rfl ?_
       simp only [Act.put, pu]
       refine pw_mv (by rfl) rfl rfl ?_
       simp only [Act.put, pu]
       refine pw_value (by rfl) (.int .i64 ((2 : Nat) : Int)) (exec_len_s 52 _ rfl (some ⟨gL, 0, none⟩) (2) (2) rfl sl_vp) ?_
       simp only [Act.put, pu]
       refine pw_value (by rfl) (.bool true) (exec_lt_b _ _ _ _ rfl ((i : Nat)) (((2 : Nat) : Int)) rfl rfl true (decide_eq_true (by omega))) ?_
       simp only [Act.put, pu]
       refine pw_nil ?_
       (repeat ((fail_if_success with_reducible refine rg ?_); go_step))
       refine wp_region_pw ?_
       refine pw_mv (by rfl) rfl rfl ?_
       simp only [Act.put, pu]
       refine pw_mv (by rfl) rfl rfl ?_
       simp only [Act.put, pu]
       refine pw_value (by rfl) (.pointer (some ⟨gL, 0 + i * 1, none⟩)) ((exec_index_s 52 _ _ rfl gL 0 (2) (2) rfl (i) rfl (hi2) _ Try.underlying52 1 Try.sizeOf25)) ?_
       simp only [Act.put, pu]
       refine pw_loadk (by rfl) 25 _ rfl _ (0 + i * 1) rfl rL.r (.pointer q) hcq Try.isAgg25 ?_
       simp only [Act.put, pu]
       refine pw_callB (by rfl) 13 _ _ rfl Try.func13 (by kernel_rfl) #[.pointer q, .int .i64 1, .int .i64 1, .int .i64 0] rfl _ (nov_at (HQ.out.imp id fun e => ⟨g121, e, r121⟩) 1 1 0) ?_
       intro z21004 k
       simp only [Act.put, pu]
       replace r121 := k.row r121 (by simp <;> omega)
       replace rL := k.row rL (by simp <;> omega)
       replace sb := sb.trans (k.below w.heap.size sb.size (by simp <;> omega))
       clear k
       refine pw_mv (by rfl) rfl rfl ?_
       simp only [Act.put, pu]
       refine pw_ext (by rfl) rfl rfl rfl ?_
       simp only [Act.put, pu]
       refine pw_ext (by rfl) rfl rfl rfl ?_
       simp only [Act.put, pu]
       refine pw_new (by rfl) 32 rfl _ zero_st ?_
       intro g13 z21008 n0 r13 k
       simp only [Act.put, pu]
       have d121x13 := Nat.lt_of_lt_of_le r121.lt n0
       have dLx13 := Nat.lt_of_lt_of_le rL.lt n0
       have b13 := Nat.le_trans sb.size n0
       clear n0
       replace r121 := k.row r121 (by simp <;> omega)
       replace rL := k.row rL (by simp <;> omega)
       replace sb := sb.trans (k.below w.heap.size sb.size (by simp <;> omega))
       clear k
       refine pw_put (by rfl) 32 _ _ rfl _ rfl r13 (tsC 0 0) rfl (by exact size_st) (by rfl) (st_one _ _) ?_
       clear r13
       intro z21009 r13 k
       simp only [Act.put]
       replace r121 := k.row r121 (by simp <;> omega)
       replace rL := k.row rL (by simp <;> omega)
       replace sb := sb.trans (k.below w.heap.size sb.size (by simp <;> omega))
       clear k
       refine pw_as (by rfl) rfl rfl ?_
       simp only [Act.put, pu]
       refine pw_nil ?_
       have hv : NoV _ q := HQ.out.imp id fun e => ⟨g121, e, r121⟩
       (repeat ((fail_if_success with_reducible refine rg ?_); go_step))
       refine wp_region_qw (by kernel_rfl) (by kernel_rfl) ?_
       refine qw_move (by rfl) rfl rfl ?_
       simp only [Act.put, pu]
       refine qw_move (by rfl) rfl rfl ?_
       simp only [Act.put, pu]
       refine qw_value (by rfl) (.pointer (some ⟨gL, 0 + i * 1, none⟩)) ((exec_index_s 52 _ _ rfl gL 0 (2) (2) rfl (i) rfl (hi2) _ Try.underlying52 1 Try.sizeOf25)) ?_
       simp only [Act.put, pu]
       refine qw_loadc (by rfl) 25 _ rfl _ (0 + i * 1) rfl rL (.pointer q) hcq Try.isAgg25 ?_
       simp only [Act.put, pu]
       refine qw_call (by rfl) 16 _ _ rfl Try.func16 (by kernel_rfl) #[.int .i64 1, .int .i64 1] rfl _ (of_any 1 1) ?_
       simp only [Act.put, pu]
       refine qw_callK (by rfl) 10 _ _ rfl Try.func10 (by kernel_rfl) #[.pointer q, .int .i64 1, .agg (tsC 1 1), .string ⟨#[100]⟩] rfl _ (fun w' hb => nov_put (hv.below hb) 1 1 1 [100]) ?_
       simp only [Act.put, pu]
       refine qw_move (by rfl) rfl rfl ?_
       simp only [Act.put, pu]
       refine qw_move (by rfl) rfl rfl ?_
       simp only [Act.put, pu]
       refine qw_move (by rfl) rfl rfl ?_
       simp only [Act.put, pu]
       refine qw_value (by rfl) (.pointer (some ⟨gL, 0 + i * 1, none⟩)) ((exec_index_s 52 _ _ rfl gL 0 (2) (2) rfl (i) rfl (hi2) _ Try.underlying52 1 Try.sizeOf25)) ?_
       simp only [Act.put, pu]
       refine qw_loadc (by rfl) 25 _ rfl _ (0 + i * 1) rfl rL (.pointer q) hcq Try.isAgg25 ?_
       simp only [Act.put, pu]
       refine qw_call (by rfl) 16 _ _ rfl Try.func16 (by kernel_rfl) #[.int .i64 1, .int .i64 1] rfl _ (of_any 1 1) ?_
       simp only [Act.put, pu]
       refine qw_callK (by rfl) 11 _ _ rfl Try.func11 (by kernel_rfl) #[.pointer q, .agg (tsC 1 1), .string ⟨#[100]⟩] rfl _ (fun w' hb => nov_cnt (hv.below hb) 1 1 [100]) ?_
       simp only [Act.put, pu]
       refine qw_value (by rfl) (.bool false) (exec_neq_k .i64 _ _ _ _ rfl (0) (0) rfl rfl false (by rw [decide_eq_true (by omega)]; rfl)) ?_
       simp only [Act.put, pu]
       refine qw_pick false (v := .bool false) (by rfl) rfl rfl rfl ?_
       simp only [Act.put, pu]
       refine qw_move (by rfl) rfl rfl ?_
       simp only [Act.put, pu]
       refine qw_loadm (by rfl) 32 _ rfl _ (0) rfl r13 ((tsC 0 0)) (part_all _) _ Try.underlying32 rfl size_st ?_
       simp only [Act.put, pu]
       refine qw_call (by rfl) 16 _ _ rfl Try.func16 (by kernel_rfl) #[.int .i64 0, .int .i64 0] rfl _ (of_any 0 0) ?_
       simp only [Act.put, pu]
       refine qw_value (by rfl) (.bool false) (exec_neq_st _ _ _ rfl 0 0 0 0 rfl rfl false (by decide)) ?_
       simp only [Act.put, pu]
       refine qw_pick false (v := .bool false) (by rfl) rfl rfl rfl ?_
       simp only [Act.put, pu]
       refine qw_move (by rfl) rfl rfl ?_
       simp only [Act.put, pu]
       refine qw_move (by rfl) rfl rfl ?_
       simp only [Act.put, pu]
       refine qw_value (by rfl) (.bool false) (y_neS _ _ _ _ rfl [] [] rfl rfl false (decide_eq_true rfl)) ?_
       simp only [Act.put, pu]
       refine qw_pick false (v := .bool false) (by rfl) rfl rfl rfl ?_
       simp only [Act.put, pu]
       refine qw_move (by rfl) rfl rfl ?_
       simp only [Act.put, pu]
       refine qw_move (by rfl) rfl rfl ?_
       simp only [Act.put, pu]
       refine qw_move (by rfl) rfl rfl ?_
       simp only [Act.put, pu]
       refine qw_value (by rfl) (.pointer (some ⟨gL, 0 + i * 1, none⟩)) ((exec_index_s 52 _ _ rfl gL 0 (2) (2) rfl (i) rfl (hi2) _ Try.underlying52 1 Try.sizeOf25)) ?_
       simp only [Act.put, pu]
       refine qw_loadc (by rfl) 25 _ rfl _ (0 + i * 1) rfl rL (.pointer q) hcq Try.isAgg25 ?_
       simp only [Act.put, pu]
       refine qw_callK (by rfl) 15 _ _ rfl Try.func15 (by kernel_rfl) #[.pointer q] rfl _ (fun w' hb => nov_copy (hv.below hb)) ?_
       simp only [Act.put, pu]
       refine qw_value (by rfl) (.bool false) (exec_neq_nilp _ _ _ _ rfl (none) rfl rfl ptr_vs) ?_
       simp only [Act.put, pu]
       refine qw_pick false (v := .bool false) (by rfl) rfl rfl rfl ?_
       simp only [Act.put, pu]
       refine qw_nil ?_
       intro w9 hqb
       replace r121 := r121.belowAll hqb
       replace rL := rL.belowAll hqb
       replace sb := below_on sb (Nat.le_refl _) hqb
       clear hqb
       (repeat ((fail_if_success with_reducible refine rg ?_); go_step))
       refine wp_region_pw ?_
       refine pw_mv (by rfl) rfl rfl ?_
       simp only [Act.put, pu]
       refine pw_value (by rfl) (.int .i64 (((i + 1 : Nat) : Int))) (x_addz _ _ _ _ rfl ((i : Nat)) (1) (((i + 1 : Nat) : Int)) rfl rfl (by omega) (by omega) (by omega)) ?_
       simp only [Act.put, pu]
       refine pw_as (by rfl) rfl rfl ?_
       simp only [Act.put, pu]
       refine pw_nil ?_
       go_wp2
       go_roundg yv
       case measure => omega
       case rel => exact ⟨i + 1, by omega, rfl, r121, rL, sb⟩
    | false =>
     clear HNW
     (repeat ((fail_if_success with_reducible refine rg ?_); go_step))
     refine wp_region_pw ?_
     refine pw_mv (by rfl) rfl rfl ?_
     simp only [Act.put, pu]
     refine pw_value (by rfl) (.pointer (some ⟨g3, 1, none⟩)) (exec_field 34 _ 1 rfl g3 (0) rfl _ Try.underlying34 _ rfl 1 Try.sizeOf32) ?_
     simp only [Act.put, pu]
     refine pw_loadm (by rfl) 32 _ rfl _ (1) rfl r3.r ((tsC x.2.1 x.2.2.1)) (rv_st x) _ Try.underlying32 rfl size_st ?_
     simp only [Act.put, pu]
     refine pw_value (by rfl) (.pointer (some ⟨g3, 3, none⟩)) (exec_field 34 _ 2 rfl g3 (0) rfl _ Try.underlying34 _ rfl 0 Try.sizeOf9) ?_
     simp only [Act.put, pu]
     refine pw_loadk (by rfl) 9 _ rfl _ (3) rfl r3.r (.string ⟨x.2.2.2.toArray⟩) rfl Try.isAgg9 ?_
     simp only [Act.put, pu]
     refine pw_callB (by rfl) 11 _ _ rfl Try.func11 (by kernel_rfl) #[.pointer (some ⟨g5, 0, none⟩), .agg (tsC x.2.1 x.2.2.1), .string ⟨x.2.2.2.toArray⟩] rfl _ (hC _ _ r5) ?_
     intro z15005 k
     simp only [Act.put, pu]
     replace r3 := k.row r3 (by simp <;> omega)
     replace r5 := k.row r5 (by simp <;> omega)
     replace r8 := k.row r8 (by simp <;> omega)
     replace sb := sb.trans (k.below w.heap.size sb.size (by simp <;> omega))
     clear k
     refine pw_mv (by rfl) rfl rfl ?_
     simp only [Act.put, pu]
     refine pw_value (by rfl) (.bool false) (exec_neq_k .i64 _ _ _ _ rfl (((u : Nat) : Int)) (((u : Nat) : Int)) rfl rfl false (by rw [decide_eq_true rfl]; rfl)) ?_
     simp only [Act.put, pu]
     refine pw_mv (by rfl) rfl rfl ?_
     simp only [Act.put, pu]
     refine pw_mv (by rfl) rfl rfl ?_
     simp only [Act.put, pu]
     refine pw_mv (by rfl) rfl rfl ?_
     simp only [Act.put, pu]
     refine pw_skip (by rfl) ?_
     simp only [Act.put, pu]
     refine pw_skip (by rfl) ?_
     simp only [Act.put, pu]
     refine pw_skip (by rfl) ?_
     simp only [Act.put, pu]
     refine pw_skip (by rfl) ?_
     simp only [Act.put, pu]
     refine pw_skip (by rfl) ?_
     simp only [Act.put, pu]
     refine pw_skip (by rfl) ?_
     simp only [Act.put, pu]
     refine pw_skip (by rfl) ?_
     simp only [Act.put, pu]
     refine pw_skip (by rfl) ?_
     simp only [Act.put, pu]
     refine pw_skip (by rfl) ?_
     simp only [Act.put, pu]
     refine pw_pick (by rfl) false (v := .bool false) rfl rfl rfl ?_
     simp only [Act.put, pu]
     refine pw_pick (by rfl) false (v := .bool false) rfl rfl rfl ?_
     simp only [Act.put, pu]
     refine pw_mv (by rfl) rfl rfl ?_
     simp only [Act.put, pu]
     refine pw_mv (by rfl) rfl rfl ?_
     simp only [Act.put, pu]
     refine pw_value (by rfl) (.pointer (some ⟨g3, 0, none⟩)) (exec_field 34 _ 0 rfl g3 (0) rfl _ Try.underlying34 _ rfl 0 Try.sizeOf3) ?_
     simp only [Act.put, pu]
     refine pw_loadk (by rfl) 3 _ rfl _ (0) rfl r3.r (.int .i64 x.1) rfl Try.isAgg3 ?_
     simp only [Act.put, pu]
     refine pw_value (by rfl) (.pointer (some ⟨g3, 1, none⟩)) (exec_field 34 _ 1 rfl g3 (0) rfl _ Try.underlying34 _ rfl 1 Try.sizeOf32) ?_
     simp only [Act.put, pu]
     refine pw_loadm (by rfl) 32 _ rfl _ (1) rfl r3.r ((tsC x.2.1 x.2.2.1)) (rv_st x) _ Try.underlying32 rfl size_st ?_
     simp only [Act.put, pu]
     refine pw_value (by rfl) (.pointer (some ⟨g3, 3, none⟩)) (exec_field 34 _ 2 rfl g3 (0) rfl _ Try.underlying34 _ rfl 0 Try.sizeOf9) ?_
     simp only [Act.put, pu]
     refine pw_loadk (by rfl) 9 _ rfl _ (3) rfl r3.r (.string ⟨x.2.2.2.toArray⟩) rfl Try.isAgg9 ?_
     simp only [Act.put, pu]
     refine pw_callE (by rfl) 10 _ _ rfl Try.func10 (by kernel_rfl) #[.pointer (some ⟨g5, 0, none⟩), .int .i64 x.1, .agg (tsC x.2.1 x.2.2.1), .string ⟨x.2.2.2.toArray⟩] rfl (hPut _ _ r5) ?_
     have cr5 := r5.lt
     clear r5
     rintro _ z15030 ⟨rfl, r5, k⟩
     refine ⟨_, rfl, ?_⟩
     simp only [Act.put, pu]
     clear cr5
     replace r3 := k.row r3 (by simp <;> omega)
     replace r8 := k.row r8 (by simp <;> omega)
     replace sb := sb.trans (k.below w.heap.size sb.size (by simp <;> omega))
     clear k
     refine pw_mv (by rfl) rfl rfl ?_
     simp only [Act.put, pu]
     refine pw_value (by rfl) (.bool false) (x_nb _ _ _ _ rfl false false rfl rfl Try.underlying4 false rfl) ?_
     simp only [Act.put, pu]
     refine pw_pick (by rfl) false (v := .bool false) rfl rfl rfl ?_
     simp only [Act.put, pu]
     refine pw_nil ?_
     have hli := fun g => lit_vp g ip.size hszp
     (repeat ((fail_if_success with_reducible refine rg ?_); go_step))
     refine wp_region_pw ?_
     refine pw_value (by rfl) (.agg (voC 0 fun _ => vt0)) (exec_buildv _ [] rfl [] rfl _ built_vs0) ?_
     simp only [Act.put, pu]
     refine pw_boxr (by rfl) 51 _ rfl (voC 0 fun _ => vt0) rfl ?_
     intro g121 z17001 n0 r121 k
     simp only [Act.put, pu]
     have b121 := Nat.le_trans sb.size n0
     clear n0
     replace sb := sb.trans (k.below w.heap.size sb.size (by simp <;> omega))
     clear k
     refine pw_litr (by rfl) 52 25 2 _ rfl #[.pointer none, .pointer (some ⟨g121, 0, none⟩)] ip _ Try.underlying52 hip hzp hs1 hs2 [(0, .pointer none), (1, .pointer (some ⟨g121, 0, none⟩))] rfl (hli _) ?_
     intro gL z17002 n0 rL k
     simp only [Act.put, pu]
     have d121xL := Nat.lt_of_lt_of_le r121.lt n0
     have bL := Nat.le_trans sb.size n0
     clear n0
     replace r121 := k.row r121 (by simp <;> omega)
     replace sb := sb.trans (k.below w.heap.size sb.size (by simp <;> omega))
     clear k
     refine pw_as (by rfl) rfl rfl ?_
     simp only [Act.put, pu]
     refine pw_nil ?_
     clear hC hD hPut hli hip hzp hszp hs1 hs2
     (repeat ((fail_if_success with_reducible refine rg ?_); go_step))
     refine wp_region_pw ?_
     refine pw_value (by rfl) (.int .i64 0) (fun _ => rfl) ?_
     simp only [Act.put, pu]
     refine pw_nil ?_
     go_wp2_with fail
     go_loopg [4, 12, 13, 14] 2 (fun v s4 s12 s13 s14 wr => ∃ i : Nat, i + v = 2 ∧ s12 = .int .i64 i ∧ Row wr g121 (voC 0 fun _ => vt0) 51 ∧ Row wr gL #[.pointer none, .pointer (some ⟨g121, 0, none⟩)] 25 ∧ Below w.heap.size w wr)
     case atStart => exact ⟨0, by omega, rfl, r121, rL, sb⟩
     case round =>
      clear sb r121 rL
      obtain ⟨i, hi3, rfl, r121, rL, sb⟩ := hrel
      cases gk with
      | zero =>
       have h2 : ¬ (i : Int) < 2 := by omega
       (repeat ((fail_if_success with_reducible refine rg ?_); go_step))
       refine wp_region_pw ?_
       refine pw_mv (by rfl) rfl rfl ?_
       simp only [Act.put, pu]
       refine pw_mv (by rfl) rfl rfl ?_
       simp only [Act.put, pu]
       refine pw_value (by rfl) (.int .i64 ((2 : Nat) : Int)) (exec_len_s 52 _ rfl (some ⟨gL, 0, none⟩) (2) (2) rfl sl_vp) ?_
       simp only [Act.put, pu]
       refine pw_value (by rfl) (.bool false) (exec_lt_b _ _ _ _ rfl ((i : Nat)) (((2 : Nat) : Int)) rfl rfl false (decide_eq_false h2)) ?_
       simp only [Act.put, pu]
       refine pw_nil ?_
       (repeat ((fail_if_success with_reducible refine rg ?_); go_step))
       refine wp_region_pw ?_
       refine pw_callB (by rfl) 7 _ _ rfl Try.func7 (by kernel_rfl) #[] rfl _ (awake_any _) ?_
       intro z24000 k
       simp only [Act.put, pu]
       replace sb := sb.trans (k.below w.heap.size sb.size (by simp <;> omega))
       clear k
       refine pw_as (by rfl) rfl rfl ?_
       simp only [Act.put, pu]
       refine pw_nil ?_
       go_wp2
       go_ret
       exact ⟨rfl, sb⟩
      | succ yv =>
       have hi2 : i < 2 := by omega
       obtain ⟨q, hcq, hq⟩ := cop_at g121 i hi2
       have HQ : Hid (q = none ∨ q = some ⟨g121, 0, none⟩) := hq
       clear hq
       (repeat ((fail_if_success with_reducible refine rg ?_); go_step))
       refine wp_region_pw ?_
       refine pw_mv (by rfl) rfl rfl ?_
       simp only [Act.put, pu]
       refine pw_mv (by rfl) rfl rfl ?_
       simp only [Act.put, pu]
       refine pw_value (by rfl) (.int .i64 ((2 : Nat) : Int)) (exec_len_s 52 _ rfl (some ⟨gL, 0, none⟩) (2) (2) rfl sl_vp) ?_
       simp only [Act.put, pu]
       refine pw_value (by rfl) (.bool true) (exec_lt_b _ _ _ _ rfl ((i : Nat)) (((2 : Nat) : Int)) rfl rfl true (decide_eq_true (by omega))) ?_
       simp only [Act.put, pu]
       refine pw_nil ?_
       (repeat ((fail_if_success with_reducible refine rg ?_); go_step))
       refine wp_region_pw ?_
       refine pw_mv (by rfl) rfl rfl ?_
       simp only [Act.put, pu]
       refine pw_mv (by rfl) rfl rfl ?_
       simp only [Act.put, pu]
       refine pw_value (by rfl) (.pointer (some ⟨gL, 0 + i * 1, none⟩)) ((exec_index_s 52 _ _ rfl gL 0 (2) (2) rfl (i) rfl (hi2) _ Try.underlying52 1 Try.sizeOf25)) ?_
       simp only [Act.put, pu]
       refine pw_loadk (by rfl) 25 _ rfl _ (0 + i * 1) rfl rL.r (.pointer q) hcq Try.isAgg25 ?_
       simp only [Act.put, pu]
       refine pw_callB (by rfl) 13 _ _ rfl Try.func13 (by kernel_rfl) #[.pointer q, .int .i64 1, .int .i64 1, .int .i64 0] rfl _ (nov_at (HQ.out.imp id fun e => ⟨g121, e, r121⟩) 1 1 0) ?_
       intro z21004 k
       simp only [Act.put, pu]
       replace r121 := k.row r121 (by simp <;> omega)
       replace rL := k.row rL (by simp <;> omega)
       replace sb := sb.trans (k.below w.heap.size sb.size (by simp <;> omega))
       clear k
       refine pw_mv (by rfl) rfl rfl ?_
       simp only [Act.put, pu]
       refine pw_ext (by rfl) rfl rfl rfl ?_
       simp only [Act.put, pu]
       refine pw_ext (by rfl) rfl rfl rfl ?_
       simp only [Act.put, pu]
       refine pw_new (by rfl) 32 rfl _ zero_st ?_
       intro g13 z21008 n0 r13 k
       simp only [Act.put, pu]
       have d121x13 := Nat.lt_of_lt_of_le r121.lt n0
       have dLx13 := Nat.lt_of_lt_of_le rL.lt n0
       have b13 := Nat.le_trans sb.size n0
       clear n0
       replace r121 := k.row r121 (by simp <;> omega)
       replace rL := k.row rL (by simp <;> omega)
       replace sb := sb.trans (k.below w.heap.size sb.size (by simp <;> omega))
       clear k
       refine pw_put (by rfl) 32 _ _ rfl _ rfl r13 (tsC 0 0) rfl (by exact size_st) (by rfl) (st_one _ _) ?_
       clear r13
       intro z21009 r13 k
       simp only [Act.put]
       replace r121 := k.row r121 (by simp <;> omega)
       replace rL := k.row rL (by simp <;> omega)
       replace sb := sb.trans (k.below w.heap.size sb.size (by simp <;> omega))
       clear k
       refine pw_as (by rfl) rfl rfl ?_
       simp only [Act.put, pu]
       refine pw_nil ?_
       have hv : NoV _ q := HQ.out.imp id fun e => ⟨g121, e, r121⟩
       (repeat ((fail_if_success with_reducible refine rg ?_); go_step))
       refine wp_region_qw (by kernel_rfl) (by kernel_rfl) ?_
       refine qw_move (by rfl) rfl rfl ?_
       simp only [Act.put, pu]
       refine qw_move (by rfl) rfl rfl ?_
       simp only [Act.put, pu]
       refine qw_value (by rfl) (.pointer (some ⟨gL, 0 + i * 1, none⟩)) ((exec_index_s 52 _ _ rfl gL 0 (2) (2) rfl (i) rfl (hi2) _ Try.underlying52 1 Try.sizeOf25)) ?_
       simp only [Act.put, pu]
       refine qw_loadc (by rfl) 25 _ rfl _ (0 + i * 1) rfl rL (.pointer q) hcq Try.isAgg25 ?_
       simp only [Act.put, pu]
       refine qw_call (by rfl) 16 _ _ rfl Try.func16 (by kernel_rfl) #[.int .i64 1, .int .i64 1] rfl _ (of_any 1 1) ?_
       simp only [Act.put, pu]
       refine qw_callK (by rfl) 10 _ _ rfl Try.func10 (by kernel_rfl) #[.pointer q, .int .i64 1, .agg (tsC 1 1), .string ⟨#[100]⟩] rfl _ (fun w' hb => nov_put (hv.below hb) 1 1 1 [100]) ?_
       simp only [Act.put, pu]
       refine qw_move (by rfl) rfl rfl ?_
       simp only [Act.put, pu]
       refine qw_move (by rfl) rfl rfl ?_
       simp only [Act.put, pu]
       refine qw_move (by rfl) rfl rfl ?_
       simp only [Act.put, pu]
       refine qw_value (by rfl) (.pointer (some ⟨gL, 0 + i * 1, none⟩)) ((exec_index_s 52 _ _ rfl gL 0 (2) (2) rfl (i) rfl (hi2) _ Try.underlying52 1 Try.sizeOf25)) ?_
       simp only [Act.put, pu]
       refine qw_loadc (by rfl) 25 _ rfl _ (0 + i * 1) rfl rL (.pointer q) hcq Try.isAgg25 ?_
       simp only [Act.put, pu]
       refine qw_call (by rfl) 16 _ _ rfl Try.func16 (by kernel_rfl) #[.int .i64 1, .int .i64 1] rfl _ (of_any 1 1) ?_
       simp only [Act.put, pu]
       refine qw_callK (by rfl) 11 _ _ rfl Try.func11 (by kernel_rfl) #[.pointer q, .agg (tsC 1 1), .string ⟨#[100]⟩] rfl _ (fun w' hb => nov_cnt (hv.below hb) 1 1 [100]) ?_
       simp only [Act.put, pu]
       refine qw_value (by rfl) (.bool false) (exec_neq_k .i64 _ _ _ _ rfl (0) (0) rfl rfl false (by rw [decide_eq_true (by omega)]; rfl)) ?_
       simp only [Act.put, pu]
       refine qw_pick false (v := .bool false) (by rfl) rfl rfl rfl ?_
       simp only [Act.put, pu]
       refine qw_move (by rfl) rfl rfl ?_
       simp only [Act.put, pu]
       refine qw_loadm (by rfl) 32 _ rfl _ (0) rfl r13 ((tsC 0 0)) (part_all _) _ Try.underlying32 rfl size_st ?_
       simp only [Act.put, pu]
       refine qw_call (by rfl) 16 _ _ rfl Try.func16 (by kernel_rfl) #[.int .i64 0, .int .i64 0] rfl _ (of_any 0 0) ?_
       simp only [Act.put, pu]
       refine qw_value (by rfl) (.bool false) (exec_neq_st _ _ _ rfl 0 0 0 0 rfl rfl false (by decide)) ?_
       simp only [Act.put, pu]
       refine qw_pick false (v := .bool false) (by rfl) rfl rfl rfl ?_
       simp only [Act.put, pu]
       refine qw_move (by rfl) rfl rfl ?_
       simp only [Act.put, pu]
       refine qw_move (by rfl) rfl rfl ?_
       simp only [Act.put, pu]
       refine qw_value (by rfl) (.bool false) (y_neS _ _ _ _ rfl [] [] rfl rfl false (decide_eq_true rfl)) ?_
       simp only [Act.put, pu]
       refine qw_pick false (v := .bool false) (by rfl) rfl rfl rfl ?_
       simp only [Act.put, pu]
       refine qw_move (by rfl) rfl rfl ?_
       simp only [Act.put, pu]
       refine qw_move (by rfl) rfl rfl ?_
       simp only [Act.put, pu]
       refine qw_move (by rfl) rfl rfl ?_
       simp only [Act.put, pu]
       refine qw_value (by rfl) (.pointer (some ⟨gL, 0 + i * 1, none⟩)) ((exec_index_s 52 _ _ rfl gL 0 (2) (2) rfl (i) rfl (hi2) _ Try.underlying52 1 Try.sizeOf25)) ?_
       simp only [Act.put, pu]
       refine qw_loadc (by rfl) 25 _ rfl _ (0 + i * 1) rfl rL (.pointer q) hcq Try.isAgg25 ?_
       simp only [Act.put, pu]
       refine qw_callK (by rfl) 15 _ _ rfl Try.func15 (by kernel_rfl) #[.pointer q] rfl _ (fun w' hb => nov_copy (hv.below hb)) ?_
       simp only [Act.put, pu]
       refine qw_value (by rfl) (.bool false) (exec_neq_nilp _ _ _ _ rfl (none) rfl rfl ptr_vs) ?_
       simp only [Act.put, pu]
       refine qw_pick false (v := .bool false) (by rfl) rfl rfl rfl ?_
       simp only [Act.put, pu]
       refine qw_nil ?_
       intro w9 hqb
       replace r121 := r121.belowAll hqb
       replace rL := rL.belowAll hqb
       replace sb := below_on sb (Nat.le_refl _) hqb
       clear hqb
       (repeat ((fail_if_success with_reducible refine rg ?_); go_step))
       refine wp_region_pw ?_
       refine pw_mv (by rfl) rfl rfl ?_
       simp only [Act.put, pu]
       refine pw_value (by rfl) (.int .i64 (((i + 1 : Nat) : Int))) (x_addz _ _ _ _ rfl ((i : Nat)) (1) (((i + 1 : Nat) : Int)) rfl rfl (by omega) (by omega) (by omega)) ?_
       simp only [Act.put, pu]
       refine pw_as (by rfl) rfl rfl ?_
       simp only [Act.put, pu]
       refine pw_nil ?_
       go_wp2
       go_roundg yv
       case measure => omega
       case rel => exact ⟨i + 1, by omega, rfl, r121, rL, sb⟩
set_option maxRecDepth 100000 in
theorem lifted (os : Os) (started : os.Started) (H : Type) (enc : TypeId × Value → H) :
  ReturnsInHanded {} Try.checked os 5 .any (Rows.votesCopiedSpec.pre6 enc Try.prog Try.f5 Rows.votesCopiedRow.domain false) (Rows.votesCopiedSpec.post enc Try.prog Try.f5 false true false false) := by
 refine returnsInHanded_of_change (C := Try.checked) own started (by kernel_rfl) Try.func5
  (ChangeSpec.witness6 (enc := enc) (C := Try.checked) false ⟨#[], #[.slice none 0 0, .agg #[.int .i64 0, .int .i64 0, .int .i64 0, .string ⟨#[]⟩]], []⟩ 8 (by kernel_rfl) (by kernel_rfl) (by kernel_rfl) (by kernel_rfl)) ?_
 intro W base args ds gs before hval0 hW hcnd _
 have hval : ∀ (j : Nat) t v, Try.f5.params[j]? = some t → args[j]? = some v → Value.okWide Try.prog W .any base t v := hval0
 have hW' := hW
 obtain ⟨p, q, hA0, hV, rfl, hfz, hnd⟩ := hW
 have hA : DataW.TrodAll enc Try.prog W 0 (fun _ => true) true Try.f5.params.toList args.toList ds p := hA0
 rw [Try.params5] at hA hval
 obtain ⟨v0, vs0, d0, ds0, p0, q0, hargs, rfl, rfl, h0, r0⟩ := trodAll_cons hA
 obtain ⟨v1, vs1, d1, ds1, p1, q1, rfl, rfl, rfl, h1, r1⟩ := trodAll_cons r0
 obtain ⟨rfl, rfl, rfl⟩ := trodAll_nil r1
 obtain rfl : args = #[v0, v1] := by cases args; simp_all
 obtain ⟨rfl, rfl⟩ := trodVars_none hV
 have k0 := h0
 have lt0 := lt_of_trod h0
 obtain ⟨ab0, c0, L0, gb0, ob0, bcs0, tb0, rfl, hn0, hz0⟩ := open_rvs (hval 0 22 v0 rfl rfl) h0
 have k1 := h1
 have lt1 := lt_of_trod h1
 obtain ⟨x1, rfl⟩ := open_rv (hval 1 34 v1 rfl rfl) h1
 clear hA0 hval0
 refine (walk ab0 c0 L0 gb0 ob0 bcs0 tb0 x1 W hn0 hz0).mono fun e W' ⟨he, bel⟩ => ?_
 subst he
 exact ⟨_, rfl, _, _, _, [], _, [], hW', trodAll_mk1 (shut_bool Try.underlying4 _), (trodAll_cons_mk (Below.trod laidOut (by kernel_rfl) (of_decide_eq_true (by kernel_rfl)) k0 bel lt0) (trodAll_cons_mk (Below.trod laidOut (by kernel_rfl) (of_decide_eq_true (by kernel_rfl)) k1 bel lt1) trodAll_mk0)), rfl, bel.frame _, fun h => by cases h⟩
theorem over : Rows.votesCopiedRow.holds Try.pinned (OpenSpec.ofChange Rows.votesCopiedSpec) :=
 OpenClaim.holds_of_wide 5 Try.f5 rfl rfl rfl rfl rfl rfl rfl ⟨rfl, rfl, rfl, rfl, rfl⟩ rfl rfl rfl rfl rfl (by kernel_rfl) Try.func5 (by kernel_rfl)
  (of_decide_eq_true (by kernel_rfl)) (by unfold Func.isWrapper; first | (rw [if_pos (by decide +kernel)]; kernel_rfl) | (rw [if_neg (by decide +kernel)]; exact ⟨rfl, rfl⟩))
  (fun os started H enc _ => lifted os started H enc)
end votesCopiedP
/-- for any votes, up to 40 of few bytes, and one more: a copy has the same votes, and goes its own way; votes that nobody made answer nothing; no condition. -/
theorem votesCopied_holds : Rows.VotesCopiedSaid := votesCopiedP.over
end Go.Proofs.Ytdbcikhineghcaa
