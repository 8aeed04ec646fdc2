/- What must come, whatever the arguments are (layer 22); the law's short. -/
import Derived.Test.YtchiiphmpkmloaaSpRSo
namespace Go.Proofs.Ytchiiphmpkmloaa
open Go.RowKit
set_option linter.unusedVariables false
set_option linter.unusedSectionVars false
set_option linter.unusedSimpArgs false
theorem sl_acs : Try.prog.underlying 23 = some (.slice (Try.prog.elem 23)) := by kernel_rfl
theorem ac_at {L : List Ac} {i : Nat} (h : i < L.length) : ∃ x, L.getD i ac0 = x ∧ acC L i = acA x := ⟨_, rfl, rfl⟩
theorem ac_part {bcs : Array Value} {o : Nat} {x : Ac} {C : Array Value} (hC : C = acA x) (h : ∀ j v, C.toList[j]? = some v → bcs[o + j]? = some v) : bcs[o]? = some (.string ⟨x.1.toArray⟩) ∧ bcs[o + 1]? = some (.int .i64 x.2) := by
 subst hC
 exact ⟨h 0 _ rfl, h 1 _ rfl⟩
/-- Have acts few bytes? -/
def shB (L : List Ac) : Bool := decide (L.length ≤ 60) && L.all fun x => decide (x.1.length ≤ 40)
theorem shB_yes {L : List Ac} (h : shB L = true) : L.length ≤ 60 ∧ ∀ j, j < L.length → (L.getD j ac0).1.length ≤ 40 := by
 unfold shB at h
 rw [Bool.and_eq_true, decide_eq_true_iff, List.all_eq_true] at h
 refine ⟨h.1, fun j hj => ?_⟩
 rw [List.getD_eq_getElem?_getD, List.getElem?_eq_getElem hj, Option.getD_some]
 exact of_decide_eq_true (h.2 _ (List.getElem_mem hj))
theorem shB_no {L : List Ac} {j : Nat} (hj : j < L.length) (h : 40 < (L.getD j ac0).1.length) : shB L = false := by
 cases e : shB L with
 | false => rfl
 | true => have := (shB_yes e).2 j hj; omega
theorem shB_is {L : List Ac} {j : Nat} (hj : j = min L.length 60) (h : ∀ i, i < j → (L.getD i ac0).1.length ≤ 40) : shB L = decide (L.length ≤ 60) := by
 unfold shB
 by_cases e : L.length ≤ 60
 ·rw [decide_eq_true e, Bool.true_and, List.all_eq_true]
  intro x hx
  obtain ⟨i, hi, rfl⟩ := List.mem_iff_getElem.1 hx
  have := h i (by omega)
  rw [List.getD_eq_getElem?_getD, List.getElem?_eq_getElem hi, Option.getD_some] at this
  exact decide_eq_true this
 ·rw [decide_eq_false e]; rfl
set_option maxRecDepth 100000 in
set_option maxHeartbeats 2000000 in
theorem short_any (ab : Option Addr) (c : Nat) (L : List Ac) (gb ob : Nat) (bcs : Array Value) (tb : TypeId) (w : World) (hz : ElsAt 2 w ab L.length (acC L) gb ob bcs tb) :
  Calls Try.prog 7 #[.slice ab L.length c] w fun e w' => e = .returned (.bool (shB L)) ∧ Below w.heap.size w w' := by
 have HB : Hid (ElsAt 2 w ab L.length (acC L) gb ob bcs tb) := hz
 obtain ⟨R, hR⟩ : ∃ R, shB L = R := ⟨_, rfl⟩
 have HR : Hid (shB L = R) := hR
 rw [hR]
 clear hz hR
 go_enter Try.func7, Try.ntmps7
 have sb := sbmk w
 (repeat ((fail_if_success with_reducible refine rg ?_); go_step))
 refine wp_region_pw ?_
 refine pw_value (by rfl) (.bool false) (fun _ => rfl) ?_
 simp only [Act.put, pu]
 refine pw_nil ?_
 (repeat ((fail_if_success with_reducible refine rg ?_); go_step))
 refine wp_region_pw ?_
 refine pw_value (by rfl) (.int .i64 0) (fun _ => rfl) ?_
 simp only [Act.put, pu]
 refine pw_nil ?_
 go_wp2_with fail
 go_loopg [2, 3] (min L.length 60) (fun x s2 s3 wr => ∃ j : Nat, j + x = min L.length 60 ∧ s3 = .int .i64 (j : Nat) ∧ (∀ i, i < j → (L.getD i ac0).1.length ≤ 40) ∧ Below w.heap.size w wr)
 case atStart => exact ⟨0, by omega, rfl, fun i hi => absurd hi (Nat.not_lt_zero _), sb⟩
 case round =>
  clear sb
  obtain ⟨j, hj, rfl, hall, sb⟩ := hrel
  have HA : Hid (∀ i, i < j → (L.getD i ac0).1.length ≤ 40) := hall
  clear hall
  cases gk with
  | zero =>
   have hjm : j = min L.length 60 := by omega
   have HS : Hid (R = decide (L.length ≤ 60)) := by rw [← HR.out]; exact shB_is hjm HA.out
   clear HA hj
   by_cases h10 : j < L.length
   ·have h1 : (j : Int) < (L.length : Int) := by omega
    have h60 : j = 60 := by omega
    have h2 : ¬ (L.length : Int) ≤ 60 := by omega
    have HF : Hid (R = false) := by rw [HS.out]; exact decide_eq_false (by omega)
    clear hjm h10
    (repeat ((fail_if_success with_reducible refine rg ?_); go_step))
    refine wp_region_pw ?_
    refine pw_mv (by rfl) rfl rfl ?_
    simp only [Act.put, pu]
    refine pw_mv (by rfl) rfl rfl ?_
    simp only [Act.put, pu]
    refine pw_value (by rfl) (.int .i64 (L.length : Nat)) (exec_len_s 23 _ rfl (ab) (L.length) (c) rfl sl_acs) ?_
    simp only [Act.put, pu]
    refine pw_value (by rfl) (.bool true) (exec_lt_b _ _ _ _ rfl ((j : Nat)) ((L.length : Nat)) rfl rfl true (decide_eq_true h1)) ?_
    simp only [Act.put, pu]
    refine pw_mv (by rfl) rfl rfl ?_
    simp only [Act.put, pu]
    refine pw_mv (by rfl) rfl rfl ?_
    simp only [Act.put, pu]
    refine pw_value (by rfl) (.bool false) (exec_lt_b _ _ _ _ rfl ((j : Nat)) (60) rfl rfl false (decide_eq_false (by omega))) ?_
    simp only [Act.put, pu]
    refine pw_pick (by rfl) true (v := .bool false) rfl rfl rfl ?_
    simp only [Act.put, pu]
    refine pw_nil ?_
    (repeat ((fail_if_success with_reducible refine rg ?_); go_step))
    refine wp_region_pw ?_
    refine pw_mv (by rfl) rfl rfl ?_
    simp only [Act.put, pu]
    refine pw_value (by rfl) (.int .i64 (L.length : Nat)) (exec_len_s 23 _ rfl (ab) (L.length) (c) rfl sl_acs) ?_
    simp only [Act.put, pu]
    refine pw_value (by rfl) (.bool false) (exec_leq_i _ _ _ _ rfl ((L.length : Nat)) (60) rfl rfl false (decide_eq_false h2)) ?_
    simp only [Act.put, pu]
    refine pw_as (by rfl) rfl rfl ?_
    simp only [Act.put, pu]
    refine pw_nil ?_
    go_wp2
    go_ret
    exact ⟨by rw [HF.out]; rfl, sb⟩
   ·have h1 : ¬ (j : Int) < (L.length : Int) := by omega
    have h2 : (L.length : Int) ≤ 60 := by omega
    have HF : Hid (R = true) := by rw [HS.out]; exact decide_eq_true (by omega)
    clear hjm h10
    (repeat ((fail_if_success with_reducible refine rg ?_); go_step))
    refine wp_region_pw ?_
    refine pw_mv (by rfl) rfl rfl ?_
    simp only [Act.put, pu]
    refine pw_mv (by rfl) rfl rfl ?_
    simp only [Act.put, pu]
    refine pw_value (by rfl) (.int .i64 (L.length : Nat)) (exec_len_s 23 _ rfl (ab) (L.length) (c) rfl sl_acs) ?_
    simp only [Act.put, pu]
    refine pw_value (by rfl) (.bool false) (exec_lt_b _ _ _ _ rfl ((j : Nat)) ((L.length : Nat)) rfl rfl false (decide_eq_false h1)) ?_
    simp only [Act.put, pu]
    refine pw_mv (by rfl) rfl rfl ?_
    simp only [Act.put, pu]
    refine pw_skip (by rfl) ?_
    simp only [Act.put, pu]
    refine pw_skip (by rfl) ?_
    simp only [Act.put, pu]
    refine pw_pick (by rfl) false (v := .bool false) rfl rfl rfl ?_
    simp only [Act.put, pu]
    refine pw_nil ?_
    (repeat ((fail_if_success with_reducible refine rg ?_); go_step))
    refine wp_region_pw ?_
    refine pw_mv (by rfl) rfl rfl ?_
    simp only [Act.put, pu]
    refine pw_value (by rfl) (.int .i64 (L.length : Nat)) (exec_len_s 23 _ rfl (ab) (L.length) (c) rfl sl_acs) ?_
    simp only [Act.put, pu]
    refine pw_value (by rfl) (.bool true) (exec_leq_i _ _ _ _ rfl ((L.length : Nat)) (60) rfl rfl true (decide_eq_true h2)) ?_
    simp only [Act.put, pu]
    refine pw_as (by rfl) rfl rfl ?_
    simp only [Act.put, pu]
    refine pw_nil ?_
    go_wp2
    go_ret
    exact ⟨by rw [HF.out]; rfl, sb⟩
  | succ y =>
   have hlt : j < L.length := by omega
   have h1 : (j : Int) < (L.length : Int) := by omega
   obtain h0 | ⟨rfl, rB, hbt⟩ := (HB.out.below sb).at'
   ·exact absurd h0 (by omega)
   obtain ⟨x, hxg, hx⟩ := ac_at hlt
   obtain ⟨hdg, _⟩ := ac_part hx (hbt j hlt)
   have HX : Hid (L.getD j ac0 = x) := hxg
   have hj60 : j < 60 := by omega
   clear hbt hx hxg
   by_cases h30 : (x.1.length : Int) ≤ 40
   ·have h3 : ¬ (x.1.length : Int) > 40 := by omega
    (repeat ((fail_if_success with_reducible refine rg ?_); go_step))
    refine wp_region_pw ?_
    refine pw_mv (by rfl) rfl rfl ?_
    simp only [Act.put, pu]
    refine pw_mv (by rfl) rfl rfl ?_
    simp only [Act.put, pu]
    refine pw_value (by rfl) (.int .i64 (L.length : Nat)) (exec_len_s 23 _ rfl (some ⟨gb, ob, none⟩) (L.length) (c) rfl sl_acs) ?_
    simp only [Act.put, pu]
    refine pw_value (by rfl) (.bool true) (exec_lt_b _ _ _ _ rfl ((j : Nat)) ((L.length : Nat)) rfl rfl true (decide_eq_true h1)) ?_
    simp only [Act.put, pu]
    refine pw_mv (by rfl) rfl rfl ?_
    simp only [Act.put, pu]
    refine pw_mv (by rfl) rfl rfl ?_
    simp only [Act.put, pu]
    refine pw_value (by rfl) (.bool true) (exec_lt_b _ _ _ _ rfl ((j : Nat)) (60) rfl rfl true (decide_eq_true (by omega))) ?_
    simp only [Act.put, pu]
    refine pw_pick (by rfl) true (v := .bool true) rfl rfl rfl ?_
    simp only [Act.put, pu]
    refine pw_nil ?_
    (repeat ((fail_if_success with_reducible refine rg ?_); go_step))
    refine wp_region_pw ?_
    refine pw_mv (by rfl) rfl rfl ?_
    simp only [Act.put, pu]
    refine pw_mv (by rfl) rfl rfl ?_
    simp only [Act.put, pu]
    refine pw_value (by rfl) (.pointer (some ⟨gb, ob + j * 2, none⟩)) ((exec_index_s 23 _ _ rfl (gb) (ob) (L.length) (c) rfl (j) rfl (hlt) _ Try.underlying23 2 Try.sizeOf37)) ?_
    simp only [Act.put, pu]
    refine pw_value (by rfl) (.pointer (some ⟨gb, ob + j * 2, none⟩)) (exec_field 37 _ 0 rfl gb (ob + j * 2) rfl _ Try.underlying37 _ rfl 0 Try.sizeOf9) ?_
    simp only [Act.put, pu]
    refine pw_loadk (by rfl) 9 _ rfl _ (ob + j * 2) rfl rB (.string ⟨x.1.toArray⟩) hdg Try.isAgg9 ?_
    simp only [Act.put, pu]
    refine pw_value (by rfl) (.int .i64 (x.1.length : Nat)) (y_lenS _ _ rfl x.1 rfl Try.underlying9) ?_
    simp only [Act.put, pu]
    refine pw_value (by rfl) (.bool false) (exec_gt_i _ _ _ _ rfl ((x.1.length : Nat)) (40) rfl rfl false (decide_eq_false h3)) ?_
    simp only [Act.put, pu]
    refine pw_nil ?_
    (repeat ((fail_if_success with_reducible refine rg ?_); go_step))
    refine wp_region_pw ?_
    refine pw_mv (by rfl) rfl rfl ?_
    simp only [Act.put, pu]
    refine pw_value (by rfl) (.int .i64 (((j + 1 : Nat) : Int))) (x_addz _ _ _ _ rfl ((j : Nat)) (1) (((j + 1 : Nat) : Int)) rfl rfl (by omega) (by omega) (by omega)) ?_
    simp only [Act.put, pu]
    refine pw_as (by rfl) rfl rfl ?_
    simp only [Act.put, pu]
    refine pw_nil ?_
    go_wp2
    go_roundg y
    case measure => omega
    case rel =>
     refine ⟨j + 1, by omega, rfl, fun i hi => ?_, sb⟩
     by_cases e : i = j
     ·rw [e, HX.out]; omega
     ·exact HA.out i (by omega)
   ·have h3 : (x.1.length : Int) > 40 := by omega
    have HF : Hid (R = false) := by rw [← HR.out]; exact shB_no hlt (by rw [HX.out]; omega)
    (repeat ((fail_if_success with_reducible refine rg ?_); go_step))
    refine wp_region_pw ?_
    refine pw_mv (by rfl) rfl rfl ?_
    simp only [Act.put, pu]
    refine pw_mv (by rfl) rfl rfl ?_
    simp only [Act.put, pu]
    refine pw_value (by rfl) (.int .i64 (L.length : Nat)) (exec_len_s 23 _ rfl (some ⟨gb, ob, none⟩) (L.length) (c) rfl sl_acs) ?_
    simp only [Act.put, pu]
    refine pw_value (by rfl) (.bool true) (exec_lt_b _ _ _ _ rfl ((j : Nat)) ((L.length : Nat)) rfl rfl true (decide_eq_true h1)) ?_
    simp only [Act.put, pu]
    refine pw_mv (by rfl) rfl rfl ?_
    simp only [Act.put, pu]
    refine pw_mv (by rfl) rfl rfl ?_
    simp only [Act.put, pu]
    refine pw_value (by rfl) (.bool true) (exec_lt_b _ _ _ _ rfl ((j : Nat)) (60) rfl rfl true (decide_eq_true (by omega))) ?_
    simp only [Act.put, pu]
    refine pw_pick (by rfl) true (v := .bool true) rfl rfl rfl ?_
    simp only [Act.put, pu]
    refine pw_nil ?_
    (repeat ((fail_if_success with_reducible refine rg ?_); go_step))
    refine wp_region_pw ?_
    refine pw_mv (by rfl) rfl rfl ?_
    simp only [Act.put, pu]
    refine pw_mv (by rfl) rfl rfl ?_
    simp only [Act.put, pu]
    refine pw_value (by rfl) (.pointer (some ⟨gb, ob + j * 2, none⟩)) ((exec_index_s 23 _ _ rfl (gb) (ob) (L.length) (c) rfl (j) rfl (hlt) _ Try.underlying23 2 Try.sizeOf37)) ?_
    simp only [Act.put, pu]
    refine pw_value (by rfl) (.pointer (some ⟨gb, ob + j * 2, none⟩)) (exec_field 37 _ 0 rfl gb (ob + j * 2) rfl _ Try.underlying37 _ rfl 0 Try.sizeOf9) ?_
    simp only [Act.put, pu]
    refine pw_loadk (by rfl) 9 _ rfl _ (ob + j * 2) rfl rB (.string ⟨x.1.toArray⟩) hdg Try.isAgg9 ?_
    simp only [Act.put, pu]
    refine pw_value (by rfl) (.int .i64 (x.1.length : Nat)) (y_lenS _ _ rfl x.1 rfl Try.underlying9) ?_
    simp only [Act.put, pu]
    refine pw_value (by rfl) (.bool true) (exec_gt_i _ _ _ _ rfl ((x.1.length : Nat)) (40) rfl rfl true (decide_eq_true h3)) ?_
    simp only [Act.put, pu]
    refine pw_nil ?_
    (repeat ((fail_if_success with_reducible refine rg ?_); go_step))
    refine wp_region_pw ?_
    refine pw_value (by rfl) (.bool false) (fun _ => rfl) ?_
    simp only [Act.put, pu]
    refine pw_nil ?_
    go_wp2
    go_ret
    exact ⟨by rw [HF.out]; rfl, sb⟩
/-- Open: all that lies below the base stays. -/
theorem opn_b {w w0 : World} {g : Nat} {n m : Int} {l : List Ky} {U : Int → Int} {B : List Nat} (h : SpAt w w0.heap.size g n m l U B) (hb : Below w0.heap.size w0 w) (x : Ky) (e : Int) (hl : l.length ≤ 1000) (hx : x.length ≤ 16777216) :
  Calls Try.prog 11 #[.pointer (some ⟨g, 0, none⟩), .string ⟨x.toArray⟩, .int .i64 e] w fun e' w' => ∃ B2, e' = .returned (.tuple #[.int .i64 (opP n m l (U e) x e : Nat), .bool (opF n m l (U e) x e), .int .i64 (opE n m l (U e) x e)]) ∧ SpAt w' w0.heap.size g n m (opK n m l (U e) x e) (opU n m l U x e) B2 ∧ Below w0.heap.size w w' := by
 have hlo := h.lo
 refine (opn_any h hb.size x e hl hx).mono ?_
 rintro e' w' ⟨B2, rfl, h2, hk, _⟩
 exact ⟨B2, rfl, h2, hk.below _ hb.size hlo⟩
theorem opn_is {w w0 : World} {g : Nat} {n m : Int} {l l2 : List Ky} {U U2 : Int → Int} {B : List Nat} {p : Nat} {f : Bool} {er : Int} (h : SpAt w w0.heap.size g n m l U B) (hb : Below w0.heap.size w0 w) (x : Ky) (e : Int) (hl : l.length ≤ 1000) (hx : x.length ≤ 16777216)
  (h1 : opP n m l (U e) x e = p) (h2 : opF n m l (U e) x e = f) (h3 : opE n m l (U e) x e = er) (h4 : opK n m l (U e) x e = l2) (h5 : opU n m l U x e = U2) :
  Calls Try.prog 11 #[.pointer (some ⟨g, 0, none⟩), .string ⟨x.toArray⟩, .int .i64 e] w fun e' w' => ∃ B2, e' = .returned (.tuple #[.int .i64 (p : Nat), .bool f, .int .i64 er]) ∧ SpAt w' w0.heap.size g n m l2 U2 B2 ∧ Below w0.heap.size w w' := by
 subst h1 h2 h3 h4 h5
 exact opn_b h hb x e hl hx
def uA1 : Int → Int := opU 4 2 [] (fun _ => 0) [98] 5
def uA2 : Int → Int := opU 4 2 [[98]] uA1 [97] 5
theorem lit_ab (k : Nat) (hk : k = 1) : Instr.fill (fun i => some (i * k, k)) ((Array.range (2 * k)).map ((Value.string ⟨#[]⟩).cells[· % (Value.string ⟨#[]⟩).cells.size]!)) [(0, .string ⟨#[97]⟩), (1, .string ⟨#[98]⟩)] = some #[strV [97], strV [98]] := by
 subst hk
 kernel_rfl
theorem rsame_ab {w : World} {a2 : Option Addr} {c1 g2 gL c2 : Nat} {cs : Array Value} (hE : ElsAt 1 w a2 2 (stC [[97], [98]]) g2 0 cs 9) (rL : Row w gL #[strV [97], strV [98]] 9) :
  Calls Try.prog 18 #[.slice a2 2 c1, .slice (some ⟨gL, 0, none⟩) 2 c2] w fun e w' => e = .returned (.bool true) ∧ Below w.heap.size w w' := by
 have h := rsame_any a2 c1 [[97], [98]] g2 0 cs 9 (some ⟨gL, 0, none⟩) c2 [[97], [98]] gL 0 _ 9 w (by decide) (by decide) hE ⟨.inr ⟨rfl, rL.r, fun i hi j v hj => by
  have hi2 : i < 2 := hi
  match i, hi2 with
  | 0, _ =>
   match j, hj with
   | 0, e => exact e
  | 1, _ =>
   match j, hj with
   | 0, e => exact e⟩⟩
 exact h
set_option maxRecDepth 100000 in
set_option maxHeartbeats 2000000 in
theorem awake_any (w : World) : Calls Try.prog 8 #[] w fun e w' => e = .returned (.bool true) ∧ Below w.heap.size w w' := by
 go_enter Try.func8, Try.ntmps8
 have sb := sbmk w
 (repeat ((fail_if_success with_reducible refine rg ?_); go_step))
 refine wp_region_pw ?_
 refine pw_value (by rfl) (.bool false) (fun _ => rfl) ?_
 simp only [Act.put, List.setIfInBounds_toArray, List.set_cons_zero]
 refine pw_nil ?_
 (repeat ((fail_if_success with_reducible refine rg ?_); go_step))
 refine wp_region_pw ?_
 refine pw_callE (by rfl) 9 _ _ rfl Try.func9 (by kernel_rfl) #[.int .i64 4, .int .i64 2] rfl (new_at (base := w.heap.size) sb.size (by decide) (by decide) (by decide) (by decide)) ?_
 rintro _ z1000 ⟨g1, B1, rfl, hA, _, hb⟩
 refine ⟨_, rfl, ?_⟩
 simp only [Act.put, pu]
 have k := Kept.ofBelow hb
 clear hb
 replace sb := sb.trans (k.below w.heap.size sb.size (by simp <;> omega))
 clear k
 refine pw_mv (by rfl) rfl rfl ?_
 simp only [Act.put, pu]
 refine pw_ext (by rfl) rfl rfl rfl ?_
 simp only [Act.put, pu]
 refine pw_ext (by rfl) rfl rfl rfl ?_
 simp only [Act.put, pu]
 refine pw_as (by rfl) rfl rfl ?_
 simp only [Act.put, pu]
 refine pw_as (by rfl) rfl rfl ?_
 simp only [Act.put, pu]
 refine pw_nil ?_
 (repeat ((fail_if_success with_reducible refine rg ?_); go_step))
 refine wp_region_pw ?_
 refine pw_mv (by rfl) rfl rfl ?_
 simp only [Act.put, pu]
 refine pw_value (by rfl) (.bool false) (exec_neq_k .i64 _ _ _ _ rfl (0) (0) rfl rfl false (by rw [decide_eq_true (by omega)]; rfl)) ?_
 simp only [Act.put, pu]
 refine pw_mv (by rfl) rfl rfl ?_
 simp only [Act.put, pu]
 refine pw_mv (by rfl) rfl rfl ?_
 simp only [Act.put, pu]
 refine pw_value (by rfl) (.bool false) (exec_eql_nilp _ _ _ _ rfl (some ⟨g1, 0, none⟩) rfl rfl ptr_sp) ?_
 simp only [Act.put, pu]
 refine pw_pick (by rfl) false (v := .bool false) rfl rfl rfl ?_
 simp only [Act.put, pu]
 refine pw_nil ?_
 (repeat ((fail_if_success with_reducible refine rg ?_); go_step))
 refine wp_region_pw ?_
 refine pw_mv (by rfl) rfl rfl ?_
 simp only [Act.put, pu]
 refine pw_callE (by rfl) 11 _ _ rfl Try.func11 (by kernel_rfl) #[.pointer (some ⟨g1, 0, none⟩), .string ⟨#[98]⟩, .int .i64 5] rfl (opn_is (x := [98]) (e := 5) (l2 := [[98]]) (U2 := uA1) (p := 0) (f := true) (er := 0) hA sb (by decide) (by decide) (by decide) (by decide) (by decide) (by decide) (rfl)) ?_
 clear hA
 rintro _ z4001 ⟨B1, rfl, hA, hb⟩
 refine ⟨_, rfl, ?_⟩
 simp only [Act.put, pu]
 replace sb := sb.trans hb
 clear hb
 refine pw_mv (by rfl) rfl rfl ?_
 simp only [Act.put, pu]
 refine pw_ext (by rfl) rfl rfl rfl ?_
 simp only [Act.put, pu]
 refine pw_ext (by rfl) rfl rfl rfl ?_
 simp only [Act.put, pu]
 refine pw_ext (by rfl) rfl rfl rfl ?_
 simp only [Act.put, pu]
 refine pw_as (by rfl) rfl rfl ?_
 simp only [Act.put, pu]
 refine pw_as (by rfl) rfl rfl ?_
 simp only [Act.put, pu]
 refine pw_as (by rfl) rfl rfl ?_
 simp only [Act.put, pu]
 refine pw_nil ?_
 (repeat ((fail_if_success with_reducible refine rg ?_); go_step))
 refine wp_region_pw ?_
 refine pw_mv (by rfl) rfl rfl ?_
 simp only [Act.put, pu]
 refine pw_callE (by rfl) 11 _ _ rfl Try.func11 (by kernel_rfl) #[.pointer (some ⟨g1, 0, none⟩), .string ⟨#[97]⟩, .int .i64 5] rfl (opn_is (x := [97]) (e := 5) (l2 := [[97], [98]]) (U2 := uA2) (p := 0) (f := true) (er := 0) hA sb (by decide) (by decide) (by decide) (by decide) (by decide) (by decide) (rfl)) ?_
 clear hA
 rintro _ z5001 ⟨B1, rfl, hA, hb⟩
 refine ⟨_, rfl, ?_⟩
 simp only [Act.put, pu]
 replace sb := sb.trans hb
 clear hb
 refine pw_mv (by rfl) rfl rfl ?_
 simp only [Act.put, pu]
 refine pw_ext (by rfl) rfl rfl rfl ?_
 simp only [Act.put, pu]
 refine pw_ext (by rfl) rfl rfl rfl ?_
 simp only [Act.put, pu]
 refine pw_ext (by rfl) rfl rfl rfl ?_
 simp only [Act.put, pu]
 refine pw_as (by rfl) rfl rfl ?_
 simp only [Act.put, pu]
 refine pw_as (by rfl) rfl rfl ?_
 simp only [Act.put, pu]
 refine pw_as (by rfl) rfl rfl ?_
 simp only [Act.put, pu]
 refine pw_nil ?_
 (repeat ((fail_if_success with_reducible refine rg ?_); go_step))
 refine wp_region_pw ?_
 refine pw_mv (by rfl) rfl rfl ?_
 simp only [Act.put, pu]
 refine pw_callE (by rfl) 11 _ _ rfl Try.func11 (by kernel_rfl) #[.pointer (some ⟨g1, 0, none⟩), .string ⟨#[98]⟩, .int .i64 1] rfl (opn_is (x := [98]) (e := 1) (l2 := [[97], [98]]) (U2 := uA2) (p := 1) (f := false) (er := 0) hA sb (by decide) (by decide) (by decide) (by decide) (by decide) (by decide) (rfl)) ?_
 clear hA
 rintro _ z6001 ⟨B1, rfl, hA, hb⟩
 refine ⟨_, rfl, ?_⟩
 simp only [Act.put, pu]
 replace sb := sb.trans hb
 clear hb
 refine pw_mv (by rfl) rfl rfl ?_
 simp only [Act.put, pu]
 refine pw_ext (by rfl) rfl rfl rfl ?_
 simp only [Act.put, pu]
 refine pw_ext (by rfl) rfl rfl rfl ?_
 simp only [Act.put, pu]
 refine pw_ext (by rfl) rfl rfl rfl ?_
 simp only [Act.put, pu]
 refine pw_as (by rfl) rfl rfl ?_
 simp only [Act.put, pu]
 refine pw_as (by rfl) rfl rfl ?_
 simp only [Act.put, pu]
 refine pw_as (by rfl) rfl rfl ?_
 simp only [Act.put, pu]
 refine pw_nil ?_
 have hfp : fdP [[97], [98]] [98] = 1 := by decide
 have hfb : fdB [[97], [98]] [98] = true := by decide
 have hf := fnd_at hA [98] (by decide)
 rw [hfp, hfb] at hf
 (repeat ((fail_if_success with_reducible refine rg ?_); go_step))
 refine wp_region_pw ?_
 refine pw_mv (by rfl) rfl rfl ?_
 simp only [Act.put, pu]
 refine pw_callB (by rfl) 12 _ _ rfl Try.func12 (by kernel_rfl) #[.pointer (some ⟨g1, 0, none⟩), .string ⟨#[98]⟩] rfl _ (hf) ?_
 intro z7001 k
 simp only [Act.put, pu]
 replace hA := hA.below k.nil
 replace sb := sb.trans (k.below w.heap.size sb.size (by simp <;> omega))
 clear k
 refine pw_mv (by rfl) rfl rfl ?_
 simp only [Act.put, pu]
 refine pw_ext (by rfl) rfl rfl rfl ?_
 simp only [Act.put, pu]
 refine pw_ext (by rfl) rfl rfl rfl ?_
 simp only [Act.put, pu]
 refine pw_as (by rfl) rfl rfl ?_
 simp only [Act.put, pu]
 refine pw_as (by rfl) rfl rfl ?_
 simp only [Act.put, pu]
 refine pw_nil ?_
 have hu5 : uA2 5 = 2 := by decide
 have hu1 : uA2 1 = 0 := by decide
 have hq5 : quo 4 2 5 = 4 := by decide
 have hq1 : quo 4 2 1 = 32 := by decide
 obtain ⟨is, hsi, hsz, hss, hsb⟩ := of_info info_str
 have q1 : ¬ 2 * is.size > 2 ^ 24 := by rw [hss]; decide
 have q2 : ¬ 2 * is.size = 0 := by rw [hss]; decide
 have ql := lit_ab is.size hss
 (repeat ((fail_if_success with_reducible refine rg ?_); go_step))
 refine wp_region_pw ?_
 refine pw_mv (by rfl) rfl rfl ?_
 simp only [Act.put, pu]
 refine pw_mv (by rfl) rfl rfl ?_
 simp only [Act.put, pu]
 refine pw_mv (by rfl) rfl rfl ?_
 simp only [Act.put, pu]
 refine pw_pick (by rfl) true (v := .bool true) rfl rfl rfl ?_
 simp only [Act.put, pu]
 refine pw_mv (by rfl) rfl rfl ?_
 simp only [Act.put, pu]
 refine pw_mv (by rfl) rfl rfl ?_
 simp only [Act.put, pu]
 refine pw_value (by rfl) (.bool true) (exec_not _ _ rfl false rfl) ?_
 simp only [Act.put, pu]
 refine pw_pick (by rfl) true (v := .bool true) rfl rfl rfl ?_
 simp only [Act.put, pu]
 refine pw_mv (by rfl) rfl rfl ?_
 simp only [Act.put, pu]
 refine pw_mv (by rfl) rfl rfl ?_
 simp only [Act.put, pu]
 refine pw_value (by rfl) (.bool true) (exec_eql_k .i64 _ _ _ _ rfl (0) (0) rfl rfl true (decide_eq_true rfl)) ?_
 simp only [Act.put, pu]
 refine pw_pick (by rfl) true (v := .bool true) rfl rfl rfl ?_
 simp only [Act.put, pu]
 refine pw_mv (by rfl) rfl rfl ?_
 simp only [Act.put, pu]
 refine pw_mv (by rfl) rfl rfl ?_
 simp only [Act.put, pu]
 refine pw_value (by rfl) (.bool true) (exec_eql_k .i64 _ _ _ _ rfl (0) (0) rfl rfl true (decide_eq_true rfl)) ?_
 simp only [Act.put, pu]
 refine pw_pick (by rfl) true (v := .bool true) rfl rfl rfl ?_
 simp only [Act.put, pu]
 refine pw_mv (by rfl) rfl rfl ?_
 simp only [Act.put, pu]
 refine pw_mv (by rfl) rfl rfl ?_
 simp only [Act.put, pu]
 refine pw_value (by rfl) (.bool true) (exec_eql_k .i64 _ _ _ _ rfl (0) (0) rfl rfl true (decide_eq_true rfl)) ?_
 simp only [Act.put, pu]
 refine pw_pick (by rfl) true (v := .bool true) rfl rfl rfl ?_
 simp only [Act.put, pu]
 refine pw_mv (by rfl) rfl rfl ?_
 simp only [Act.put, pu]
 refine pw_mv (by rfl) rfl rfl ?_
 simp only [Act.put, pu]
 refine pw_value (by rfl) (.bool true) (exec_eql_k .i64 _ _ _ _ rfl (0) (0) rfl rfl true (decide_eq_true rfl)) ?_
 simp only [Act.put, pu]
 refine pw_pick (by rfl) true (v := .bool true) rfl rfl rfl ?_
 simp only [Act.put, pu]
 refine pw_mv (by rfl) rfl rfl ?_
 simp only [Act.put, pu]
 refine pw_mv (by rfl) rfl rfl ?_
 simp only [Act.put, pu]
 refine pw_value (by rfl) (.bool true) (exec_eql_k .i64 _ _ _ _ rfl (1) (1) rfl rfl true (decide_eq_true rfl)) ?_
 simp only [Act.put, pu]
 refine pw_pick (by rfl) true (v := .bool true) rfl rfl rfl ?_
 simp only [Act.put, pu]
 refine pw_mv (by rfl) rfl rfl ?_
 simp only [Act.put, pu]
 refine pw_mv (by rfl) rfl rfl ?_
 simp only [Act.put, pu]
 refine pw_pick (by rfl) true (v := .bool true) rfl rfl rfl ?_
 simp only [Act.put, pu]
 refine pw_mv (by rfl) rfl rfl ?_
 simp only [Act.put, pu]
 refine pw_mv (by rfl) rfl rfl ?_
 simp only [Act.put, pu]
 refine pw_callB (by rfl) 14 _ _ rfl Try.func14 (by kernel_rfl) #[.pointer (some ⟨g1, 0, none⟩), .int .i64 5] rfl _ (usd_at hA 5) ?_
 intro z8033 k
 simp only [Act.put, pu]
 replace hA := hA.below k.nil
 replace sb := sb.trans (k.below w.heap.size sb.size (by simp <;> omega))
 clear k
 refine pw_value (by rfl) (.bool true) (exec_eql_k .i64 _ _ _ _ rfl (uA2 5) (2) rfl rfl true (decide_eq_true hu5)) ?_
 simp only [Act.put, pu]
 refine pw_pick (by rfl) true (v := .bool true) rfl rfl rfl ?_
 simp only [Act.put, pu]
 refine pw_mv (by rfl) rfl rfl ?_
 simp only [Act.put, pu]
 refine pw_mv (by rfl) rfl rfl ?_
 simp only [Act.put, pu]
 refine pw_callB (by rfl) 14 _ _ rfl Try.func14 (by kernel_rfl) #[.pointer (some ⟨g1, 0, none⟩), .int .i64 1] rfl _ (usd_at hA 1) ?_
 intro z8038 k
 simp only [Act.put, pu]
 replace hA := hA.below k.nil
 replace sb := sb.trans (k.below w.heap.size sb.size (by simp <;> omega))
 clear k
 refine pw_value (by rfl) (.bool true) (exec_eql_k .i64 _ _ _ _ rfl (uA2 1) (0) rfl rfl true (decide_eq_true hu1)) ?_
 simp only [Act.put, pu]
 refine pw_pick (by rfl) true (v := .bool true) rfl rfl rfl ?_
 simp only [Act.put, pu]
 refine pw_mv (by rfl) rfl rfl ?_
 simp only [Act.put, pu]
 refine pw_mv (by rfl) rfl rfl ?_
 simp only [Act.put, pu]
 refine pw_callB (by rfl) 16 _ _ rfl Try.func16 (by kernel_rfl) #[.pointer (some ⟨g1, 0, none⟩), .int .i64 5] rfl _ (quo_at hA 5) ?_
 intro z8043 k
 simp only [Act.put, pu]
 replace hA := hA.below k.nil
 replace sb := sb.trans (k.below w.heap.size sb.size (by simp <;> omega))
 clear k
 refine pw_value (by rfl) (.bool true) (exec_eql_k .i64 _ _ _ _ rfl (quo 4 2 5) (4) rfl rfl true (decide_eq_true hq5)) ?_
 simp only [Act.put, pu]
 refine pw_pick (by rfl) true (v := .bool true) rfl rfl rfl ?_
 simp only [Act.put, pu]
 refine pw_mv (by rfl) rfl rfl ?_
 simp only [Act.put, pu]
 refine pw_mv (by rfl) rfl rfl ?_
 simp only [Act.put, pu]
 refine pw_callB (by rfl) 16 _ _ rfl Try.func16 (by kernel_rfl) #[.pointer (some ⟨g1, 0, none⟩), .int .i64 1] rfl _ (quo_at hA 1) ?_
 intro z8048 k
 simp only [Act.put, pu]
 replace hA := hA.below k.nil
 replace sb := sb.trans (k.below w.heap.size sb.size (by simp <;> omega))
 clear k
 refine pw_value (by rfl) (.bool true) (exec_eql_k .i64 _ _ _ _ rfl (quo 4 2 1) (32) rfl rfl true (decide_eq_true hq1)) ?_
 simp only [Act.put, pu]
 refine pw_pick (by rfl) true (v := .bool true) rfl rfl rfl ?_
 simp only [Act.put, pu]
 refine pw_mv (by rfl) rfl rfl ?_
 simp only [Act.put, pu]
 refine pw_mv (by rfl) rfl rfl ?_
 simp only [Act.put, pu]
 refine pw_callE (by rfl) 19 _ _ rfl Try.func19 (by kernel_rfl) #[.pointer (some ⟨g1, 0, none⟩)] rfl (keys_at hA (by decide)) ?_
 rintro _ z8053 ⟨a2, c2, g2, cs, rfl, hE, hb⟩
 refine ⟨_, rfl, ?_⟩
 simp only [Act.put, pu]
 have k := Kept.ofBelow hb
 clear hb
 replace hA := hA.below k.nil
 replace sb := sb.trans (k.below w.heap.size sb.size (by simp <;> omega))
 clear k
 refine pw_litr (by rfl) 30 9 2 _ rfl #[strV [97], strV [98]] is _ Try.underlying30 hsi hsz q1 q2 [(0, .string ⟨#[97]⟩), (1, .string ⟨#[98]⟩)] rfl ql ?_
 intro gL z8054 n0 rL k
 simp only [Act.put, pu]
 have bL := Nat.le_trans sb.size n0
 clear n0
 replace hA := hA.below k.nil
 replace hE := hE.below k.nil
 replace sb := sb.trans (k.below w.heap.size sb.size (by simp <;> omega))
 clear k
 refine pw_callB (by rfl) 18 _ _ rfl Try.func18 (by kernel_rfl) #[.slice a2 2 c2, .slice (some ⟨gL, 0, none⟩) 2 2] rfl _ (rsame_ab (c1 := c2) (c2 := 2) hE rL) ?_
 intro z8055 k
 simp only [Act.put, pu]
 replace hA := hA.below k.nil
 replace hE := hE.below k.nil
 replace rL := k.row rL (by simp <;> omega)
 replace sb := sb.trans (k.below w.heap.size sb.size (by simp <;> omega))
 clear k
 refine pw_pick (by rfl) true (v := .bool true) rfl rfl rfl ?_
 simp only [Act.put, pu]
 refine pw_as (by rfl) rfl rfl ?_
 simp only [Act.put, List.setIfInBounds_toArray, List.set_cons_zero]
 refine pw_nil ?_
 go_wp2
 go_ret
 exact ⟨rfl, sb⟩
end Go.Proofs.Ytchiiphmpkmloaa
