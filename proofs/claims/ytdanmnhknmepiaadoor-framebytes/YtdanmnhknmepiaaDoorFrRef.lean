/- The document's functions of layer 19. -/
import Derived.Test.YtdanmnhknmepiaaDoorFrFun
namespace Go.Proofs.YtdanmnhknmepiaaDoor
open Go.RowKit
set_option linter.unusedVariables false
def reB (x : Int) : Bool := decide (1 ≤ x ∧ x ≤ 255)
theorem enB_re (x y : Int) : enB x y = (reB x && reB y) := by
 unfold enB reB
 by_cases h1 : 1 ≤ x ∧ x ≤ 255 <;> by_cases h2 : 1 ≤ y ∧ y ≤ 255 <;> simp [h1, h2] <;> omega
section
variable {P : Program} {olds : List (Nat × TypeId × Array Value)} {p : Nat → Nat} {W : World} {F : Act → Ct → Prop} {n : Nat} {l : List Oper} {pl : List Sp} {a : Act} {ct : Ct} {o : Oper}
theorem mx_litw (t e : TypeId) (len : Nat) (parts : Array (Nat × Operand)) (ho : o.op = .buildSlice t len parts) (cells : Array Value) (ie : TypeInfo) (z : Value)
  (hu : P.underlying t = some (.slice e)) (hie : P.info? e = some ie) (hz : ie.zero = some z) (hsmall : ¬ len * ie.size > 2 ^ 24) (hpos : ¬ len * ie.size = 0)
  (vals : List (Nat × Value)) (hv : parts.toList.map (fun x => (x.1, a.eval x.2)) = vals)
  (hf : Instr.fill (fun i => some (i * ie.size, ie.size)) ((Array.range (len * ie.size)).map (z.cells[· % z.cells.size]!)) vals = some cells)
  (h : MX P olds p W F (n + 1) l pl (a.put o.dst (.slice (some ⟨p n, 0, none⟩) len len)) (ctSet ct (2 * n + 1) (e, cells))) :
  MX P olds p W F n (o :: l) ((fun q => .slice (some ⟨q n, 0, none⟩) len len, [], some (e, cells), []) :: pl) a ct :=
 mx_lits t e len parts ho cells ie z hu hie hz hsmall hpos (by rw [Array.toList_map]; rw [← hv] at hf; exact hf) h
end
set_option maxRecDepth 100000 in
set_option maxHeartbeats 2000000 in
theorem rend_any (x : Int) (w : World) :
  Calls Tryd.prog 21 #[.int .i64 x] w fun e w' => e = .returned (.bool (reB x)) ∧ Below w.heap.size w w' := by
 by_cases h0 : 1 ≤ x
 rotate_left
 ·have he : reB x = false := decide_eq_false (by omega)
  rw [he]
  clear he
  go_enter Tryd.func21, Tryd.ntmps21
  (repeat ((fail_if_success with_reducible refine rg ?_); go_step))
  refine wp_region_pw ?_
  refine pw_value (by rfl) (.bool false) (fun _ => rfl) ?_
  simp only [Act.put, pu]
  refine pw_nil ?_
  have sb := Below.refl w.heap.size w
  (repeat ((fail_if_success with_reducible refine rg ?_); go_step))
  refine wp_region_pw ?_
  refine pw_mv (by rfl) rfl rfl ?_
  simp only [Act.put, pu]
  refine pw_value (by rfl) (.bool false) (x_ge _ _ _ _ rfl x 1 rfl rfl false (decide_eq_false h0)) ?_
  simp only [Act.put, pu]
  refine pw_mv (by rfl) rfl rfl ?_
  simp only [Act.put, pu]
  refine pw_skip (by rfl) ?_
  simp only [Act.put, pu]
  refine pw_skip (by rfl) ?_
  simp only [Act.put, pu]
  refine pw_pick (by rfl) false (v := .bool false) rfl rfl rfl ?_
  simp only [Act.put, pu]
  refine pw_as (by rfl) rfl rfl ?_
  simp only [Act.put, pu]
  refine pw_nil ?_
  go_wp2
  go_ret
  exact ⟨rfl, sb⟩
 by_cases h1 : x ≤ 255
 rotate_left
 ·have he : reB x = false := decide_eq_false (by omega)
  rw [he]
  clear he
  go_enter Tryd.func21, Tryd.ntmps21
  (repeat ((fail_if_success with_reducible refine rg ?_); go_step))
  refine wp_region_pw ?_
  refine pw_value (by rfl) (.bool false) (fun _ => rfl) ?_
  simp only [Act.put, pu]
  refine pw_nil ?_
  have sb := Below.refl w.heap.size w
  (repeat ((fail_if_success with_reducible refine rg ?_); go_step))
  refine wp_region_pw ?_
  refine pw_mv (by rfl) rfl rfl ?_
  simp only [Act.put, pu]
  refine pw_value (by rfl) (.bool true) (x_ge _ _ _ _ rfl x 1 rfl rfl true (decide_eq_true h0)) ?_
  simp only [Act.put, pu]
  refine pw_mv (by rfl) rfl rfl ?_
  simp only [Act.put, pu]
  refine pw_mv (by rfl) rfl rfl ?_
  simp only [Act.put, pu]
  refine pw_value (by rfl) (.bool false) (x_le _ _ _ _ rfl x 255 rfl rfl false (decide_eq_false h1)) ?_
  simp only [Act.put, pu]
  refine pw_pick (by rfl) true (v := .bool false) rfl rfl rfl ?_
  simp only [Act.put, pu]
  refine pw_as (by rfl) rfl rfl ?_
  simp only [Act.put, pu]
  refine pw_nil ?_
  go_wp2
  go_ret
  exact ⟨rfl, sb⟩
 have he : reB x = true := decide_eq_true ⟨h0, h1⟩
 rw [he]
 clear he
 go_enter Tryd.func21, Tryd.ntmps21
 (repeat ((fail_if_success with_reducible refine rg ?_); go_step))
 refine wp_region_pw ?_
 refine pw_value (by rfl) (.bool false) (fun _ => rfl) ?_
 simp only [Act.put, pu]
 refine pw_nil ?_
 have sb := Below.refl w.heap.size w
 (repeat ((fail_if_success with_reducible refine rg ?_); go_step))
 refine wp_region_pw ?_
 refine pw_mv (by rfl) rfl rfl ?_
 simp only [Act.put, pu]
 refine pw_value (by rfl) (.bool true) (x_ge _ _ _ _ rfl x 1 rfl rfl true (decide_eq_true h0)) ?_
 simp only [Act.put, pu]
 refine pw_mv (by rfl) rfl rfl ?_
 simp only [Act.put, pu]
 refine pw_mv (by rfl) rfl rfl ?_
 simp only [Act.put, pu]
 refine pw_value (by rfl) (.bool true) (x_le _ _ _ _ rfl x 255 rfl rfl true (decide_eq_true h1)) ?_
 simp only [Act.put, pu]
 refine pw_pick (by rfl) true (v := .bool true) rfl rfl rfl ?_
 simp only [Act.put, pu]
 refine pw_as (by rfl) rfl rfl ?_
 simp only [Act.put, pu]
 refine pw_nil ?_
 go_wp2
 go_ret
 exact ⟨rfl, sb⟩
set_option maxRecDepth 100000 in
set_option maxHeartbeats 2000000 in
theorem rtagF_any (k b : List UInt8) (x y : Int) (w : World) (hk : k.length < 4294967296) (hb : b.length ≤ 8192) :
  Calls Tryd.prog 22 #[.string ⟨k.toArray⟩, .int .i64 x, .int .i64 y, .string ⟨b.toArray⟩] w fun e w' => e = .returned (.string ⟨(tagL k b x y).toArray⟩) ∧ Below w.heap.size w w' := by
 have hE : (keyE x y).length = 2 := rfl
 have hK : (hm k (keyT x y)).length < 4294967296 := by rw [hm_length]; decide
 have hL : (keyE x y ++ b).length < 2147483648 := by rw [List.length_append, hE]; omega
 obtain ⟨ie, hie, hze, hsz, hbz⟩ := sinfo_b8
 have hs1 : ¬ 2 * ie.size > 2 ^ 24 := by rw [hsz]; decide
 have hs2 : ¬ 2 * ie.size = 0 := by rw [hsz]; decide
 go_enter Tryd.func22, Tryd.ntmps22
 (repeat ((fail_if_success with_reducible refine rg ?_); go_step))
 refine wp_region_pw ?_
 refine pw_move (by rfl) (.inr rfl) rfl ?_
 simp only [Act.put, pu]
 refine pw_nil ?_
 have sb := Below.refl w.heap.size w
 (repeat ((fail_if_success with_reducible refine rg ?_); go_step))
 apply wp_region_mix (by kernel_rfl) [] [_, _, _, _, _, _, _, _, _, _, _, _, _, _, _, _] trivial List.nodup_nil
 ·intro p
  refine mx_move rfl rfl ?_
  simp only [Act.put, pu]
  refine mx_move rfl rfl ?_
  simp only [Act.put, pu]
  refine mx_move rfl rfl ?_
  simp only [Act.put, pu]
  refine mx_call 28 _ _ rfl Tryd.func28 (by kernel_rfl) #[.string ⟨k.toArray⟩, .int .i64 x, .int .i64 y] rfl _ (fun w' => rkey_any k x y w' hk) ?_
  simp only [Act.put, pu]
  refine mx_move rfl rfl ?_
  simp only [Act.put, pu]
  refine mx_val (.int .i64 (by8 x : Nat)) (x_and255 _ _ _ _ rfl x rfl rfl) ?_
  simp only [Act.put, pu]
  refine mx_val (.int .u8 (by8 x : Nat)) (x_conv _ _ _ rfl .i64 .u8 Tryd.underlying3 Tryd.underlying5 ((by8 x : Nat) : Int) _ rfl (wrp8 _ _ (Nat.mod_eq_of_lt (by8_lt x)))) ?_
  simp only [Act.put, pu]
  refine mx_move rfl rfl ?_
  simp only [Act.put, pu]
  refine mx_val (.int .i64 (by8 y : Nat)) (x_and255 _ _ _ _ rfl y rfl rfl) ?_
  simp only [Act.put, pu]
  refine mx_val (.int .u8 (by8 y : Nat)) (x_conv _ _ _ rfl .i64 .u8 Tryd.underlying3 Tryd.underlying5 ((by8 y : Nat) : Int) _ rfl (wrp8 _ _ (Nat.mod_eq_of_lt (by8_lt y)))) ?_
  simp only [Act.put, pu]
  refine mx_litw 35 5 2 _ rfl #[.int .u8 ((by8 x : Nat) : Int), .int .u8 ((by8 y : Nat) : Int)] ie _ Tryd.underlying35 hie hze hs1 hs2 [(0, .int .u8 ((by8 x : Nat) : Int)), (1, .int .u8 ((by8 y : Nat) : Int))] rfl (lit_e2 _ _ _ hsz) ?_
  simp only [Act.put, pu]
  refine mx_value (.string ⟨(keyE x y).toArray⟩) [21] (fun w' hk hr => x_str _ rfl (p 10) 0 2 2 (keyE x y) rfl rfl w' (hr 21 (by simp) (5, #[.int .u8 ((by8 x : Nat) : Int), .int .u8 ((by8 y : Nat) : Int)]) rfl).r (cells_E x y)) ?_
  simp only [Act.put, pu]
  refine mx_move rfl rfl ?_
  simp only [Act.put, pu]
  refine mx_val (.string ⟨(keyE x y ++ b).toArray⟩) (x_cat _ _ _ _ rfl (keyE x y) b rfl rfl (by rw [hE]; omega)) ?_
  simp only [Act.put, pu]
  refine mx_call 27 _ _ rfl Tryd.func27 (by kernel_rfl) #[.string ⟨(hm k (keyT x y)).toArray⟩, .string ⟨(keyE x y ++ b).toArray⟩] rfl _ (fun w' => rtag_any _ _ w' hK hL) ?_
  simp only [Act.put, pu]
  refine mx_asg rfl rfl ?_
  simp only [Act.put, pu]
  refine mx_end ?_
  intro w3 hkw hrw hnew hdis
  have n19 := hnew 10 rfl
  have zr19 : Row w3 (p 10) (#[.int .u8 ((by8 x : Nat) : Int), .int .u8 ((by8 y : Nat) : Int)]) 5 := hrw 21 (5, #[.int .u8 ((by8 x : Nat) : Int), .int .u8 ((by8 y : Nat) : Int)]) rfl
  have b19 := Nat.le_trans sb.size n19
  replace sb := sb.trans (hkw.below w.heap.size sb.size (by simp <;> omega))
  clear hkw hrw hnew hdis n19
  generalize p 10 = g19 at *
  have r19 := zr19
  clear zr19
  go_wp2
  go_ret
  exact ⟨rfl, sb⟩
 ·kernel_rfl
set_option maxRecDepth 100000 in
set_option maxHeartbeats 2000000 in
theorem rseal_x (k b : List UInt8) (x y : Int) (w : World) (h : reB x = false) :
  Calls Tryd.prog 9 #[.string ⟨k.toArray⟩, .int .i64 x, .int .i64 y, .string ⟨b.toArray⟩] w fun e w' => e = .returned (.tuple #[.agg (frC 0 0 [] []), .int .i64 1]) ∧ Below w.heap.size w w' := by
 go_enter Tryd.func9, Tryd.ntmps9
 (repeat ((fail_if_success with_reducible refine rg ?_); go_step))
 refine wp_region_pw ?_
 refine pw_new (by rfl) 25 rfl _ zero_fr ?_
 intro g8 z0 n0 r8 k
 simp only [Act.put, pu]
 have b8 : w.heap.size ≤ g8 := n0
 clear n0
 have sb := k.below w.heap.size (Nat.le_refl _) (by simp)
 clear k
 refine pw_value (by rfl) (.int .i64 0) (fun _ => rfl) ?_
 simp only [Act.put, pu]
 refine pw_nil ?_
 (repeat ((fail_if_success with_reducible refine rg ?_); go_step))
 refine wp_region_pw ?_
 refine pw_mv (by rfl) rfl rfl ?_
 simp only [Act.put, pu]
 refine pw_callB (by rfl) 21 _ _ rfl Tryd.func21 (by kernel_rfl) #[.int .i64 x] rfl _ ((rend_any x _).mono fun e w' ⟨he, hb⟩ => ⟨he.trans (by rw [h]), hb⟩) ?_
 intro z1001 k
 simp only [Act.put, pu]
 replace r8 := k.row r8 (by simp <;> omega)
 replace sb := sb.trans (k.below w.heap.size sb.size (by simp <;> omega))
 clear k
 refine pw_value (by rfl) (.bool true) (exec_not _ _ rfl false rfl) ?_
 simp only [Act.put, pu]
 refine pw_mv (by rfl) rfl rfl ?_
 simp only [Act.put, pu]
 refine pw_skip (by rfl) ?_
 simp only [Act.put, pu]
 refine pw_skip (by rfl) ?_
 simp only [Act.put, pu]
 refine pw_skip (by rfl) ?_
 simp only [Act.put, pu]
 refine pw_pick (by rfl) true (v := .bool true) rfl rfl rfl ?_
 simp only [Act.put, pu]
 refine pw_mv (by rfl) rfl rfl ?_
 simp only [Act.put, pu]
 refine pw_skip (by rfl) ?_
 simp only [Act.put, pu]
 refine pw_skip (by rfl) ?_
 simp only [Act.put, pu]
 refine pw_skip (by rfl) ?_
 simp only [Act.put, pu]
 refine pw_pick (by rfl) true (v := .bool true) rfl rfl rfl ?_
 simp only [Act.put, pu]
 refine pw_nil ?_
 (repeat ((fail_if_success with_reducible refine rg ?_); go_step))
 refine wp_region_pw ?_
 refine pw_value (by rfl) (.agg (frC 0 0 [] [])) (exec_buildv _ [] rfl [] rfl _ built_fr0) ?_
 simp only [Act.put, pu]
 refine pw_put (by rfl) 25 _ _ rfl _ rfl r8 (frC 0 0 [] []) rfl (by exact size_fr) (by rfl) (fr_one _ _ _ _) ?_
 clear r8
 intro z2001 r8 k
 simp only [Act.put]
 replace sb := sb.trans (k.below w.heap.size sb.size (by simp <;> omega))
 clear k
 refine pw_value (by rfl) (.int .i64 1) (fun _ => rfl) ?_
 simp only [Act.put, pu]
 refine pw_nil ?_
 go_wp2
 exact ret_rowE rfl _ rfl r8 _ Tryd.underlying25 (by exact size_fr) rfl _ rfl ⟨rfl, sb⟩
set_option maxRecDepth 100000 in
set_option maxHeartbeats 2000000 in
theorem rseal_y (k b : List UInt8) (x y : Int) (w : World) (h : reB x = true) (h2 : reB y = false) :
  Calls Tryd.prog 9 #[.string ⟨k.toArray⟩, .int .i64 x, .int .i64 y, .string ⟨b.toArray⟩] w fun e w' => e = .returned (.tuple #[.agg (frC 0 0 [] []), .int .i64 1]) ∧ Below w.heap.size w w' := by
 go_enter Tryd.func9, Tryd.ntmps9
 (repeat ((fail_if_success with_reducible refine rg ?_); go_step))
 refine wp_region_pw ?_
 refine pw_new (by rfl) 25 rfl _ zero_fr ?_
 intro g8 z0 n0 r8 k
 simp only [Act.put, pu]
 have b8 : w.heap.size ≤ g8 := n0
 clear n0
 have sb := k.below w.heap.size (Nat.le_refl _) (by simp)
 clear k
 refine pw_value (by rfl) (.int .i64 0) (fun _ => rfl) ?_
 simp only [Act.put, pu]
 refine pw_nil ?_
 (repeat ((fail_if_success with_reducible refine rg ?_); go_step))
 refine wp_region_pw ?_
 refine pw_mv (by rfl) rfl rfl ?_
 simp only [Act.put, pu]
 refine pw_callB (by rfl) 21 _ _ rfl Tryd.func21 (by kernel_rfl) #[.int .i64 x] rfl _ ((rend_any x _).mono fun e w' ⟨he, hb⟩ => ⟨he.trans (by rw [h]), hb⟩) ?_
 intro z1001 k
 simp only [Act.put, pu]
 replace r8 := k.row r8 (by simp <;> omega)
 replace sb := sb.trans (k.below w.heap.size sb.size (by simp <;> omega))
 clear k
 refine pw_value (by rfl) (.bool false) (exec_not _ _ rfl true rfl) ?_
 simp only [Act.put, pu]
 refine pw_mv (by rfl) rfl rfl ?_
 simp only [Act.put, pu]
 refine pw_mv (by rfl) rfl rfl ?_
 simp only [Act.put, pu]
 refine pw_callB (by rfl) 21 _ _ rfl Tryd.func21 (by kernel_rfl) #[.int .i64 y] rfl _ ((rend_any y _).mono fun e w' ⟨he, hb⟩ => ⟨he.trans (by rw [h2]), hb⟩) ?_
 intro z1005 k
 simp only [Act.put, pu]
 replace r8 := k.row r8 (by simp <;> omega)
 replace sb := sb.trans (k.below w.heap.size sb.size (by simp <;> omega))
 clear k
 refine pw_value (by rfl) (.bool true) (exec_not _ _ rfl false rfl) ?_
 simp only [Act.put, pu]
 refine pw_pick (by rfl) false (v := .bool true) rfl rfl rfl ?_
 simp only [Act.put, pu]
 refine pw_mv (by rfl) rfl rfl ?_
 simp only [Act.put, pu]
 refine pw_skip (by rfl) ?_
 simp only [Act.put, pu]
 refine pw_skip (by rfl) ?_
 simp only [Act.put, pu]
 refine pw_skip (by rfl) ?_
 simp only [Act.put, pu]
 refine pw_pick (by rfl) true (v := .bool true) rfl rfl rfl ?_
 simp only [Act.put, pu]
 refine pw_nil ?_
 (repeat ((fail_if_success with_reducible refine rg ?_); go_step))
 refine wp_region_pw ?_
 refine pw_value (by rfl) (.agg (frC 0 0 [] [])) (exec_buildv _ [] rfl [] rfl _ built_fr0) ?_
 simp only [Act.put, pu]
 refine pw_put (by rfl) 25 _ _ rfl _ rfl r8 (frC 0 0 [] []) rfl (by exact size_fr) (by rfl) (fr_one _ _ _ _) ?_
 clear r8
 intro z2001 r8 k
 simp only [Act.put]
 replace sb := sb.trans (k.below w.heap.size sb.size (by simp <;> omega))
 clear k
 refine pw_value (by rfl) (.int .i64 1) (fun _ => rfl) ?_
 simp only [Act.put, pu]
 refine pw_nil ?_
 go_wp2
 exact ret_rowE rfl _ rfl r8 _ Tryd.underlying25 (by exact size_fr) rfl _ rfl ⟨rfl, sb⟩
set_option maxRecDepth 100000 in
set_option maxHeartbeats 2000000 in
theorem rseal_no (k b : List UInt8) (x y : Int) (w : World) (h : enB x y = false) :
  Calls Tryd.prog 9 #[.string ⟨k.toArray⟩, .int .i64 x, .int .i64 y, .string ⟨b.toArray⟩] w fun e w' => e = .returned (.tuple #[.agg (frC 0 0 [] []), .int .i64 1]) ∧ Below w.heap.size w w' := by
 rw [enB_re] at h
 cases hx : reB x with
 | false => exact rseal_x k b x y w hx
 | true => rw [hx, Bool.true_and] at h; exact rseal_y k b x y w hx h
set_option maxRecDepth 100000 in
set_option maxHeartbeats 2000000 in
theorem rseal_ok (k b : List UInt8) (x y : Int) (w : World) (h : enB x y = true) (hb : b.length ≤ 8192) (hk : k.length < 4294967296) :
  Calls Tryd.prog 9 #[.string ⟨k.toArray⟩, .int .i64 x, .int .i64 y, .string ⟨b.toArray⟩] w fun e w' => e = .returned (.tuple #[.agg (frC x y b (tagL k b x y)), .int .i64 0]) ∧ Below w.heap.size w w' := by
 rw [enB_re, Bool.and_eq_true] at h
 obtain ⟨hx, hy⟩ := h
 go_enter Tryd.func9, Tryd.ntmps9
 (repeat ((fail_if_success with_reducible refine rg ?_); go_step))
 refine wp_region_pw ?_
 refine pw_new (by rfl) 25 rfl _ zero_fr ?_
 intro g8 z0 n0 r8 k
 simp only [Act.put, pu]
 have b8 : w.heap.size ≤ g8 := n0
 clear n0
 have sb := k.below w.heap.size (Nat.le_refl _) (by simp)
 clear k
 refine pw_value (by rfl) (.int .i64 0) (fun _ => rfl) ?_
 simp only [Act.put, pu]
 refine pw_nil ?_
 (repeat ((fail_if_success with_reducible refine rg ?_); go_step))
 refine wp_region_pw ?_
 refine pw_mv (by rfl) rfl rfl ?_
 simp only [Act.put, pu]
 refine pw_callB (by rfl) 21 _ _ rfl Tryd.func21 (by kernel_rfl) #[.int .i64 x] rfl _ ((rend_any x _).mono fun e w' ⟨he, hb⟩ => ⟨he.trans (by rw [hx]), hb⟩) ?_
 intro z1001 k
 simp only [Act.put, pu]
 replace r8 := k.row r8 (by simp <;> omega)
 replace sb := sb.trans (k.below w.heap.size sb.size (by simp <;> omega))
 clear k
 refine pw_value (by rfl) (.bool false) (exec_not _ _ rfl true rfl) ?_
 simp only [Act.put, pu]
 refine pw_mv (by rfl) rfl rfl ?_
 simp only [Act.put, pu]
 refine pw_mv (by rfl) rfl rfl ?_
 simp only [Act.put, pu]
 refine pw_callB (by rfl) 21 _ _ rfl Tryd.func21 (by kernel_rfl) #[.int .i64 y] rfl _ ((rend_any y _).mono fun e w' ⟨he, hb⟩ => ⟨he.trans (by rw [hy]), hb⟩) ?_
 intro z1005 k
 simp only [Act.put, pu]
 replace r8 := k.row r8 (by simp <;> omega)
 replace sb := sb.trans (k.below w.heap.size sb.size (by simp <;> omega))
 clear k
 refine pw_value (by rfl) (.bool false) (exec_not _ _ rfl true rfl) ?_
 simp only [Act.put, pu]
 refine pw_pick (by rfl) false (v := .bool false) rfl rfl rfl ?_
 simp only [Act.put, pu]
 refine pw_mv (by rfl) rfl rfl ?_
 simp only [Act.put, pu]
 refine pw_mv (by rfl) rfl rfl ?_
 simp only [Act.put, pu]
 refine pw_value (by rfl) (.int .i64 (b.length : Nat)) (y_lenS _ _ rfl b rfl Tryd.underlying9) ?_
 simp only [Act.put, pu]
 refine pw_value (by rfl) (.bool false) (x_gt _ _ _ _ rfl (b.length : Nat) 8192 rfl rfl false (decide_eq_false (by omega))) ?_
 simp only [Act.put, pu]
 refine pw_pick (by rfl) false (v := .bool false) rfl rfl rfl ?_
 simp only [Act.put, pu]
 refine pw_nil ?_
 (repeat ((fail_if_success with_reducible refine rg ?_); go_step))
 refine wp_region_pw ?_
 refine pw_mv (by rfl) rfl rfl ?_
 simp only [Act.put, pu]
 refine pw_mv (by rfl) rfl rfl ?_
 simp only [Act.put, pu]
 refine pw_mv (by rfl) rfl rfl ?_
 simp only [Act.put, pu]
 refine pw_mv (by rfl) rfl rfl ?_
 simp only [Act.put, pu]
 refine pw_mv (by rfl) rfl rfl ?_
 simp only [Act.put, pu]
 refine pw_mv (by rfl) rfl rfl ?_
 simp only [Act.put, pu]
 refine pw_mv (by rfl) rfl rfl ?_
 simp only [Act.put, pu]
 refine pw_callB (by rfl) 22 _ _ rfl Tryd.func22 (by kernel_rfl) #[.string ⟨k.toArray⟩, .int .i64 x, .int .i64 y, .string ⟨b.toArray⟩] rfl _ (rtagF_any k b x y _ hk hb) ?_
 intro z3007 k
 simp only [Act.put, pu]
 replace r8 := k.row r8 (by simp <;> omega)
 replace sb := sb.trans (k.below w.heap.size sb.size (by simp <;> omega))
 clear k
 refine pw_value (by rfl) (.agg (frC x y b (tagL k b x y))) (exec_buildv _ [(0, _), (1, _), (2, _), (3, _)] rfl [(0, .int .i64 x), (1, .int .i64 y), (2, .string ⟨b.toArray⟩), (3, .string ⟨(tagL k b x y).toArray⟩)] rfl _ (built_fr x y b _)) ?_
 simp only [Act.put, pu]
 refine pw_put (by rfl) 25 _ _ rfl _ rfl r8 (frC x y b (tagL k b x y)) rfl (by exact size_fr) (by rfl) (fr_one _ _ _ _) ?_
 clear r8
 intro z3009 r8 k
 simp only [Act.put]
 replace sb := sb.trans (k.below w.heap.size sb.size (by simp <;> omega))
 clear k
 refine pw_value (by rfl) (.int .i64 0) (fun _ => rfl) ?_
 simp only [Act.put, pu]
 refine pw_nil ?_
 go_wp2
 exact ret_rowE rfl _ rfl r8 _ Tryd.underlying25 (by exact size_fr) rfl _ rfl ⟨rfl, sb⟩
set_option maxRecDepth 100000 in
set_option maxHeartbeats 2000000 in
theorem ropens_no (k b t : List UInt8) (x y : Int) (w : World) (h : enB x y = false) :
  Calls Tryd.prog 11 #[.string ⟨k.toArray⟩, .agg (frC x y b t)] w fun e w' => e = .returned (.bool false) ∧ Below w.heap.size w w' := by
 go_enter Tryd.func11, Tryd.ntmps11
 (repeat ((fail_if_success with_reducible refine rg ?_); go_step))
 refine wp_region_pw ?_
 refine pw_boxr (by rfl) 25 _ rfl (frC x y b t) rfl ?_
 intro g3 z0 n0 r3 k
 simp only [Act.put, pu]
 have b3 : w.heap.size ≤ g3 := n0
 clear n0
 have sb := k.below w.heap.size (Nat.le_refl _) (by simp)
 clear k
 refine pw_value (by rfl) (.bool false) (fun _ => rfl) ?_
 simp only [Act.put, pu]
 refine pw_nil ?_
 (repeat ((fail_if_success with_reducible refine rg ?_); go_step))
 refine wp_region_pw ?_
 refine pw_mv (by rfl) rfl rfl ?_
 simp only [Act.put, pu]
 refine pw_value (by rfl) (.pointer (some ⟨g3, 0, none⟩)) (exec_field 25 _ 0 rfl g3 0 rfl _ Tryd.underlying25 _ rfl 0 Tryd.sizeOf3) ?_
 simp only [Act.put, pu]
 refine pw_loadk (by rfl) 3 _ rfl _ (0) rfl r3.r (.int .i64 x) rfl Tryd.isAgg3 ?_
 simp only [Act.put, pu]
 refine pw_value (by rfl) (.pointer (some ⟨g3, 1, none⟩)) (exec_field 25 _ 1 rfl g3 0 rfl _ Tryd.underlying25 _ rfl 0 Tryd.sizeOf3) ?_
 simp only [Act.put, pu]
 refine pw_loadk (by rfl) 3 _ rfl _ (1) rfl r3.r (.int .i64 y) rfl Tryd.isAgg3 ?_
 simp only [Act.put, pu]
 refine pw_value (by rfl) (.pointer (some ⟨g3, 2, none⟩)) (exec_field 25 _ 2 rfl g3 0 rfl _ Tryd.underlying25 _ rfl 0 Tryd.sizeOf9) ?_
 simp only [Act.put, pu]
 refine pw_loadk (by rfl) 9 _ rfl _ (2) rfl r3.r (.string ⟨b.toArray⟩) rfl Tryd.isAgg9 ?_
 simp only [Act.put, pu]
 refine pw_callB (by rfl) 9 _ _ rfl Tryd.func9 (by kernel_rfl) #[.string ⟨k.toArray⟩, .int .i64 x, .int .i64 y, .string ⟨b.toArray⟩] rfl _ (rseal_no k b x y _ h) ?_
 intro z1007 k
 simp only [Act.put, pu]
 replace r3 := k.row r3 (by simp <;> omega)
 replace sb := sb.trans (k.below w.heap.size sb.size (by simp <;> omega))
 clear k
 refine pw_mv (by rfl) rfl rfl ?_
 simp only [Act.put, pu]
 refine pw_ext (by rfl) rfl rfl rfl ?_
 simp only [Act.put, pu]
 refine pw_ext (by rfl) rfl rfl rfl ?_
 simp only [Act.put, pu]
 refine pw_new (by rfl) 25 rfl _ zero_fr ?_
 intro g5 z1011 n0 r5 k
 simp only [Act.put, pu]
 have d3x5 := Nat.lt_of_lt_of_le r3.lt n0
 have b5 := Nat.le_trans sb.size n0
 clear n0
 replace r3 := k.row r3 (by simp <;> omega)
 replace sb := sb.trans (k.below w.heap.size sb.size (by simp <;> omega))
 clear k
 refine pw_put (by rfl) 25 _ _ rfl _ rfl r5 (frC 0 0 [] []) rfl (by exact size_fr) (by rfl) (fr_one _ _ _ _) ?_
 clear r5
 intro z1012 r5 k
 simp only [Act.put]
 replace r3 := k.row r3 (by simp <;> omega)
 replace sb := sb.trans (k.below w.heap.size sb.size (by simp <;> omega))
 clear k
 refine pw_as (by rfl) rfl rfl ?_
 simp only [Act.put, pu]
 refine pw_nil ?_
 (repeat ((fail_if_success with_reducible refine rg ?_); go_step))
 refine wp_region_pw ?_
 refine pw_mv (by rfl) rfl rfl ?_
 simp only [Act.put, pu]
 refine pw_value (by rfl) (.bool false) (x_eqI _ _ _ _ rfl .i64 1 0 rfl rfl false rfl) ?_
 simp only [Act.put, pu]
 refine pw_mv (by rfl) rfl rfl ?_
 simp only [Act.put, pu]
 refine pw_skip (by rfl) ?_
 simp only [Act.put, pu]
 refine pw_skip (by rfl) ?_
 simp only [Act.put, pu]
 refine pw_skip (by rfl) ?_
 simp only [Act.put, pu]
 refine pw_pick (by rfl) false (v := .bool false) rfl rfl rfl ?_
 simp only [Act.put, pu]
 refine pw_as (by rfl) rfl rfl ?_
 simp only [Act.put, pu]
 refine pw_nil ?_
 go_wp2
 go_ret
 exact ⟨rfl, sb⟩
set_option maxRecDepth 100000 in
set_option maxHeartbeats 2000000 in
theorem ropens_ok (k b t : List UInt8) (x y : Int) (w : World) (h : enB x y = true) (hb : b.length ≤ 8192) (hk : k.length < 4294967296) :
  Calls Tryd.prog 11 #[.string ⟨k.toArray⟩, .agg (frC x y b t)] w fun e w' => e = .returned (.bool (decide (t = tagL k b x y))) ∧ Below w.heap.size w w' := by
 have hd : decide (x = x ∧ y = y ∧ b = b ∧ tagL k b x y = t) = decide (t = tagL k b x y) := by simp [eq_comm]
 go_enter Tryd.func11, Tryd.ntmps11
 (repeat ((fail_if_success with_reducible refine rg ?_); go_step))
 refine wp_region_pw ?_
 refine pw_boxr (by rfl) 25 _ rfl (frC x y b t) rfl ?_
 intro g3 z0 n0 r3 k
 simp only [Act.put, pu]
 have b3 : w.heap.size ≤ g3 := n0
 clear n0
 have sb := k.below w.heap.size (Nat.le_refl _) (by simp)
 clear k
 refine pw_value (by rfl) (.bool false) (fun _ => rfl) ?_
 simp only [Act.put, pu]
 refine pw_nil ?_
 (repeat ((fail_if_success with_reducible refine rg ?_); go_step))
 refine wp_region_pw ?_
 refine pw_mv (by rfl) rfl rfl ?_
 simp only [Act.put, pu]
 refine pw_value (by rfl) (.pointer (some ⟨g3, 0, none⟩)) (exec_field 25 _ 0 rfl g3 0 rfl _ Tryd.underlying25 _ rfl 0 Tryd.sizeOf3) ?_
 simp only [Act.put, pu]
 refine pw_loadk (by rfl) 3 _ rfl _ (0) rfl r3.r (.int .i64 x) rfl Tryd.isAgg3 ?_
 simp only [Act.put, pu]
 refine pw_value (by rfl) (.pointer (some ⟨g3, 1, none⟩)) (exec_field 25 _ 1 rfl g3 0 rfl _ Tryd.underlying25 _ rfl 0 Tryd.sizeOf3) ?_
 simp only [Act.put, pu]
 refine pw_loadk (by rfl) 3 _ rfl _ (1) rfl r3.r (.int .i64 y) rfl Tryd.isAgg3 ?_
 simp only [Act.put, pu]
 refine pw_value (by rfl) (.pointer (some ⟨g3, 2, none⟩)) (exec_field 25 _ 2 rfl g3 0 rfl _ Tryd.underlying25 _ rfl 0 Tryd.sizeOf9) ?_
 simp only [Act.put, pu]
 refine pw_loadk (by rfl) 9 _ rfl _ (2) rfl r3.r (.string ⟨b.toArray⟩) rfl Tryd.isAgg9 ?_
 simp only [Act.put, pu]
 refine pw_callB (by rfl) 9 _ _ rfl Tryd.func9 (by kernel_rfl) #[.string ⟨k.toArray⟩, .int .i64 x, .int .i64 y, .string ⟨b.toArray⟩] rfl _ (rseal_ok k b x y _ h hb hk) ?_
 intro z1007 k
 simp only [Act.put, pu]
 replace r3 := k.row r3 (by simp <;> omega)
 replace sb := sb.trans (k.below w.heap.size sb.size (by simp <;> omega))
 clear k
 refine pw_mv (by rfl) rfl rfl ?_
 simp only [Act.put, pu]
 refine pw_ext (by rfl) rfl rfl rfl ?_
 simp only [Act.put, pu]
 refine pw_ext (by rfl) rfl rfl rfl ?_
 simp only [Act.put, pu]
 refine pw_new (by rfl) 25 rfl _ zero_fr ?_
 intro g5 z1011 n0 r5 k
 simp only [Act.put, pu]
 have d3x5 := Nat.lt_of_lt_of_le r3.lt n0
 have b5 := Nat.le_trans sb.size n0
 clear n0
 replace r3 := k.row r3 (by simp <;> omega)
 replace sb := sb.trans (k.below w.heap.size sb.size (by simp <;> omega))
 clear k
 refine pw_put (by rfl) 25 _ _ rfl _ rfl r5 (frC x y b (tagL k b x y)) rfl (by exact size_fr) (by rfl) (fr_one _ _ _ _) ?_
 clear r5
 intro z1012 r5 k
 simp only [Act.put]
 replace r3 := k.row r3 (by simp <;> omega)
 replace sb := sb.trans (k.below w.heap.size sb.size (by simp <;> omega))
 clear k
 refine pw_as (by rfl) rfl rfl ?_
 simp only [Act.put, pu]
 refine pw_nil ?_
 (repeat ((fail_if_success with_reducible refine rg ?_); go_step))
 refine wp_region_pw ?_
 refine pw_mv (by rfl) rfl rfl ?_
 simp only [Act.put, pu]
 refine pw_value (by rfl) (.bool true) (x_eqI _ _ _ _ rfl .i64 0 0 rfl rfl true rfl) ?_
 simp only [Act.put, pu]
 refine pw_mv (by rfl) rfl rfl ?_
 simp only [Act.put, pu]
 refine pw_loadm (by rfl) 25 _ rfl _ (0) rfl r5.r (frC x y b (tagL k b x y)) (part_allF _) _ Tryd.underlying25 rfl size_fr ?_
 simp only [Act.put, pu]
 refine pw_loadm (by rfl) 25 _ rfl _ (0) rfl r3.r (frC x y b t) (part_allF _) _ Tryd.underlying25 rfl size_fr ?_
 simp only [Act.put, pu]
 refine pw_value (by rfl) (.bool (decide (t = tagL k b x y))) (exec_eql_fr _ _ _ rfl x y x y b (tagL k b x y) b t rfl rfl _ hd) ?_
 simp only [Act.put, pu]
 refine pw_pick (by rfl) true (v := .bool (decide (t = tagL k b x y))) rfl rfl rfl ?_
 simp only [Act.put, pu]
 refine pw_as (by rfl) rfl rfl ?_
 simp only [Act.put, pu]
 refine pw_nil ?_
 go_wp2
 go_ret
 exact ⟨rfl, sb⟩
set_option maxRecDepth 100000 in
set_option maxHeartbeats 2000000 in
theorem rfby_x (b t : List UInt8) (x y : Int) (w : World) (hx : reB x = false) :
  Calls Tryd.prog 13 #[.agg (frC x y b t)] w fun e w' => e = .returned (.tuple #[.string ⟨#[]⟩, .int .i64 1]) ∧ Below w.heap.size w w' := by
 go_enter Tryd.func13, Tryd.ntmps13
 (repeat ((fail_if_success with_reducible refine rg ?_); go_step))
 refine wp_region_pw ?_
 refine pw_boxr (by rfl) 25 _ rfl (frC x y b t) rfl ?_
 intro g1 z0 n0 r1 k
 simp only [Act.put, pu]
 have b1 : w.heap.size ≤ g1 := n0
 clear n0
 have sb := k.below w.heap.size (Nat.le_refl _) (by simp)
 clear k
 refine pw_move (by rfl) (.inr rfl) rfl ?_
 simp only [Act.put, pu]
 refine pw_value (by rfl) (.int .i64 0) (fun _ => rfl) ?_
 simp only [Act.put, pu]
 refine pw_nil ?_
 (repeat ((fail_if_success with_reducible refine rg ?_); go_step))
 refine wp_region_pw ?_
 refine pw_value (by rfl) (.pointer (some ⟨g1, 0, none⟩)) (exec_field 25 _ 0 rfl g1 0 rfl _ Tryd.underlying25 _ rfl 0 Tryd.sizeOf3) ?_
 simp only [Act.put, pu]
 refine pw_loadk (by rfl) 3 _ rfl _ (0) rfl r1.r (.int .i64 x) rfl Tryd.isAgg3 ?_
 simp only [Act.put, pu]
 refine pw_callB (by rfl) 21 _ _ rfl Tryd.func21 (by kernel_rfl) #[.int .i64 x] rfl _ ((rend_any x _).mono fun e w' ⟨he, hb⟩ => ⟨he.trans (by rw [hx]), hb⟩) ?_
 intro z1002 k
 simp only [Act.put, pu]
 replace r1 := k.row r1 (by simp <;> omega)
 replace sb := sb.trans (k.below w.heap.size sb.size (by simp <;> omega))
 clear k
 refine pw_value (by rfl) (.bool true) (exec_not _ _ rfl false rfl) ?_
 simp only [Act.put, pu]
 refine pw_mv (by rfl) rfl rfl ?_
 simp only [Act.put, pu]
 refine pw_skip (by rfl) ?_
 simp only [Act.put, pu]
 refine pw_skip (by rfl) ?_
 simp only [Act.put, pu]
 refine pw_skip (by rfl) ?_
 simp only [Act.put, pu]
 refine pw_skip (by rfl) ?_
 simp only [Act.put, pu]
 refine pw_pick (by rfl) true (v := .bool true) rfl rfl rfl ?_
 simp only [Act.put, pu]
 refine pw_mv (by rfl) rfl rfl ?_
 simp only [Act.put, pu]
 refine pw_skip (by rfl) ?_
 simp only [Act.put, pu]
 refine pw_skip (by rfl) ?_
 simp only [Act.put, pu]
 refine pw_skip (by rfl) ?_
 simp only [Act.put, pu]
 refine pw_skip (by rfl) ?_
 simp only [Act.put, pu]
 refine pw_pick (by rfl) true (v := .bool true) rfl rfl rfl ?_
 simp only [Act.put, pu]
 refine pw_mv (by rfl) rfl rfl ?_
 simp only [Act.put, pu]
 refine pw_skip (by rfl) ?_
 simp only [Act.put, pu]
 refine pw_skip (by rfl) ?_
 simp only [Act.put, pu]
 refine pw_skip (by rfl) ?_
 simp only [Act.put, pu]
 refine pw_skip (by rfl) ?_
 simp only [Act.put, pu]
 refine pw_pick (by rfl) true (v := .bool true) rfl rfl rfl ?_
 simp only [Act.put, pu]
 refine pw_nil ?_
 (repeat ((fail_if_success with_reducible refine rg ?_); go_step))
 refine wp_region_pw ?_
 refine pw_move (by rfl) (.inr rfl) rfl ?_
 simp only [Act.put, pu]
 refine pw_value (by rfl) (.int .i64 1) (fun _ => rfl) ?_
 simp only [Act.put, pu]
 refine pw_nil ?_
 go_wp2
 go_ret2
 exact ⟨rfl, sb⟩
set_option maxRecDepth 100000 in
set_option maxHeartbeats 2000000 in
theorem rfby_y (b t : List UInt8) (x y : Int) (w : World) (hx : reB x = true) (hy : reB y = false) :
  Calls Tryd.prog 13 #[.agg (frC x y b t)] w fun e w' => e = .returned (.tuple #[.string ⟨#[]⟩, .int .i64 1]) ∧ Below w.heap.size w w' := by
 go_enter Tryd.func13, Tryd.ntmps13
 (repeat ((fail_if_success with_reducible refine rg ?_); go_step))
 refine wp_region_pw ?_
 refine pw_boxr (by rfl) 25 _ rfl (frC x y b t) rfl ?_
 intro g1 z0 n0 r1 k
 simp only [Act.put, pu]
 have b1 : w.heap.size ≤ g1 := n0
 clear n0
 have sb := k.below w.heap.size (Nat.le_refl _) (by simp)
 clear k
 refine pw_move (by rfl) (.inr rfl) rfl ?_
 simp only [Act.put, pu]
 refine pw_value (by rfl) (.int .i64 0) (fun _ => rfl) ?_
 simp only [Act.put, pu]
 refine pw_nil ?_
 (repeat ((fail_if_success with_reducible refine rg ?_); go_step))
 refine wp_region_pw ?_
 refine pw_value (by rfl) (.pointer (some ⟨g1, 0, none⟩)) (exec_field 25 _ 0 rfl g1 0 rfl _ Tryd.underlying25 _ rfl 0 Tryd.sizeOf3) ?_
 simp only [Act.put, pu]
 refine pw_loadk (by rfl) 3 _ rfl _ (0) rfl r1.r (.int .i64 x) rfl Tryd.isAgg3 ?_
 simp only [Act.put, pu]
 refine pw_callB (by rfl) 21 _ _ rfl Tryd.func21 (by kernel_rfl) #[.int .i64 x] rfl _ ((rend_any x _).mono fun e w' ⟨he, hb⟩ => ⟨he.trans (by rw [hx]), hb⟩) ?_
 intro z1002 k
 simp only [Act.put, pu]
 replace r1 := k.row r1 (by simp <;> omega)
 replace sb := sb.trans (k.below w.heap.size sb.size (by simp <;> omega))
 clear k
 refine pw_value (by rfl) (.bool false) (exec_not _ _ rfl true rfl) ?_
 simp only [Act.put, pu]
 refine pw_mv (by rfl) rfl rfl ?_
 simp only [Act.put, pu]
 refine pw_value (by rfl) (.pointer (some ⟨g1, 1, none⟩)) (exec_field 25 _ 1 rfl g1 0 rfl _ Tryd.underlying25 _ rfl 0 Tryd.sizeOf3) ?_
 simp only [Act.put, pu]
 refine pw_loadk (by rfl) 3 _ rfl _ (1) rfl r1.r (.int .i64 y) rfl Tryd.isAgg3 ?_
 simp only [Act.put, pu]
 refine pw_callB (by rfl) 21 _ _ rfl Tryd.func21 (by kernel_rfl) #[.int .i64 y] rfl _ ((rend_any y _).mono fun e w' ⟨he, hb⟩ => ⟨he.trans (by rw [hy]), hb⟩) ?_
 intro z1007 k
 simp only [Act.put, pu]
 replace r1 := k.row r1 (by simp <;> omega)
 replace sb := sb.trans (k.below w.heap.size sb.size (by simp <;> omega))
 clear k
 refine pw_value (by rfl) (.bool true) (exec_not _ _ rfl false rfl) ?_
 simp only [Act.put, pu]
 refine pw_pick (by rfl) false (v := .bool true) rfl rfl rfl ?_
 simp only [Act.put, pu]
 refine pw_mv (by rfl) rfl rfl ?_
 simp only [Act.put, pu]
 refine pw_skip (by rfl) ?_
 simp only [Act.put, pu]
 refine pw_skip (by rfl) ?_
 simp only [Act.put, pu]
 refine pw_skip (by rfl) ?_
 simp only [Act.put, pu]
 refine pw_skip (by rfl) ?_
 simp only [Act.put, pu]
 refine pw_pick (by rfl) true (v := .bool true) rfl rfl rfl ?_
 simp only [Act.put, pu]
 refine pw_mv (by rfl) rfl rfl ?_
 simp only [Act.put, pu]
 refine pw_skip (by rfl) ?_
 simp only [Act.put, pu]
 refine pw_skip (by rfl) ?_
 simp only [Act.put, pu]
 refine pw_skip (by rfl) ?_
 simp only [Act.put, pu]
 refine pw_skip (by rfl) ?_
 simp only [Act.put, pu]
 refine pw_pick (by rfl) true (v := .bool true) rfl rfl rfl ?_
 simp only [Act.put, pu]
 refine pw_nil ?_
 (repeat ((fail_if_success with_reducible refine rg ?_); go_step))
 refine wp_region_pw ?_
 refine pw_move (by rfl) (.inr rfl) rfl ?_
 simp only [Act.put, pu]
 refine pw_value (by rfl) (.int .i64 1) (fun _ => rfl) ?_
 simp only [Act.put, pu]
 refine pw_nil ?_
 go_wp2
 go_ret2
 exact ⟨rfl, sb⟩
set_option maxRecDepth 100000 in
set_option maxHeartbeats 2000000 in
theorem rfby_ends (b t : List UInt8) (x y : Int) (w : World) (h : enB x y = false) :
  Calls Tryd.prog 13 #[.agg (frC x y b t)] w fun e w' => e = .returned (.tuple #[.string ⟨#[]⟩, .int .i64 1]) ∧ Below w.heap.size w w' := by
 rw [enB_re] at h
 cases hx : reB x with
 | false => exact rfby_x b t x y w hx
 | true => rw [hx, Bool.true_and] at h; exact rfby_y b t x y w hx h
set_option maxRecDepth 100000 in
set_option maxHeartbeats 2000000 in
theorem rfby_tag (b t : List UInt8) (x y : Int) (w : World) (h : enB x y = true) (ht : t.length ≠ 32) :
  Calls Tryd.prog 13 #[.agg (frC x y b t)] w fun e w' => e = .returned (.tuple #[.string ⟨#[]⟩, .int .i64 1]) ∧ Below w.heap.size w w' := by
 rw [enB_re, Bool.and_eq_true] at h
 obtain ⟨hx, hy⟩ := h
 go_enter Tryd.func13, Tryd.ntmps13
 (repeat ((fail_if_success with_reducible refine rg ?_); go_step))
 refine wp_region_pw ?_
 refine pw_boxr (by rfl) 25 _ rfl (frC x y b t) rfl ?_
 intro g1 z0 n0 r1 k
 simp only [Act.put, pu]
 have b1 : w.heap.size ≤ g1 := n0
 clear n0
 have sb := k.below w.heap.size (Nat.le_refl _) (by simp)
 clear k
 refine pw_move (by rfl) (.inr rfl) rfl ?_
 simp only [Act.put, pu]
 refine pw_value (by rfl) (.int .i64 0) (fun _ => rfl) ?_
 simp only [Act.put, pu]
 refine pw_nil ?_
 (repeat ((fail_if_success with_reducible refine rg ?_); go_step))
 refine wp_region_pw ?_
 refine pw_value (by rfl) (.pointer (some ⟨g1, 0, none⟩)) (exec_field 25 _ 0 rfl g1 0 rfl _ Tryd.underlying25 _ rfl 0 Tryd.sizeOf3) ?_
 simp only [Act.put, pu]
 refine pw_loadk (by rfl) 3 _ rfl _ (0) rfl r1.r (.int .i64 x) rfl Tryd.isAgg3 ?_
 simp only [Act.put, pu]
 refine pw_callB (by rfl) 21 _ _ rfl Tryd.func21 (by kernel_rfl) #[.int .i64 x] rfl _ ((rend_any x _).mono fun e w' ⟨he, hb⟩ => ⟨he.trans (by rw [hx]), hb⟩) ?_
 intro z1002 k
 simp only [Act.put, pu]
 replace r1 := k.row r1 (by simp <;> omega)
 replace sb := sb.trans (k.below w.heap.size sb.size (by simp <;> omega))
 clear k
 refine pw_value (by rfl) (.bool false) (exec_not _ _ rfl true rfl) ?_
 simp only [Act.put, pu]
 refine pw_mv (by rfl) rfl rfl ?_
 simp only [Act.put, pu]
 refine pw_value (by rfl) (.pointer (some ⟨g1, 1, none⟩)) (exec_field 25 _ 1 rfl g1 0 rfl _ Tryd.underlying25 _ rfl 0 Tryd.sizeOf3) ?_
 simp only [Act.put, pu]
 refine pw_loadk (by rfl) 3 _ rfl _ (1) rfl r1.r (.int .i64 y) rfl Tryd.isAgg3 ?_
 simp only [Act.put, pu]
 refine pw_callB (by rfl) 21 _ _ rfl Tryd.func21 (by kernel_rfl) #[.int .i64 y] rfl _ ((rend_any y _).mono fun e w' ⟨he, hb⟩ => ⟨he.trans (by rw [hy]), hb⟩) ?_
 intro z1007 k
 simp only [Act.put, pu]
 replace r1 := k.row r1 (by simp <;> omega)
 replace sb := sb.trans (k.below w.heap.size sb.size (by simp <;> omega))
 clear k
 refine pw_value (by rfl) (.bool false) (exec_not _ _ rfl true rfl) ?_
 simp only [Act.put, pu]
 refine pw_pick (by rfl) false (v := .bool false) rfl rfl rfl ?_
 simp only [Act.put, pu]
 refine pw_mv (by rfl) rfl rfl ?_
 simp only [Act.put, pu]
 refine pw_value (by rfl) (.pointer (some ⟨g1, 3, none⟩)) (exec_field 25 _ 3 rfl g1 0 rfl _ Tryd.underlying25 _ rfl 0 Tryd.sizeOf9) ?_
 simp only [Act.put, pu]
 refine pw_loadk (by rfl) 9 _ rfl _ (3) rfl r1.r (.string ⟨t.toArray⟩) rfl Tryd.isAgg9 ?_
 simp only [Act.put, pu]
 refine pw_value (by rfl) (.int .i64 (t.length : Nat)) (y_lenS _ _ rfl t rfl Tryd.underlying9) ?_
 simp only [Act.put, pu]
 refine pw_value (by rfl) (.bool true) (x_neI _ _ _ _ rfl .i64 (t.length : Nat) 32 rfl rfl true (decide_eq_false (by omega))) ?_
 simp only [Act.put, pu]
 refine pw_pick (by rfl) false (v := .bool true) rfl rfl rfl ?_
 simp only [Act.put, pu]
 refine pw_mv (by rfl) rfl rfl ?_
 simp only [Act.put, pu]
 refine pw_skip (by rfl) ?_
 simp only [Act.put, pu]
 refine pw_skip (by rfl) ?_
 simp only [Act.put, pu]
 refine pw_skip (by rfl) ?_
 simp only [Act.put, pu]
 refine pw_skip (by rfl) ?_
 simp only [Act.put, pu]
 refine pw_pick (by rfl) true (v := .bool true) rfl rfl rfl ?_
 simp only [Act.put, pu]
 refine pw_nil ?_
 (repeat ((fail_if_success with_reducible refine rg ?_); go_step))
 refine wp_region_pw ?_
 refine pw_move (by rfl) (.inr rfl) rfl ?_
 simp only [Act.put, pu]
 refine pw_value (by rfl) (.int .i64 1) (fun _ => rfl) ?_
 simp only [Act.put, pu]
 refine pw_nil ?_
 go_wp2
 go_ret2
 exact ⟨rfl, sb⟩
set_option maxRecDepth 100000 in
set_option maxHeartbeats 2000000 in
theorem rfby_ok (b t : List UInt8) (x y : Int) (w : World) (h : enB x y = true) (ht : t.length = 32) (hb : b.length ≤ 8192) :
  Calls Tryd.prog 13 #[.agg (frC x y b t)] w fun e w' => e = .returned (.tuple #[.string ⟨(keyE x y ++ t ++ b).toArray⟩, .int .i64 0]) ∧ Below w.heap.size w w' := by
 rw [enB_re, Bool.and_eq_true] at h
 obtain ⟨hx, hy⟩ := h
 have hE : (keyE x y).length = 2 := rfl
 obtain ⟨ie, hie, hze, hsz, hbz⟩ := sinfo_b8
 have hs1 : ¬ 2 * ie.size > 2 ^ 24 := by rw [hsz]; decide
 have hs2 : ¬ 2 * ie.size = 0 := by rw [hsz]; decide
 go_enter Tryd.func13, Tryd.ntmps13
 (repeat ((fail_if_success with_reducible refine rg ?_); go_step))
 refine wp_region_pw ?_
 refine pw_boxr (by rfl) 25 _ rfl (frC x y b t) rfl ?_
 intro g1 z0 n0 r1 k
 simp only [Act.put, pu]
 have b1 : w.heap.size ≤ g1 := n0
 clear n0
 have sb := k.below w.heap.size (Nat.le_refl _) (by simp)
 clear k
 refine pw_move (by rfl) (.inr rfl) rfl ?_
 simp only [Act.put, pu]
 refine pw_value (by rfl) (.int .i64 0) (fun _ => rfl) ?_
 simp only [Act.put, pu]
 refine pw_nil ?_
 (repeat ((fail_if_success with_reducible refine rg ?_); go_step))
 refine wp_region_pw ?_
 refine pw_value (by rfl) (.pointer (some ⟨g1, 0, none⟩)) (exec_field 25 _ 0 rfl g1 0 rfl _ Tryd.underlying25 _ rfl 0 Tryd.sizeOf3) ?_
 simp only [Act.put, pu]
 refine pw_loadk (by rfl) 3 _ rfl _ (0) rfl r1.r (.int .i64 x) rfl Tryd.isAgg3 ?_
 simp only [Act.put, pu]
 refine pw_callB (by rfl) 21 _ _ rfl Tryd.func21 (by kernel_rfl) #[.int .i64 x] rfl _ ((rend_any x _).mono fun e w' ⟨he, hb⟩ => ⟨he.trans (by rw [hx]), hb⟩) ?_
 intro z1002 k
 simp only [Act.put, pu]
 replace r1 := k.row r1 (by simp <;> omega)
 replace sb := sb.trans (k.below w.heap.size sb.size (by simp <;> omega))
 clear k
 refine pw_value (by rfl) (.bool false) (exec_not _ _ rfl true rfl) ?_
 simp only [Act.put, pu]
 refine pw_mv (by rfl) rfl rfl ?_
 simp only [Act.put, pu]
 refine pw_value (by rfl) (.pointer (some ⟨g1, 1, none⟩)) (exec_field 25 _ 1 rfl g1 0 rfl _ Tryd.underlying25 _ rfl 0 Tryd.sizeOf3) ?_
 simp only [Act.put, pu]
 refine pw_loadk (by rfl) 3 _ rfl _ (1) rfl r1.r (.int .i64 y) rfl Tryd.isAgg3 ?_
 simp only [Act.put, pu]
 refine pw_callB (by rfl) 21 _ _ rfl Tryd.func21 (by kernel_rfl) #[.int .i64 y] rfl _ ((rend_any y _).mono fun e w' ⟨he, hb⟩ => ⟨he.trans (by rw [hy]), hb⟩) ?_
 intro z1007 k
 simp only [Act.put, pu]
 replace r1 := k.row r1 (by simp <;> omega)
 replace sb := sb.trans (k.below w.heap.size sb.size (by simp <;> omega))
 clear k
 refine pw_value (by rfl) (.bool false) (exec_not _ _ rfl true rfl) ?_
 simp only [Act.put, pu]
 refine pw_pick (by rfl) false (v := .bool false) rfl rfl rfl ?_
 simp only [Act.put, pu]
 refine pw_mv (by rfl) rfl rfl ?_
 simp only [Act.put, pu]
 refine pw_value (by rfl) (.pointer (some ⟨g1, 3, none⟩)) (exec_field 25 _ 3 rfl g1 0 rfl _ Tryd.underlying25 _ rfl 0 Tryd.sizeOf9) ?_
 simp only [Act.put, pu]
 refine pw_loadk (by rfl) 9 _ rfl _ (3) rfl r1.r (.string ⟨t.toArray⟩) rfl Tryd.isAgg9 ?_
 simp only [Act.put, pu]
 refine pw_value (by rfl) (.int .i64 (t.length : Nat)) (y_lenS _ _ rfl t rfl Tryd.underlying9) ?_
 simp only [Act.put, pu]
 refine pw_value (by rfl) (.bool false) (x_neI _ _ _ _ rfl .i64 (t.length : Nat) 32 rfl rfl false (decide_eq_true (by omega))) ?_
 simp only [Act.put, pu]
 refine pw_pick (by rfl) false (v := .bool false) rfl rfl rfl ?_
 simp only [Act.put, pu]
 refine pw_mv (by rfl) rfl rfl ?_
 simp only [Act.put, pu]
 refine pw_value (by rfl) (.pointer (some ⟨g1, 2, none⟩)) (exec_field 25 _ 2 rfl g1 0 rfl _ Tryd.underlying25 _ rfl 0 Tryd.sizeOf9) ?_
 simp only [Act.put, pu]
 refine pw_loadk (by rfl) 9 _ rfl _ (2) rfl r1.r (.string ⟨b.toArray⟩) rfl Tryd.isAgg9 ?_
 simp only [Act.put, pu]
 refine pw_value (by rfl) (.int .i64 (b.length : Nat)) (y_lenS _ _ rfl b rfl Tryd.underlying9) ?_
 simp only [Act.put, pu]
 refine pw_value (by rfl) (.bool false) (x_gt _ _ _ _ rfl (b.length : Nat) 8192 rfl rfl false (decide_eq_false (by omega))) ?_
 simp only [Act.put, pu]
 refine pw_pick (by rfl) false (v := .bool false) rfl rfl rfl ?_
 simp only [Act.put, pu]
 refine pw_nil ?_
 (repeat ((fail_if_success with_reducible refine rg ?_); go_step))
 refine wp_region_pw ?_
 refine pw_value (by rfl) (.pointer (some ⟨g1, 0, none⟩)) (exec_field 25 _ 0 rfl g1 0 rfl _ Tryd.underlying25 _ rfl 0 Tryd.sizeOf3) ?_
 simp only [Act.put, pu]
 refine pw_loadk (by rfl) 3 _ rfl _ (0) rfl r1.r (.int .i64 x) rfl Tryd.isAgg3 ?_
 simp only [Act.put, pu]
 refine pw_value (by rfl) (.int .u8 (by8 x : Nat)) (x_conv _ _ _ rfl .i64 .u8 Tryd.underlying3 Tryd.underlying5 x _ rfl (wrp8z x)) ?_
 simp only [Act.put, pu]
 refine pw_value (by rfl) (.pointer (some ⟨g1, 1, none⟩)) (exec_field 25 _ 1 rfl g1 0 rfl _ Tryd.underlying25 _ rfl 0 Tryd.sizeOf3) ?_
 simp only [Act.put, pu]
 refine pw_loadk (by rfl) 3 _ rfl _ (1) rfl r1.r (.int .i64 y) rfl Tryd.isAgg3 ?_
 simp only [Act.put, pu]
 refine pw_value (by rfl) (.int .u8 (by8 y : Nat)) (x_conv _ _ _ rfl .i64 .u8 Tryd.underlying3 Tryd.underlying5 y _ rfl (wrp8z y)) ?_
 simp only [Act.put, pu]
 refine pw_litr (by rfl) 35 5 2 _ rfl #[.int .u8 ((by8 x : Nat) : Int), .int .u8 ((by8 y : Nat) : Int)] ie _ Tryd.underlying35 hie hze hs1 hs2 [(0, .int .u8 ((by8 x : Nat) : Int)), (1, .int .u8 ((by8 y : Nat) : Int))] rfl (lit_e2 _ _ _ hsz) ?_
 intro gL z3006 n0 rL k
 simp only [Act.put, pu]
 have d1xL := Nat.lt_of_lt_of_le r1.lt n0
 have bL := Nat.le_trans sb.size n0
 clear n0
 replace r1 := k.row r1 (by simp <;> omega)
 replace sb := sb.trans (k.below w.heap.size sb.size (by simp <;> omega))
 clear k
 refine pw_run (by rfl) (.string ⟨(keyE x y).toArray⟩) _ (x_str _ rfl gL 0 2 2 (keyE x y) rfl rfl _ rL.r (cells_E x y)) ?_
 simp only [Act.put, pu]
 refine pw_value (by rfl) (.pointer (some ⟨g1, 3, none⟩)) (exec_field 25 _ 3 rfl g1 0 rfl _ Tryd.underlying25 _ rfl 0 Tryd.sizeOf9) ?_
 simp only [Act.put, pu]
 refine pw_loadk (by rfl) 9 _ rfl _ (3) rfl r1.r (.string ⟨t.toArray⟩) rfl Tryd.isAgg9 ?_
 simp only [Act.put, pu]
 refine pw_value (by rfl) (.string ⟨(keyE x y ++ t).toArray⟩) (x_cat _ _ _ _ rfl (keyE x y) t rfl rfl (by rw [hE]; omega)) ?_
 simp only [Act.put, pu]
 refine pw_value (by rfl) (.pointer (some ⟨g1, 2, none⟩)) (exec_field 25 _ 2 rfl g1 0 rfl _ Tryd.underlying25 _ rfl 0 Tryd.sizeOf9) ?_
 simp only [Act.put, pu]
 refine pw_loadk (by rfl) 9 _ rfl _ (2) rfl r1.r (.string ⟨b.toArray⟩) rfl Tryd.isAgg9 ?_
 simp only [Act.put, pu]
 refine pw_value (by rfl) (.string ⟨(keyE x y ++ t ++ b).toArray⟩) (x_cat _ _ _ _ rfl (keyE x y ++ t) b rfl rfl (by rw [List.length_append, hE]; omega)) ?_
 simp only [Act.put, pu]
 refine pw_as (by rfl) rfl rfl ?_
 simp only [Act.put, pu]
 refine pw_value (by rfl) (.int .i64 0) (fun _ => rfl) ?_
 simp only [Act.put, pu]
 refine pw_nil ?_
 go_wp2
 go_ret2
 exact ⟨rfl, sb⟩
set_option maxRecDepth 100000 in
set_option maxHeartbeats 2000000 in
theorem rtk_short (s : List UInt8) (w : World) (h : s.length < 34) :
  Calls Tryd.prog 15 #[.string ⟨s.toArray⟩] w fun e w' => e = .returned (.tuple #[.agg (frC 0 0 [] []), .int .i64 4]) ∧ Below w.heap.size w w' := by
 go_enter Tryd.func15, Tryd.ntmps15
 (repeat ((fail_if_success with_reducible refine rg ?_); go_step))
 refine wp_region_pw ?_
 refine pw_new (by rfl) 25 rfl _ zero_fr ?_
 intro g2 z0 n0 r2 k
 simp only [Act.put, pu]
 have b2 : w.heap.size ≤ g2 := n0
 clear n0
 have sb := k.below w.heap.size (Nat.le_refl _) (by simp)
 clear k
 refine pw_value (by rfl) (.int .i64 0) (fun _ => rfl) ?_
 simp only [Act.put, pu]
 refine pw_nil ?_
 (repeat ((fail_if_success with_reducible refine rg ?_); go_step))
 refine wp_region_pw ?_
 refine pw_mv (by rfl) rfl rfl ?_
 simp only [Act.put, pu]
 refine pw_value (by rfl) (.int .i64 (s.length : Nat)) (y_lenS _ _ rfl s rfl Tryd.underlying9) ?_
 simp only [Act.put, pu]
 refine pw_value (by rfl) (.bool true) (x_lt _ _ _ _ rfl (s.length : Nat) 34 rfl rfl true (decide_eq_true (by omega))) ?_
 simp only [Act.put, pu]
 refine pw_mv (by rfl) rfl rfl ?_
 simp only [Act.put, pu]
 refine pw_skip (by rfl) ?_
 simp only [Act.put, pu]
 refine pw_skip (by rfl) ?_
 simp only [Act.put, pu]
 refine pw_skip (by rfl) ?_
 simp only [Act.put, pu]
 refine pw_skip (by rfl) ?_
 simp only [Act.put, pu]
 refine pw_pick (by rfl) true (v := .bool true) rfl rfl rfl ?_
 simp only [Act.put, pu]
 refine pw_mv (by rfl) rfl rfl ?_
 simp only [Act.put, pu]
 refine pw_skip (by rfl) ?_
 simp only [Act.put, pu]
 refine pw_skip (by rfl) ?_
 simp only [Act.put, pu]
 refine pw_skip (by rfl) ?_
 simp only [Act.put, pu]
 refine pw_pick (by rfl) true (v := .bool true) rfl rfl rfl ?_
 simp only [Act.put, pu]
 refine pw_mv (by rfl) rfl rfl ?_
 simp only [Act.put, pu]
 refine pw_skip (by rfl) ?_
 simp only [Act.put, pu]
 refine pw_skip (by rfl) ?_
 simp only [Act.put, pu]
 refine pw_skip (by rfl) ?_
 simp only [Act.put, pu]
 refine pw_pick (by rfl) true (v := .bool true) rfl rfl rfl ?_
 simp only [Act.put, pu]
 refine pw_nil ?_
 (repeat ((fail_if_success with_reducible refine rg ?_); go_step))
 refine wp_region_pw ?_
 refine pw_value (by rfl) (.agg (frC 0 0 [] [])) (exec_buildv _ [] rfl [] rfl _ built_fr0) ?_
 simp only [Act.put, pu]
 refine pw_put (by rfl) 25 _ _ rfl _ rfl r2 (frC 0 0 [] []) rfl (by exact size_fr) (by rfl) (fr_one _ _ _ _) ?_
 clear r2
 intro z2001 r2 k
 simp only [Act.put]
 replace sb := sb.trans (k.below w.heap.size sb.size (by simp <;> omega))
 clear k
 refine pw_value (by rfl) (.int .i64 4) (fun _ => rfl) ?_
 simp only [Act.put, pu]
 refine pw_nil ?_
 go_wp2
 exact ret_rowE rfl _ rfl r2 _ Tryd.underlying25 (by exact size_fr) rfl _ rfl ⟨rfl, sb⟩
set_option maxRecDepth 100000 in
set_option maxHeartbeats 2000000 in
theorem rtk_z0 (s : List UInt8) (w : World) (h1 : 34 ≤ s.length) (h2 : s.length ≤ 8226) (h : bf s 0 = 0) :
  Calls Tryd.prog 15 #[.string ⟨s.toArray⟩] w fun e w' => e = .returned (.tuple #[.agg (frC 0 0 [] []), .int .i64 4]) ∧ Below w.heap.size w w' := by
 go_enter Tryd.func15, Tryd.ntmps15
 (repeat ((fail_if_success with_reducible refine rg ?_); go_step))
 refine wp_region_pw ?_
 refine pw_new (by rfl) 25 rfl _ zero_fr ?_
 intro g2 z0 n0 r2 k
 simp only [Act.put, pu]
 have b2 : w.heap.size ≤ g2 := n0
 clear n0
 have sb := k.below w.heap.size (Nat.le_refl _) (by simp)
 clear k
 refine pw_value (by rfl) (.int .i64 0) (fun _ => rfl) ?_
 simp only [Act.put, pu]
 refine pw_nil ?_
 (repeat ((fail_if_success with_reducible refine rg ?_); go_step))
 refine wp_region_pw ?_
 refine pw_mv (by rfl) rfl rfl ?_
 simp only [Act.put, pu]
 refine pw_value (by rfl) (.int .i64 (s.length : Nat)) (y_lenS _ _ rfl s rfl Tryd.underlying9) ?_
 simp only [Act.put, pu]
 refine pw_value (by rfl) (.bool false) (x_lt _ _ _ _ rfl (s.length : Nat) 34 rfl rfl false (decide_eq_false (by omega))) ?_
 simp only [Act.put, pu]
 refine pw_mv (by rfl) rfl rfl ?_
 simp only [Act.put, pu]
 refine pw_mv (by rfl) rfl rfl ?_
 simp only [Act.put, pu]
 refine pw_value (by rfl) (.int .i64 (s.length : Nat)) (y_lenS _ _ rfl s rfl Tryd.underlying9) ?_
 simp only [Act.put, pu]
 refine pw_value (by rfl) (.int .i64 (s.length - 34 : Nat)) (xi_sub _ _ _ _ rfl s.length 34 rfl rfl (by omega) (by omega)) ?_
 simp only [Act.put, pu]
 refine pw_value (by rfl) (.bool false) (x_gt _ _ _ _ rfl (s.length - 34 : Nat) 8192 rfl rfl false (decide_eq_false (by omega))) ?_
 simp only [Act.put, pu]
 refine pw_pick (by rfl) false (v := .bool false) rfl rfl rfl ?_
 simp only [Act.put, pu]
 refine pw_mv (by rfl) rfl rfl ?_
 simp only [Act.put, pu]
 refine pw_mv (by rfl) rfl rfl ?_
 simp only [Act.put, pu]
 refine pw_value (by rfl) (.int .u8 (bf s 0 : Nat)) (x_index _ _ _ rfl Tryd.underlying9 s rfl .i64 0 rfl (by omega)) ?_
 simp only [Act.put, pu]
 refine pw_value (by rfl) (.bool true) (x_eqI _ _ _ _ rfl .u8 (bf s 0 : Nat) 0 rfl rfl true (decide_eq_true (by omega))) ?_
 simp only [Act.put, pu]
 refine pw_pick (by rfl) false (v := .bool true) rfl rfl rfl ?_
 simp only [Act.put, pu]
 refine pw_mv (by rfl) rfl rfl ?_
 simp only [Act.put, pu]
 refine pw_skip (by rfl) ?_
 simp only [Act.put, pu]
 refine pw_skip (by rfl) ?_
 simp only [Act.put, pu]
 refine pw_skip (by rfl) ?_
 simp only [Act.put, pu]
 refine pw_pick (by rfl) true (v := .bool true) rfl rfl rfl ?_
 simp only [Act.put, pu]
 refine pw_nil ?_
 (repeat ((fail_if_success with_reducible refine rg ?_); go_step))
 refine wp_region_pw ?_
 refine pw_value (by rfl) (.agg (frC 0 0 [] [])) (exec_buildv _ [] rfl [] rfl _ built_fr0) ?_
 simp only [Act.put, pu]
 refine pw_put (by rfl) 25 _ _ rfl _ rfl r2 (frC 0 0 [] []) rfl (by exact size_fr) (by rfl) (fr_one _ _ _ _) ?_
 clear r2
 intro z2001 r2 k
 simp only [Act.put]
 replace sb := sb.trans (k.below w.heap.size sb.size (by simp <;> omega))
 clear k
 refine pw_value (by rfl) (.int .i64 4) (fun _ => rfl) ?_
 simp only [Act.put, pu]
 refine pw_nil ?_
 go_wp2
 exact ret_rowE rfl _ rfl r2 _ Tryd.underlying25 (by exact size_fr) rfl _ rfl ⟨rfl, sb⟩
set_option maxRecDepth 100000 in
set_option maxHeartbeats 2000000 in
theorem rtk_z1 (s : List UInt8) (w : World) (h1 : 34 ≤ s.length) (h2 : s.length ≤ 8226) (h : bf s 0 ≠ 0) (h3 : bf s 1 = 0) :
  Calls Tryd.prog 15 #[.string ⟨s.toArray⟩] w fun e w' => e = .returned (.tuple #[.agg (frC 0 0 [] []), .int .i64 4]) ∧ Below w.heap.size w w' := by
 go_enter Tryd.func15, Tryd.ntmps15
 (repeat ((fail_if_success with_reducible refine rg ?_); go_step))
 refine wp_region_pw ?_
 refine pw_new (by rfl) 25 rfl _ zero_fr ?_
 intro g2 z0 n0 r2 k
 simp only [Act.put, pu]
 have b2 : w.heap.size ≤ g2 := n0
 clear n0
 have sb := k.below w.heap.size (Nat.le_refl _) (by simp)
 clear k
 refine pw_value (by rfl) (.int .i64 0) (fun _ => rfl) ?_
 simp only [Act.put, pu]
 refine pw_nil ?_
 (repeat ((fail_if_success with_reducible refine rg ?_); go_step))
 refine wp_region_pw ?_
 refine pw_mv (by rfl) rfl rfl ?_
 simp only [Act.put, pu]
 refine pw_value (by rfl) (.int .i64 (s.length : Nat)) (y_lenS _ _ rfl s rfl Tryd.underlying9) ?_
 simp only [Act.put, pu]
 refine pw_value (by rfl) (.bool false) (x_lt _ _ _ _ rfl (s.length : Nat) 34 rfl rfl false (decide_eq_false (by omega))) ?_
 simp only [Act.put, pu]
 refine pw_mv (by rfl) rfl rfl ?_
 simp only [Act.put, pu]
 refine pw_mv (by rfl) rfl rfl ?_
 simp only [Act.put, pu]
 refine pw_value (by rfl) (.int .i64 (s.length : Nat)) (y_lenS _ _ rfl s rfl Tryd.underlying9) ?_
 simp only [Act.put, pu]
 refine pw_value (by rfl) (.int .i64 (s.length - 34 : Nat)) (xi_sub _ _ _ _ rfl s.length 34 rfl rfl (by omega) (by omega)) ?_
 simp only [Act.put, pu]
 refine pw_value (by rfl) (.bool false) (x_gt _ _ _ _ rfl (s.length - 34 : Nat) 8192 rfl rfl false (decide_eq_false (by omega))) ?_
 simp only [Act.put, pu]
 refine pw_pick (by rfl) false (v := .bool false) rfl rfl rfl ?_
 simp only [Act.put, pu]
 refine pw_mv (by rfl) rfl rfl ?_
 simp only [Act.put, pu]
 refine pw_mv (by rfl) rfl rfl ?_
 simp only [Act.put, pu]
 refine pw_value (by rfl) (.int .u8 (bf s 0 : Nat)) (x_index _ _ _ rfl Tryd.underlying9 s rfl .i64 0 rfl (by omega)) ?_
 simp only [Act.put, pu]
 refine pw_value (by rfl) (.bool false) (x_eqI _ _ _ _ rfl .u8 (bf s 0 : Nat) 0 rfl rfl false (decide_eq_false (by omega))) ?_
 simp only [Act.put, pu]
 refine pw_pick (by rfl) false (v := .bool false) rfl rfl rfl ?_
 simp only [Act.put, pu]
 refine pw_mv (by rfl) rfl rfl ?_
 simp only [Act.put, pu]
 refine pw_mv (by rfl) rfl rfl ?_
 simp only [Act.put, pu]
 refine pw_value (by rfl) (.int .u8 (bf s 1 : Nat)) (x_index _ _ _ rfl Tryd.underlying9 s rfl .i64 1 rfl (by omega)) ?_
 simp only [Act.put, pu]
 refine pw_value (by rfl) (.bool true) (x_eqI _ _ _ _ rfl .u8 (bf s 1 : Nat) 0 rfl rfl true (decide_eq_true (by omega))) ?_
 simp only [Act.put, pu]
 refine pw_pick (by rfl) false (v := .bool true) rfl rfl rfl ?_
 simp only [Act.put, pu]
 refine pw_nil ?_
 (repeat ((fail_if_success with_reducible refine rg ?_); go_step))
 refine wp_region_pw ?_
 refine pw_value (by rfl) (.agg (frC 0 0 [] [])) (exec_buildv _ [] rfl [] rfl _ built_fr0) ?_
 simp only [Act.put, pu]
 refine pw_put (by rfl) 25 _ _ rfl _ rfl r2 (frC 0 0 [] []) rfl (by exact size_fr) (by rfl) (fr_one _ _ _ _) ?_
 clear r2
 intro z2001 r2 k
 simp only [Act.put]
 replace sb := sb.trans (k.below w.heap.size sb.size (by simp <;> omega))
 clear k
 refine pw_value (by rfl) (.int .i64 4) (fun _ => rfl) ?_
 simp only [Act.put, pu]
 refine pw_nil ?_
 go_wp2
 exact ret_rowE rfl _ rfl r2 _ Tryd.underlying25 (by exact size_fr) rfl _ rfl ⟨rfl, sb⟩
set_option maxRecDepth 100000 in
set_option maxHeartbeats 2000000 in
theorem rtk_ok (s : List UInt8) (w : World) (h1 : 34 ≤ s.length) (h2 : s.length ≤ 8226) (h : bf s 0 ≠ 0) (h3 : bf s 1 ≠ 0) :
  Calls Tryd.prog 15 #[.string ⟨s.toArray⟩] w fun e w' => e = .returned (.tuple #[.agg (frC (bf s 0 : Nat) (bf s 1 : Nat) (s.drop 34) ((s.take 34).drop 2)), .int .i64 0]) ∧ Below w.heap.size w w' := by
 go_enter Tryd.func15, Tryd.ntmps15
 (repeat ((fail_if_success with_reducible refine rg ?_); go_step))
 refine wp_region_pw ?_
 refine pw_new (by rfl) 25 rfl _ zero_fr ?_
 intro g2 z0 n0 r2 k
 simp only [Act.put, pu]
 have b2 : w.heap.size ≤ g2 := n0
 clear n0
 have sb := k.below w.heap.size (Nat.le_refl _) (by simp)
 clear k
 refine pw_value (by rfl) (.int .i64 0) (fun _ => rfl) ?_
 simp only [Act.put, pu]
 refine pw_nil ?_
 (repeat ((fail_if_success with_reducible refine rg ?_); go_step))
 refine wp_region_pw ?_
 refine pw_mv (by rfl) rfl rfl ?_
 simp only [Act.put, pu]
 refine pw_value (by rfl) (.int .i64 (s.length : Nat)) (y_lenS _ _ rfl s rfl Tryd.underlying9) ?_
 simp only [Act.put, pu]
 refine pw_value (by rfl) (.bool false) (x_lt _ _ _ _ rfl (s.length : Nat) 34 rfl rfl false (decide_eq_false (by omega))) ?_
 simp only [Act.put, pu]
 refine pw_mv (by rfl) rfl rfl ?_
 simp only [Act.put, pu]
 refine pw_mv (by rfl) rfl rfl ?_
 simp only [Act.put, pu]
 refine pw_value (by rfl) (.int .i64 (s.length : Nat)) (y_lenS _ _ rfl s rfl Tryd.underlying9) ?_
 simp only [Act.put, pu]
 refine pw_value (by rfl) (.int .i64 (s.length - 34 : Nat)) (xi_sub _ _ _ _ rfl s.length 34 rfl rfl (by omega) (by omega)) ?_
 simp only [Act.put, pu]
 refine pw_value (by rfl) (.bool false) (x_gt _ _ _ _ rfl (s.length - 34 : Nat) 8192 rfl rfl false (decide_eq_false (by omega))) ?_
 simp only [Act.put, pu]
 refine pw_pick (by rfl) false (v := .bool false) rfl rfl rfl ?_
 simp only [Act.put, pu]
 refine pw_mv (by rfl) rfl rfl ?_
 simp only [Act.put, pu]
 refine pw_mv (by rfl) rfl rfl ?_
 simp only [Act.put, pu]
 refine pw_value (by rfl) (.int .u8 (bf s 0 : Nat)) (x_index _ _ _ rfl Tryd.underlying9 s rfl .i64 0 rfl (by omega)) ?_
 simp only [Act.put, pu]
 refine pw_value (by rfl) (.bool false) (x_eqI _ _ _ _ rfl .u8 (bf s 0 : Nat) 0 rfl rfl false (decide_eq_false (by omega))) ?_
 simp only [Act.put, pu]
 refine pw_pick (by rfl) false (v := .bool false) rfl rfl rfl ?_
 simp only [Act.put, pu]
 refine pw_mv (by rfl) rfl rfl ?_
 simp only [Act.put, pu]
 refine pw_mv (by rfl) rfl rfl ?_
 simp only [Act.put, pu]
 refine pw_value (by rfl) (.int .u8 (bf s 1 : Nat)) (x_index _ _ _ rfl Tryd.underlying9 s rfl .i64 1 rfl (by omega)) ?_
 simp only [Act.put, pu]
 refine pw_value (by rfl) (.bool false) (x_eqI _ _ _ _ rfl .u8 (bf s 1 : Nat) 0 rfl rfl false (decide_eq_false (by omega))) ?_
 simp only [Act.put, pu]
 refine pw_pick (by rfl) false (v := .bool false) rfl rfl rfl ?_
 simp only [Act.put, pu]
 refine pw_nil ?_
 (repeat ((fail_if_success with_reducible refine rg ?_); go_step))
 apply wp_region_mix (by kernel_rfl) [(g2, 25, frC 0 0 [] [])] [_, _, _, _, _, _, _, _, _, _, _, _, _] ⟨r2, trivial⟩ (by simp <;> omega)
 ·intro p
  refine mx_move rfl rfl ?_
  simp only [Act.put, pu]
  refine mx_val (.int .u8 (bf s 0 : Nat)) (x_index _ _ _ rfl Tryd.underlying9 s rfl .i64 0 rfl (by omega)) ?_
  simp only [Act.put, pu]
  refine mx_val (.int .i64 (bf s 0 : Nat)) (x_conv _ _ _ rfl .u8 .i64 Tryd.underlying5 Tryd.underlying3 (bf s 0 : Nat) _ rfl (wri _ (bf_lt s 0))) ?_
  simp only [Act.put, pu]
  refine mx_move rfl rfl ?_
  simp only [Act.put, pu]
  refine mx_val (.int .u8 (bf s 1 : Nat)) (x_index _ _ _ rfl Tryd.underlying9 s rfl .i64 1 rfl (by omega)) ?_
  simp only [Act.put, pu]
  refine mx_val (.int .i64 (bf s 1 : Nat)) (x_conv _ _ _ rfl .u8 .i64 Tryd.underlying5 Tryd.underlying3 (bf s 1 : Nat) _ rfl (wri _ (bf_lt s 1))) ?_
  simp only [Act.put, pu]
  refine mx_move rfl rfl ?_
  simp only [Act.put, pu]
  refine mx_val (.string ⟨((s.take 34).drop 2).toArray⟩) (y_mid _ _ _ _ Tryd.underlying9 rfl s 2 34 rfl rfl rfl (by omega) (by omega) _ rfl) ?_
  simp only [Act.put, pu]
  refine mx_move rfl rfl ?_
  simp only [Act.put, pu]
  refine mx_val (.string ⟨(s.drop 34).toArray⟩) (y_from _ _ _ Tryd.underlying9 rfl s 34 rfl rfl (by omega)) ?_
  simp only [Act.put, pu]
  refine mx_val (.agg (frC (bf s 0 : Nat) (bf s 1 : Nat) (s.drop 34) ((s.take 34).drop 2))) (exec_buildv _ [(0, _), (1, _), (3, _), (2, _)] rfl [(0, .int .i64 (bf s 0 : Nat)), (1, .int .i64 (bf s 1 : Nat)), (3, .string ⟨((s.take 34).drop 2).toArray⟩), (2, .string ⟨(s.drop 34).toArray⟩)] rfl _ (built_frr _ _ _ _)) ?_
  simp only [Act.put, pu]
  refine mx_put 0 25 _ _ rfl rfl rfl (frC (bf s 0 : Nat) (bf s 1 : Nat) (s.drop 34) ((s.take 34).drop 2)) rfl (by exact size_fr) (by rfl) (fr_one _ _ _ _) ?_
  simp only [Act.put]
  refine mx_val (.int .i64 0) (fun _ => rfl) ?_
  simp only [Act.put, pu]
  refine mx_end ?_
  intro w6 hkw hrw hnew hdis
  have zr2 : Row w6 (g2) (frC (bf s 0 : Nat) (bf s 1 : Nat) (s.drop 34) ((s.take 34).drop 2)) 25 := hrw 0 (25, frC (bf s 0 : Nat) (bf s 1 : Nat) (s.drop 34) ((s.take 34).drop 2)) rfl
  replace sb := sb.trans (hkw.below w.heap.size sb.size (by simp <;> omega))
  clear hkw hrw hnew hdis r2
  have r2 := zr2
  clear zr2
  go_wp2
  exact ret_rowE rfl _ rfl r2 _ Tryd.underlying25 (by exact size_fr) rfl _ rfl ⟨rfl, sb⟩
 ·kernel_rfl
theorem rtk_no (s : List UInt8) (w : World) (h1 : 34 ≤ s.length) (h2 : s.length ≤ 8226) (h : enB (bf s 0 : Nat) (bf s 1 : Nat) = false) :
  Calls Tryd.prog 15 #[.string ⟨s.toArray⟩] w fun e w' => e = .returned (.tuple #[.agg (frC 0 0 [] []), .int .i64 4]) ∧ Below w.heap.size w w' := by
 have hn := enB_no h
 have l0 := bf_lt s 0
 have l1 := bf_lt s 1
 by_cases h0 : bf s 0 = 0
 ·exact rtk_z0 s w h1 h2 h0
 ·exact rtk_z1 s w h1 h2 h0 (by omega)
theorem rtk_yes (s : List UInt8) (w : World) (h1 : 34 ≤ s.length) (h2 : s.length ≤ 8226) (h : enB (bf s 0 : Nat) (bf s 1 : Nat) = true) :
  Calls Tryd.prog 15 #[.string ⟨s.toArray⟩] w fun e w' => e = .returned (.tuple #[.agg (frC (bf s 0 : Nat) (bf s 1 : Nat) (s.drop 34) ((s.take 34).drop 2)), .int .i64 0]) ∧ Below w.heap.size w w' := by
 have hn := enB_yes h
 exact rtk_ok s w h1 h2 (by omega) (by omega)
end Go.Proofs.YtdanmnhknmepiaaDoor
