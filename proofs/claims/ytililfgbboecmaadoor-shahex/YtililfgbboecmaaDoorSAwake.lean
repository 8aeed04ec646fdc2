/- What must come, whatever the arguments are: the check of the laws of layer 5. -/
import Derived.Test.YtililfgbboecmaaDoorSHex
import Derived.Test.YtililfgbboecmaaDoorSAbc
namespace Go.Proofs.YtililfgbboecmaaDoor
open Go.RowKit
set_option linter.unusedVariables false

theorem sha_length (l : List UInt8) : (sha l).length = 32 := outL_length _
theorem x_eqS {P : Program} {o : Oper} {ρ : Operand → Value} (t : TypeId) (x y : Operand) (u : TypeId) (ho : o.op = .binOp .eql t x y u) (n m : ByteArray) (hx : ρ x = .string n) (hy : ρ y = .string m) (h : n = m) (w : World) :
    (execOp ρ o).run P w = .ok (.value (.bool true)) w := by
  subst h
  exact exec_eql_str t x y u ho n hx hy w
theorem hex_abc : hexL (sha [97, 98, 99]) = [98, 97, 55, 56, 49, 54, 98, 102, 56, 102, 48, 49, 99, 102, 101, 97, 52, 49, 52, 49, 52, 48, 100, 101, 53, 100, 97, 101, 50, 50, 50, 51, 98, 48, 48, 51, 54, 49, 97, 51, 57, 54, 49, 55, 55, 97, 57, 99, 98, 52, 49, 48, 102, 102, 54, 49, 102, 50, 48, 48, 49, 53, 97, 100] := by rw [sha_abc]; kernel_rfl
theorem hex_two : hexL [15, 160] = [48, 102, 97, 48] := by kernel_rfl
set_option maxRecDepth 100000 in
set_option maxHeartbeats 2000000 in
theorem awake5_any (w : World) (kT : KT w) : Calls Tryd.prog 7 #[] w fun e w' => e = .returned (.bool true) ∧ Below w.heap.size w w' := by
  have k0 := kT.lt
  go_enter Tryd.func7, Tryd.ntmps7
  go_wp2_with fail
  refine (new_any _).mono ?_
  rintro _ w2 ⟨g0, rfl, hg, r0, sb⟩
  dsimp only
  (repeat ((fail_if_success (with_reducible show Code.wp _ (Code.region _ _ _) _ _ _)); go_step))
  refine wp_region_qp ?_
  refine qw_move (by rfl) rfl rfl ?_
  simp only [Act.put, pb, pc, pd]
  refine qw_value (by rfl) (.bool false) (x_nilp _ _ _ _ rfl (some ⟨g0, 0, none⟩) rfl rfl _ Tryd.underlying27) ?_
  simp only [Act.put, pb, pc, pd]
  refine qw_nil ?_
  intro w3 hqb
  replace r0 := r0.belowAll hqb
  replace sb := below_on sb (Nat.le_refl _) hqb
  clear hqb
  go_wp2_with fail
  refine (add_any [] [97] (fun _ => 0) g0 _ (by decide) hs_nil r0 (kT.below sb) (by omega)).mono ?_
  rintro _ w4 ⟨rfl, B1, h1, r0, sk⟩
  replace sb := sb.trans (sk.below w.heap.size sb.size (by simpa using hg))
  clear sk
  rw [List.nil_append] at h1 r0
  dsimp only
  go_wp2_with fail
  refine (add_any [97] [98, 99] B1 g0 _ (by decide) h1 r0 (kT.below sb) (by omega)).mono ?_
  rintro _ w5 ⟨rfl, B2, h2, r0, sk⟩
  replace sb := sb.trans (sk.below w.heap.size sb.size (by simpa using hg))
  clear sk h1
  rw [show ([97] ++ [98, 99] : List UInt8) = [97, 98, 99] from rfl] at h2 r0
  have kT5 := kT.below sb
  have HS : Hid (HS [97, 98, 99] B2) := h2
  clear h2
  dsimp only
  (repeat ((fail_if_success (with_reducible show Code.wp _ (Code.region _ _ _) _ _ _)); go_step))
  refine wp_region_qp ?_
  refine qw_callK (by rfl) 8 _ _ rfl Tryd.func8 (by kernel_rfl) #[.string ⟨#[97, 98, 99]⟩] rfl _ (fun w' hb => ssum_any [97, 98, 99] w' (by decide) (kT5.below hb)) ?_
  simp only [Act.put, pb, pc, pd]
  refine qw_call (by rfl) 14 _ _ rfl Tryd.func14 (by kernel_rfl) #[.string ⟨(sha [97, 98, 99]).toArray⟩] rfl _ (fun w' => hex_any (sha [97, 98, 99]) w' (by rw [sha_length]; decide)) ?_
  simp only [Act.put, pb, pc, pd]
  refine qw_value (by rfl) (.bool true) (x_eqS _ _ _ _ rfl ⟨(hexL (sha [97, 98, 99])).toArray⟩ _ rfl rfl (by rw [hex_abc])) ?_
  simp only [Act.put, pb, pc, pd]
  refine qw_move (by rfl) rfl rfl ?_
  simp only [Act.put, pb, pc, pd]
  refine qw_move (by rfl) rfl rfl ?_
  simp only [Act.put, pb, pc, pd]
  refine qw_callK (by rfl) 13 _ _ rfl Tryd.func13 (by kernel_rfl) #[.pointer (some ⟨g0, 0, none⟩)] rfl _ (fun w' hb => hsum_any [97, 98, 99] B2 g0 w' (by decide) HS.out (r0.belowAll hb) (kT5.below hb)) ?_
  simp only [Act.put, pb, pc, pd]
  refine qw_callK (by rfl) 8 _ _ rfl Tryd.func8 (by kernel_rfl) #[.string ⟨#[97, 98, 99]⟩] rfl _ (fun w' hb => ssum_any [97, 98, 99] w' (by decide) (kT5.below hb)) ?_
  simp only [Act.put, pb, pc, pd]
  refine qw_value (by rfl) (.bool true) (exec_eql_str _ _ _ _ rfl _ rfl rfl) ?_
  simp only [Act.put, pb, pc, pd]
  refine qw_pick true (v := .bool true) (by rfl) rfl rfl rfl ?_
  simp only [Act.put, pb, pc, pd]
  refine qw_move (by rfl) rfl rfl ?_
  simp only [Act.put, pb, pc, pd]
  refine qw_call (by rfl) 14 _ _ rfl Tryd.func14 (by kernel_rfl) #[.string ⟨#[15, 160]⟩] rfl _ (fun w' => hex_any [15, 160] w' (by decide)) ?_
  simp only [Act.put, pb, pc, pd]
  refine qw_value (by rfl) (.bool true) (x_eqS _ _ _ _ rfl ⟨(hexL [15, 160]).toArray⟩ _ rfl rfl (by rw [hex_two])) ?_
  simp only [Act.put, pb, pc, pd]
  refine qw_pick true (v := .bool true) (by rfl) rfl rfl rfl ?_
  simp only [Act.put, pb, pc, pd]
  refine qw_asg (by rfl) rfl rfl ?_
  simp only [Act.put, List.setIfInBounds_toArray, List.set_cons_zero]
  refine qw_nil ?_
  intro w9 hqb
  replace sb := below_on sb (Nat.le_refl _) hqb
  clear hqb
  go_wp2
  go_ret
  exact ⟨rfl, sb⟩
end Go.Proofs.YtililfgbboecmaaDoor
