/- group's Other, Great. -/
import Derived.Test.YtbmkebdfaokmhaaGGiv
namespace Go.Proofs.Ytbmkebdfaokmhaa
open Go.RowKit
def otS : List UInt8 := [53, 52, 54, 50, 52, 51, 51, 51, 49, 51, 57, 53, 50, 52, 49, 50, 56]
def otT : List (List UInt8) := [[54, 52, 56, 49, 55], [49, 56, 49, 53, 49, 51, 53, 50, 54, 57], [52, 56, 55, 50, 54, 57, 48, 57, 49, 52, 52, 55, 48, 56, 49, 52, 50, 57]]
def otF (i : Nat) : List UInt8 := otT.getD i []
set_option maxRecDepth 100000 in
set_option maxHeartbeats 2000000 in
theorem ot_lit : Instr.fill (fun i => some (i * 1, 1)) ((Array.range (3 * 1)).map ((Value.string ⟨#[]⟩).cells[· % (Value.string ⟨#[]⟩).cells.size]!)) [(0, .string ⟨(otF 0).toArray⟩), (1, .string ⟨(otF 1).toArray⟩), (2, .string ⟨(otF 2).toArray⟩)] = some (sxC 3 otF) := by kernel_rfl
theorem ot_dig : DigS otS := digS_of _ (by decide) (by decide)
theorem ot_digs (i : Nat) (h : i < 3) : DigS (otF i) := by
 match i, h with
 | 0, _ => exact digS_of _ (by decide) (by decide)
 | 1, _ => exact digS_of _ (by decide) (by decide)
 | 2, _ => exact digS_of _ (by decide) (by decide)
theorem ot_g : dcN otS otS.length = otG := by rw [dcN_is]; decide
theorem ot_n (i : Nat) (h : i < 3) : dcN (otF i) (otF i).length = lN otL i := by
 match i, h with
 | 0, _ => rw [dcN_is]; decide
 | 1, _ => rw [dcN_is]; decide
 | 2, _ => rw [dcN_is]; decide
theorem ot_lt (i : Nat) (h : i < 3) : lN otL i < 2 ^ 256 := by
 match i, h with
 | 0, _ => decide
 | 1, _ => decide
 | 2, _ => decide
set_option maxRecDepth 100000 in
set_option maxHeartbeats 2000000 in
theorem gother_any (w : World) :
  Calls Try.prog 9 #[] w fun e w' => ∃ g, e = .returned (.agg (paC (some ⟨g, 0, none⟩) 3 3 otG)) ∧ w.heap.size ≤ g ∧ Row w' g (lksC 3 (lN otL) twoA) 58 ∧ Below w.heap.size w w' := by
 obtain ⟨ie, hie, hz, hsz⟩ := info_str'
 have hs1 : ¬ 3 * ie.size > 2 ^ 24 := by rw [hsz]; decide
 have hs2 : ¬ 3 * ie.size = 0 := by rw [hsz]; decide
 have hl := lit_str _ _ ie.size hsz ot_lit
 have hwr := fun w' g (r : Row w' g (sxC 3 otF) 9) => written_any 3 otS otF g w' (by decide) ot_dig ot_digs r
 rw [ot_g, lksC_congr 3 (fun i => dcN (otF i) (otF i).length) (lN otL) twoA twoA (fun k hk => ⟨ot_n k hk, rfl⟩)] at hwr
 go_enter Try.func9, Try.ntmps9
 (repeat ((fail_if_success with_reducible refine rg ?_); go_step))
 refine wp_region_pw ?_
 refine pw_new (by rfl) 27 rfl _ zero_pa ?_
 intro g0 z0 n0 r0 k
 simp only [Act.put, List.setIfInBounds_toArray, List.set_cons_zero]
 have b0 : w.heap.size ≤ g0 := n0
 clear n0
 have sb := k.below w.heap.size (Nat.le_refl _) (by simp)
 clear k
 refine pw_nil ?_
 (repeat ((fail_if_success with_reducible refine rg ?_); go_step))
 refine wp_region_pw ?_
 refine pw_litr (by rfl) 82 9 3 _ rfl (sxC 3 otF) ie _ Try.underlying82 hie hz hs1 hs2 [(0, .string ⟨(otF 0).toArray⟩), (1, .string ⟨(otF 1).toArray⟩), (2, .string ⟨(otF 2).toArray⟩)] rfl hl ?_
 intro g1 z1000 n0 r1 k
 simp only [Act.put, pu]
 have d0x1 := Nat.lt_of_lt_of_le r0.lt n0
 have b1 := Nat.le_trans sb.size n0
 clear n0
 replace r0 := k.row r0 (by simp <;> omega)
 replace sb := sb.trans (k.below w.heap.size sb.size (by simp <;> omega))
 clear k
 refine pw_callE (by rfl) 33 _ _ rfl Try.func33 (by kernel_rfl) #[.string ⟨otS.toArray⟩, .slice (some ⟨g1, 0, none⟩) 3 3] rfl (hwr _ g1 r1) ?_
 rintro _ z1001 ⟨g2, rfl, n2, r2, hb⟩
 refine ⟨_, rfl, ?_⟩
 simp only [Act.put, pu]
 have d0x2 := Nat.lt_of_lt_of_le r0.lt n2
 have d1x2 := Nat.lt_of_lt_of_le r1.lt n2
 have b2 := Nat.le_trans sb.size n2
 clear n2
 have k := Kept.ofBelow hb
 clear hb
 replace r0 := k.row r0 (by simp <;> omega)
 replace r1 := k.row r1 (by simp <;> omega)
 replace sb := sb.trans (k.below w.heap.size sb.size (by simp <;> omega))
 clear k
 refine pw_put (by rfl) 27 _ _ rfl _ rfl r0 (paC (some ⟨g2, 0, none⟩) 3 3 otG) rfl (by exact size_pa) (by rfl) (pa_one _ _ _ _) ?_
 clear r0
 intro z1002 r0 k
 simp only [Act.put]
 replace r1 := k.row r1 (by simp <;> omega)
 replace r2 := k.row r2 (by simp <;> omega)
 replace sb := sb.trans (k.below w.heap.size sb.size (by simp <;> omega))
 clear k
 refine pw_nil ?_
 go_wp2
 exact ret_rowd rfl _ rfl r0 _ Try.underlying27 (by exact size_pa) rfl ⟨g2, rfl, b2, r2, sb⟩
def grS : List UInt8 := [57, 49, 53, 49, 49, 53, 55, 51, 52, 49, 54, 54, 55, 52, 54, 57, 54, 49, 53, 56, 48, 48, 57, 57, 55, 49, 51, 48, 50, 51, 49, 52, 53, 52, 56, 54, 53, 52, 50, 53, 48, 49, 56, 49, 56, 49, 57, 49, 55, 57, 48, 52, 57, 50, 49, 52, 55, 57, 57, 55, 50, 55, 50, 57]
def grT : List (List UInt8) := [[54, 53, 53, 49, 57], [49, 51, 49, 51, 57, 49, 56, 48, 50, 55], [56, 56, 49, 55, 53, 53, 54, 55, 50, 48, 51, 55, 55, 57, 55, 54, 49], [54, 51, 53, 51, 55, 49, 57, 50, 50, 53, 54, 51, 51, 57, 57, 55, 53, 53, 49, 49, 57, 50, 57, 55, 54, 54, 54, 49, 56, 49, 53, 49, 55, 49], [49, 50, 56, 56, 54, 56, 55, 51, 53, 56, 52, 48, 57, 48, 53, 50, 52, 54, 53, 57, 55, 48, 48, 53, 54, 50, 50, 50, 56, 54, 55, 53, 51, 51, 56, 51, 53, 49, 48, 52, 56, 54, 51, 53, 57, 51, 48, 55, 54, 48, 57, 56, 52, 53, 56, 52, 51, 56, 53, 54, 49, 52, 51, 49, 56, 51]]
def grF (i : Nat) : List UInt8 := grT.getD i []
set_option maxRecDepth 100000 in
set_option maxHeartbeats 2000000 in
theorem gr_lit : Instr.fill (fun i => some (i * 1, 1)) ((Array.range (5 * 1)).map ((Value.string ⟨#[]⟩).cells[· % (Value.string ⟨#[]⟩).cells.size]!)) [(0, .string ⟨(grF 0).toArray⟩), (1, .string ⟨(grF 1).toArray⟩), (2, .string ⟨(grF 2).toArray⟩), (3, .string ⟨(grF 3).toArray⟩), (4, .string ⟨(grF 4).toArray⟩)] = some (sxC 5 grF) := by kernel_rfl
theorem gr_dig : DigS grS := digS_of _ (by decide) (by decide)
theorem gr_digs (i : Nat) (h : i < 5) : DigS (grF i) := by
 match i, h with
 | 0, _ => exact digS_of _ (by decide) (by decide)
 | 1, _ => exact digS_of _ (by decide) (by decide)
 | 2, _ => exact digS_of _ (by decide) (by decide)
 | 3, _ => exact digS_of _ (by decide) (by decide)
 | 4, _ => exact digS_of _ (by decide) (by decide)
theorem gr_g : dcN grS grS.length = grG := by rw [dcN_is]; decide
theorem gr_n (i : Nat) (h : i < 5) : dcN (grF i) (grF i).length = lN grL i := by
 match i, h with
 | 0, _ => rw [dcN_is]; decide
 | 1, _ => rw [dcN_is]; decide
 | 2, _ => rw [dcN_is]; decide
 | 3, _ => rw [dcN_is]; decide
 | 4, _ => rw [dcN_is]; decide
theorem gr_lt (i : Nat) (h : i < 5) : lN grL i < 2 ^ 256 := by
 match i, h with
 | 0, _ => decide
 | 1, _ => decide
 | 2, _ => decide
 | 3, _ => decide
 | 4, _ => decide
set_option maxRecDepth 100000 in
set_option maxHeartbeats 2000000 in
theorem ggreat_any (w : World) :
  Calls Try.prog 11 #[] w fun e w' => ∃ g, e = .returned (.agg (paC (some ⟨g, 0, none⟩) 5 5 grG)) ∧ w.heap.size ≤ g ∧ Row w' g (lksC 5 (lN grL) twoA) 58 ∧ Below w.heap.size w w' := by
 obtain ⟨ie, hie, hz, hsz⟩ := info_str'
 have hs1 : ¬ 5 * ie.size > 2 ^ 24 := by rw [hsz]; decide
 have hs2 : ¬ 5 * ie.size = 0 := by rw [hsz]; decide
 have hl := lit_str _ _ ie.size hsz gr_lit
 have hwr := fun w' g (r : Row w' g (sxC 5 grF) 9) => written_any 5 grS grF g w' (by decide) gr_dig gr_digs r
 rw [gr_g, lksC_congr 5 (fun i => dcN (grF i) (grF i).length) (lN grL) twoA twoA (fun k hk => ⟨gr_n k hk, rfl⟩)] at hwr
 go_enter Try.func11, Try.ntmps11
 (repeat ((fail_if_success with_reducible refine rg ?_); go_step))
 refine wp_region_pw ?_
 refine pw_new (by rfl) 27 rfl _ zero_pa ?_
 intro g0 z0 n0 r0 k
 simp only [Act.put, List.setIfInBounds_toArray, List.set_cons_zero]
 have b0 : w.heap.size ≤ g0 := n0
 clear n0
 have sb := k.below w.heap.size (Nat.le_refl _) (by simp)
 clear k
 refine pw_nil ?_
 (repeat ((fail_if_success with_reducible refine rg ?_); go_step))
 refine wp_region_pw ?_
 refine pw_litr (by rfl) 82 9 5 _ rfl (sxC 5 grF) ie _ Try.underlying82 hie hz hs1 hs2 [(0, .string ⟨(grF 0).toArray⟩), (1, .string ⟨(grF 1).toArray⟩), (2, .string ⟨(grF 2).toArray⟩), (3, .string ⟨(grF 3).toArray⟩), (4, .string ⟨(grF 4).toArray⟩)] rfl hl ?_
 intro g1 z1000 n0 r1 k
 simp only [Act.put, pu]
 have d0x1 := Nat.lt_of_lt_of_le r0.lt n0
 have b1 := Nat.le_trans sb.size n0
 clear n0
 replace r0 := k.row r0 (by simp <;> omega)
 replace sb := sb.trans (k.below w.heap.size sb.size (by simp <;> omega))
 clear k
 refine pw_callE (by rfl) 33 _ _ rfl Try.func33 (by kernel_rfl) #[.string ⟨grS.toArray⟩, .slice (some ⟨g1, 0, none⟩) 5 5] rfl (hwr _ g1 r1) ?_
 rintro _ z1001 ⟨g2, rfl, n2, r2, hb⟩
 refine ⟨_, rfl, ?_⟩
 simp only [Act.put, pu]
 have d0x2 := Nat.lt_of_lt_of_le r0.lt n2
 have d1x2 := Nat.lt_of_lt_of_le r1.lt n2
 have b2 := Nat.le_trans sb.size n2
 clear n2
 have k := Kept.ofBelow hb
 clear hb
 replace r0 := k.row r0 (by simp <;> omega)
 replace r1 := k.row r1 (by simp <;> omega)
 replace sb := sb.trans (k.below w.heap.size sb.size (by simp <;> omega))
 clear k
 refine pw_put (by rfl) 27 _ _ rfl _ rfl r0 (paC (some ⟨g2, 0, none⟩) 5 5 grG) rfl (by exact size_pa) (by rfl) (pa_one _ _ _ _) ?_
 clear r0
 intro z1002 r0 k
 simp only [Act.put]
 replace r1 := k.row r1 (by simp <;> omega)
 replace r2 := k.row r2 (by simp <;> omega)
 replace sb := sb.trans (k.below w.heap.size sb.size (by simp <;> omega))
 clear k
 refine pw_nil ?_
 go_wp2
 exact ret_rowd rfl _ rfl r0 _ Try.underlying27 (by exact size_pa) rfl ⟨g2, rfl, b2, r2, sb⟩
end Go.Proofs.Ytbmkebdfaokmhaa
