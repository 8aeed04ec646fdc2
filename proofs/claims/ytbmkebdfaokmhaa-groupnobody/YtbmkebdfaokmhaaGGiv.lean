/- group's Least. -/
import Derived.Test.YtbmkebdfaokmhaaGWri
namespace Go.Proofs.Ytbmkebdfaokmhaa
open Go.RowKit
theorem dcN_ten (l : List UInt8) (k : Nat) : dcN l (k + 1) = dcN l k * 10 + (yb l k - 48) := by
 show dcN l k * 2 ^ 3 + dcN l k * 2 ^ 1 + (yb l k - 48) = _
 omega
/-- The natural of digits, by a list. -/
def dcF : List UInt8 → Nat → Nat
 | [], n => n
 | b :: l, n => dcF l (n * 10 + (b.toNat - 48))
theorem dcF_at (l : List UInt8) : ∀ k, k ≤ l.length → dcF l 0 = dcF (l.drop k) (dcN l k)
 | 0, _ => rfl
 | k + 1, h => by
  rw [dcF_at l k (by omega), dcN_ten]
  have e : l.drop k = l[k] :: l.drop (k + 1) := (List.drop_eq_getElem_cons (by omega))
  rw [e]
  show dcF _ (dcN l k * 10 + (l[k].toNat - 48)) = _
  unfold yb
  rw [List.getD_eq_getElem?_getD, List.getElem?_eq_getElem (by omega)]
  rfl
theorem dcN_is (l : List UInt8) : dcN l l.length = dcF l 0 := by
 rw [dcF_at l l.length (Nat.le_refl _), List.drop_length]
 rfl
theorem lit_str {n : Nat} (vs : List (Nat × Value)) (c : Array Value) (k : Nat) (hk : k = 1) (h : Instr.fill (fun i => some (i * 1, 1)) ((Array.range (n * 1)).map ((Value.string ⟨#[]⟩).cells[· % (Value.string ⟨#[]⟩).cells.size]!)) vs = some c) :
  Instr.fill (fun i => some (i * k, k)) ((Array.range (n * k)).map ((Value.string ⟨#[]⟩).cells[· % (Value.string ⟨#[]⟩).cells.size]!)) vs = some c := by
 subst hk; exact h
def leS : List UInt8 := [51, 49, 54, 53, 52, 51, 55, 55, 49, 52, 51, 57, 55, 56, 48, 57, 56, 52]
def leT : List (List UInt8) := [[54, 53, 53, 50, 49], [49, 57, 54, 54, 48, 50, 51, 49, 50, 55], [49, 48, 53, 53, 53, 48, 48, 54, 56, 48, 51, 50, 50, 49, 56, 51, 49, 50, 55]]
def leF (i : Nat) : List UInt8 := leT.getD i []
set_option maxRecDepth 100000 in
set_option maxHeartbeats 2000000 in
theorem le_lit : Instr.fill (fun i => some (i * 1, 1)) ((Array.range (3 * 1)).map ((Value.string ⟨#[]⟩).cells[· % (Value.string ⟨#[]⟩).cells.size]!)) [(0, .string ⟨(leF 0).toArray⟩), (1, .string ⟨(leF 1).toArray⟩), (2, .string ⟨(leF 2).toArray⟩)] = some (sxC 3 leF) := by kernel_rfl
theorem le_dig : DigS leS := digS_of _ (by decide) (by decide)
theorem le_digs (i : Nat) (h : i < 3) : DigS (leF i) := by
 match i, h with
 | 0, _ => exact digS_of _ (by decide) (by decide)
 | 1, _ => exact digS_of _ (by decide) (by decide)
 | 2, _ => exact digS_of _ (by decide) (by decide)
theorem le_g : dcN leS leS.length = leG := by rw [dcN_is]; decide
theorem le_n (i : Nat) (h : i < 3) : dcN (leF i) (leF i).length = lN leL i := by
 match i, h with
 | 0, _ => rw [dcN_is]; decide
 | 1, _ => rw [dcN_is]; decide
 | 2, _ => rw [dcN_is]; decide
theorem le_lt (i : Nat) (h : i < 3) : lN leL i < 2 ^ 256 := by
 match i, h with
 | 0, _ => decide
 | 1, _ => decide
 | 2, _ => decide
set_option maxRecDepth 100000 in
set_option maxHeartbeats 2000000 in
theorem gleast_any (w : World) :
  Calls Try.prog 7 #[] w fun e w' => ∃ g, e = .returned (.agg (paC (some ⟨g, 0, none⟩) 3 3 leG)) ∧ w.heap.size ≤ g ∧ Row w' g (lksC 3 (lN leL) twoA) 58 ∧ Below w.heap.size w w' := by
 obtain ⟨ie, hie, hz, hsz⟩ := info_str'
 have hs1 : ¬ 3 * ie.size > 2 ^ 24 := by rw [hsz]; decide
 have hs2 : ¬ 3 * ie.size = 0 := by rw [hsz]; decide
 have hl := lit_str _ _ ie.size hsz le_lit
 have hwr := fun w' g (r : Row w' g (sxC 3 leF) 9) => written_any 3 leS leF g w' (by decide) le_dig le_digs r
 rw [le_g, lksC_congr 3 (fun i => dcN (leF i) (leF i).length) (lN leL) twoA twoA (fun k hk => ⟨le_n k hk, rfl⟩)] at hwr
 go_enter Try.func7, Try.ntmps7
 (repeat ((fail_if_success with_reducible refine rg ?_); go_step))
 refine wp_region_pw ?_
 refine pw_new (by rfl) 27 rfl _ zero_pa ?_
 intro g0 z0 n0 r0 k
 simp only [Act.put, List.setIfInBounds_toArray, List.set_cons_zero]
 have b0 : w.heap.size ≤ g0 := n0
 clear n0
 have sb := k.below w.heap.size (Nat.le_refl _) (by simp)
 clear k
 refine pw_nil ?_
 (repeat ((fail_if_success with_reducible refine rg ?_); go_step))
 refine wp_region_pw ?_
 refine pw_litr (by rfl) 82 9 3 _ rfl (sxC 3 leF) ie _ Try.underlying82 hie hz hs1 hs2 [(0, .string ⟨(leF 0).toArray⟩), (1, .string ⟨(leF 1).toArray⟩), (2, .string ⟨(leF 2).toArray⟩)] rfl hl ?_
 intro g1 z1000 n0 r1 k
 simp only [Act.put, pu]
 have d0x1 := Nat.lt_of_lt_of_le r0.lt n0
 have b1 := Nat.le_trans sb.size n0
 clear n0
 replace r0 := k.row r0 (by simp <;> omega)
 replace sb := sb.trans (k.below w.heap.size sb.size (by simp <;> omega))
 clear k
 refine pw_callE (by rfl) 33 _ _ rfl Try.func33 (by kernel_rfl) #[.string ⟨leS.toArray⟩, .slice (some ⟨g1, 0, none⟩) 3 3] rfl (hwr _ g1 r1) ?_
 rintro _ z1001 ⟨g2, rfl, n2, r2, hb⟩
 refine ⟨_, rfl, ?_⟩
 simp only [Act.put, pu]
 have d0x2 := Nat.lt_of_lt_of_le r0.lt n2
 have d1x2 := Nat.lt_of_lt_of_le r1.lt n2
 have b2 := Nat.le_trans sb.size n2
 clear n2
 have k := Kept.ofBelow hb
 clear hb
 replace r0 := k.row r0 (by simp <;> omega)
 replace r1 := k.row r1 (by simp <;> omega)
 replace sb := sb.trans (k.below w.heap.size sb.size (by simp <;> omega))
 clear k
 refine pw_put (by rfl) 27 _ _ rfl _ rfl r0 (paC (some ⟨g2, 0, none⟩) 3 3 leG) rfl (by exact size_pa) (by rfl) (pa_one _ _ _ _) ?_
 clear r0
 intro z1002 r0 k
 simp only [Act.put]
 replace r1 := k.row r1 (by simp <;> omega)
 replace r2 := k.row r2 (by simp <;> omega)
 replace sb := sb.trans (k.below w.heap.size sb.size (by simp <;> omega))
 clear k
 refine pw_nil ?_
 go_wp2
 exact ret_rowd rfl _ rfl r0 _ Try.underlying27 (by exact size_pa) rfl ⟨g2, rfl, b2, r2, sb⟩
end Go.Proofs.Ytbmkebdfaokmhaa
