/- nat.Take. -/
import Derived.Test.YtdemabfpcepnfaaGreatDoorGA
import Derived.Test.YtdemabfpcepnfaaGreatDoorTakeB
namespace Go.Proofs.YtdemabfpcepnfaaGreatDoor
open Go.RowKit
/-- Bytes that are no natural's. -/
def badB (s : ByteArray) : Bool := decide (32 < s.size) || (decide (0 < s.size) && (s.data.toList[0]? == some 0))
set_option maxRecDepth 100000 in
set_option maxHeartbeats 400000 in
theorem ntake_long (s : ByteArray) (w : World) (h : 32 < s.size) :
  Calls Tryz.prog 54 #[.string s] w fun e w' => e = .returned (.tuple #[.agg (natC 0), .int .i64 4]) ∧ Below w.heap.size w w' := by
 have h' : (32 : Int) < s.size := by omega
 have rR := Row.new w (natC 0) 26
 go_enter Tryz.func54, Tryz.ntmps54
 go_wp2_with (first
  | refine wpList_alloc_row rfl 26 rfl _ zero_nat ?_
  | refine wpList_build_zero rfl 26 rfl _ built_nat ?_
  | refine wpList_storeR rfl 26 _ _ rfl _ _ rfl rfl rR (by exact size_nat) (by simp only [natC_size]) (natC_one _) ?_)
 exact ret_row2 rfl _ rfl (rR.setRow _) 4 _ Tryz.underlying26 (by exact size_nat) rfl _ rfl ⟨rfl, below_setRow (below_alloc _) (by omega) _⟩
set_option maxRecDepth 100000 in
set_option maxHeartbeats 400000 in
theorem ntake_nought (s : ByteArray) (w : World) (h : s.size ≤ 32) (h0 : 0 < s.size) (hz : s[0] = 0) :
  Calls Tryz.prog 54 #[.string s] w fun e w' => e = .returned (.tuple #[.agg (natC 0), .int .i64 4]) ∧ Below w.heap.size w w' := by
 have h' : ¬ (32 : Int) < s.size := by omega
 have h0' : (0 : Int) < s.size := by omega
 have hz' : (s[0].toNat : Int) = 0 := by rw [hz]; rfl
 have rR := Row.new w (natC 0) 26
 clear h hz
 go_enter Tryz.func54, Tryz.ntmps54
 go_wp2_with (first
  | refine wpList_alloc_row rfl 26 rfl _ zero_nat ?_
  | refine wpList_build_zero rfl 26 rfl _ built_nat ?_
  | refine wpList_storeR rfl 26 _ _ rfl _ _ rfl rfl rR (by exact size_nat) (by simp only [natC_size]) (natC_one _) ?_)
 exact ret_row2 rfl _ rfl (rR.setRow _) 4 _ Tryz.underlying26 (by exact size_nat) rfl _ rfl ⟨rfl, below_setRow (below_alloc _) (by omega) _⟩
set_option maxRecDepth 100000 in
set_option maxHeartbeats 1000000 in
theorem ntake_good (s : ByteArray) (w : World) (h : s.size ≤ 32) (h0 : 0 < s.size) (hz : s[0] ≠ 0) :
  Calls Tryz.prog 54 #[.string s] w fun e w' => e = .returned (.tuple #[.agg (natC (natB s.data.toList)), .int .i64 0]) ∧ Below w.heap.size w w' := by
 have h' : ¬ (32 : Int) < s.size := by omega
 have h0' : (0 : Int) < s.size := by omega
 have hz' : ((s[0].toNat : Int) == 0) = false := by
  rw [beq_eq_false_iff_ne]
  intro e
  exact hz (UInt8.toNat_inj.1 (by simpa using e))
 have HH : Hid (s.size ≤ 32) := h
 clear h hz
 go_enter Tryz.func54, Tryz.ntmps54
 go_wp2_with (first
  | refine wpList_alloc_row rfl 26 rfl _ zero_nat ?_)
 go_loopg [22] s.size (fun g s22 wr => ∃ k : Nat, k + g = s.size ∧ s22 = .int .i64 k ∧ Row wr w.heap.size (natC 0) 26 ∧ Row wr (w.heap.size + 1) (natC (natB s.data.toList % 2 ^ (8 * k))) 26 ∧ Below w.heap.size w wr)
 case atStart => exact ⟨0, by omega, rfl, Row.one rfl, by rw [show natB s.data.toList % 2 ^ (8 * 0) = 0 by simp [Nat.mod_one]]; exact Row.here (by simp), below_alloc2 _ _⟩
 case round =>
  obtain ⟨k, hk, rfl, r0, r1, hb⟩ := hrel
  have hle := HH.out
  cases gk with
  | zero =>
   obtain rfl : k = s.size := by omega
   rw [Nat.mod_eq_of_lt (show natB s.data.toList < 2 ^ (8 * s.size) from natB_lt s.data.toList)] at r1
   clear hk
   have hx : ¬ ((s.size : Int) < s.size) := by omega
   go_wp2_with (first
    | refine wpList_loadR rfl 26 _ rfl _ rfl r1 4 _ Tryz.underlying26 (by exact size_nat) ?_
    | refine wpList_storeR rfl 26 _ _ rfl _ _ rfl rfl r0 (by exact size_nat) (by simp only [natC_size]) (natC_one _) ?_)
   exact ret_row2 rfl _ rfl (r0.setRow _) 4 _ Tryz.underlying26 (by exact size_nat) rfl _ rfl ⟨rfl, below_setRow hb (by omega) _⟩
  | succ g =>
   have hlt : (k : Int) < s.size := by omega
   have hc1 := cell_nat r1 (k / 8) (by omega)
   have hf1 := r1.frozen (k / 8)
   have HV := natB_byt s.data.toList k (by show k < s.size; omega)
   obtain ⟨i, hi, hik, HW⟩ : ∃ i : Nat, ∃ hi : i < s.size, (s.size : Int) - 1 - k = i ∧ Aside (byt (natB s.data.toList) k = (s[i]'hi).toNat) := ⟨s.size - 1 - k, by omega, by omega, HV⟩
   have hi' : (i : Int) < s.size := by omega
   have R : Aside (Row wr w.heap.size (natC 0) 26 ∧ Row wr (w.heap.size + 1) (natC (natB s.data.toList % 2 ^ (8 * k))) 26 ∧ Below w.heap.size w wr) := ⟨r0, r1, hb⟩
   clear r0 r1 hb HV
   go_wp2
   go_region
   go_wp2
   obtain ⟨r0, r1, hb⟩ := R.out
   have hw := HW.out
   go_roundg g
   case measure => omega
   case rel =>
    refine ⟨k + 1, by omega, by go_num, (r0.setCell_far _ _ _ (by omega)).drew, ?_, (below_setCell hb (by omega) _ _).drew⟩
    have := (r1.setCell (k / 8) (.int .u64 ((lm (natB s.data.toList % 2 ^ (8 * k)) (k / 8) ||| byt (natB s.data.toList) k * 2 ^ (k % 8 * 8) : Nat) : Int))).drew
    rw [natC_byte _ k _ (by omega) rfl] at this
    rw [← hw, take_or _ _ _ (lm_lt _ _) (Nat.lt_of_lt_of_le (byt_lt _ _) (by decide)) (byt_shl_lt _ _)]
    exact this
set_option maxRecDepth 100000 in
set_option maxHeartbeats 400000 in
theorem ntake_empty (s : ByteArray) (w : World) (h : s.size = 0) :
  Calls Tryz.prog 54 #[.string s] w fun e w' => e = .returned (.tuple #[.agg (natC 0), .int .i64 0]) ∧ Below w.heap.size w w' := by
 have h' : (s.size : Int) = 0 := by omega
 go_enter Tryz.func54, Tryz.ntmps54
 go_wp2_with (first
  | refine wpList_alloc_row rfl 26 rfl _ zero_nat ?_)
 go_loopg [22] 0 (fun _ s22 wr => s22 = .int .i64 0 ∧ Row wr w.heap.size (natC 0) 26 ∧ Row wr (w.heap.size + 1) (natC 0) 26 ∧ Below w.heap.size w wr)
 case atStart => exact ⟨rfl, Row.one rfl, Row.here (by simp), below_alloc2 _ _⟩
 case round =>
  obtain ⟨rfl, r0, r1, hb⟩ := hrel
  go_wp2_with (first
   | refine wpList_loadR rfl 26 _ rfl _ rfl r1 4 _ Tryz.underlying26 (by exact size_nat) ?_
   | refine wpList_storeR rfl 26 _ _ rfl _ _ rfl rfl r0 (by exact size_nat) (by simp only [natC_size]) (natC_one _) ?_)
  exact ret_row2 rfl _ rfl (r0.setRow _) 4 _ Tryz.underlying26 (by exact size_nat) rfl _ rfl ⟨rfl, below_setRow hb (by omega) _⟩
/-- What Take hands back. -/
def takeN (s : ByteArray) : Nat := if badB s = true then 0 else natB s.data.toList
def takeE (s : ByteArray) : Int := if badB s = true then 4 else 0
theorem badB_cases (s : ByteArray) : (32 < s.size ∧ badB s = true) ∨ (s.size = 0 ∧ badB s = false) ∨ (s.size ≤ 32 ∧ ∃ h : 0 < s.size, (s[0] = 0 ∧ badB s = true) ∨ (s[0] ≠ 0 ∧ badB s = false)) := by
 unfold badB
 by_cases h1 : 32 < s.size
 ·exact .inl ⟨h1, by rw [decide_eq_true h1]; rfl⟩
 ·by_cases h2 : 0 < s.size
  ·refine .inr (.inr ⟨by omega, h2, ?_⟩)
   have hg : s.data.toList[0]? = some s[0] := by
    rw [Array.getElem?_toList]
    exact Array.getElem?_eq_getElem h2
   rw [decide_eq_false h1, decide_eq_true h2, hg]
   by_cases h3 : s[0] = 0
   ·exact .inl ⟨h3, by rw [h3]; rfl⟩
   ·exact .inr ⟨h3, by simp [h3]⟩
  ·exact .inr (.inl ⟨by omega, by rw [decide_eq_false h1, decide_eq_false h2]; rfl⟩)
theorem ntake_any (s : ByteArray) (w : World) :
  Calls Tryz.prog 54 #[.string s] w fun e w' => e = .returned (.tuple #[.agg (natC (takeN s)), .int .i64 (takeE s)]) ∧ Below w.heap.size w w' := by
 unfold takeN takeE
 rcases badB_cases s with ⟨h1, hb⟩ | ⟨h1, hb⟩ | ⟨h1, h2, ⟨h3, hb⟩ | ⟨h3, hb⟩⟩
 ·rw [if_pos hb, if_pos hb]; exact ntake_long s w h1
 ·rw [if_neg (by rw [hb]; decide), if_neg (by rw [hb]; decide), show natB s.data.toList = 0 by
   have : s.data.toList = [] := List.length_eq_zero_iff.1 h1
   rw [this]; rfl]
  exact ntake_empty s w h1
 ·rw [if_pos hb, if_pos hb]; exact ntake_nought s w h1 h2 h3
 ·rw [if_neg (by rw [hb]; decide), if_neg (by rw [hb]; decide)]; exact ntake_good s w h1 h2 h3
end Go.Proofs.YtdemabfpcepnfaaGreatDoor
