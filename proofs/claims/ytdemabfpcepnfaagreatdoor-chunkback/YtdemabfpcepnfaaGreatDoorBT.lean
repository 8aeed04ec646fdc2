/- Plain mathematics: a natural's bytes. -/
import Derived.Test.YtdemabfpcepnfaaGreatDoorGA
import Derived.Test.YtdemabfpcepnfaaGreatDoorGC
import Derived.Test.YtdemabfpcepnfaaGreatDoorGB
import Derived.Test.YtdemabfpcepnfaaGreatDoorGD
namespace Go.Proofs.YtdemabfpcepnfaaGreatDoor
/-- Byte number k of A, the lowest first. -/
def byt (A k : Nat) : Nat := A / 2 ^ (8 * k) % 256
theorem byt_lt (A k : Nat) : byt A k < 256 := Nat.mod_lt _ (by decide)
theorem byt_bit (A k j : Nat) : (byt A k).testBit j = (decide (j < 8) && A.testBit (8 * k + j)) := by
 unfold byt
 rw [show 256 = 2 ^ 8 from rfl, Nat.testBit_mod_two_pow, Nat.testBit_div_two_pow, Nat.add_comm]
/-- A byte out of the limb that holds it. -/
theorem lm_byt (A k : Nat) : lm A (k / 8) / 2 ^ (k % 8 * 8) % 256 = byt A k := by
 apply Nat.eq_of_testBit_eq
 intro j
 rw [byt_bit, show 256 = 2 ^ 8 from rfl, Nat.testBit_mod_two_pow, Nat.testBit_div_two_pow, lm_testBit]
 by_cases hj : j < 8
 ·rw [decide_eq_true hj, decide_eq_true (show j + k % 8 * 8 < 64 by omega), show 64 * (k / 8) + (j + k % 8 * 8) = 8 * k + j by omega]
  simp
 ·simp [hj]
theorem byt_mod (A k i : Nat) : byt (A % 2 ^ (8 * k)) i = if i < k then byt A i else 0 := by
 apply Nat.eq_of_testBit_eq
 intro j
 rw [byt_bit, Nat.testBit_mod_two_pow]
 split
 ·rw [byt_bit]
  by_cases hj : j < 8
  ·simp [hj, show 8 * i + j < 8 * k by omega]
  ·simp [hj]
 ·rw [Nat.zero_testBit]
  by_cases hj : j < 8
  ·simp [show ¬ 8 * i + j < 8 * k by omega]
  ·simp [hj]
/-- The 32 cells of a natural's bytes, the highest first. -/
def byteC (A : Nat) : Array Value := Array.ofFn (n := 32) fun i => .int .u8 (byt A (31 - i))
theorem byteC_size (A : Nat) : (byteC A).size = 32 := by simp [byteC]
theorem byteC_get (A i : Nat) (h : i < 32) : (byteC A)[i]? = some (.int .u8 (byt A (31 - i))) := by simp [byteC, h]
theorem byteC_snoc (A k v : Nat) (hk : k < 32) (hv : v = byt A k) : (byteC (A % 2 ^ (8 * k))).setIfInBounds (31 - k) (.int .u8 v) = byteC (A % 2 ^ (8 * (k + 1))) := by
 subst hv
 apply Array.ext_getElem?
 intro i
 by_cases hi : i < 32
 ·rw [Array.getElem?_setIfInBounds, byteC_get (A % 2 ^ (8 * (k + 1))) i hi, byt_mod]
  by_cases e : 31 - k = i
  ·rw [if_pos e, if_pos (by rw [byteC_size]; omega), if_pos (by omega), show 31 - i = k by omega]
  ·rw [if_neg e, byteC_get _ i hi, byt_mod]
   by_cases h : 31 - i < k
   ·rw [if_pos h, if_pos (by omega)]
   ·rw [if_neg h, if_neg (by omega)]
 ·rw [Array.getElem?_eq_none (by simp [byteC_size]; omega), Array.getElem?_eq_none (by rw [byteC_size]; omega)]
/-- n bytes of A, the highest first. -/
def bytesL (A n : Nat) : List UInt8 := (List.range n).map fun i => UInt8.ofNat (byt A (n - 1 - i))
theorem bytesL_length (A n : Nat) : (bytesL A n).length = n := by simp [bytesL]
theorem bytesL_get (A n j : Nat) (h : j < (bytesL A n).length) : (bytesL A n)[j] = UInt8.ofNat (byt A (n - 1 - j)) := by simp [bytesL]
/-- How many bytes A needs. -/
def need (A : Nat) : Nat := (bitLen A + 7) / 8
theorem bitLen_le (A n : Nat) (h : A < 2 ^ n) : bitLen A ≤ n := by
 unfold bitLen
 split
 ·omega
 ·rename_i h0
  have := (Nat.log2_lt h0).2 h
  omega
theorem need_le (A : Nat) (h : A < 2 ^ 256) : need A ≤ 32 := by
 have := bitLen_le A 256 h
 unfold need
 omega
/-- A as bytes. -/
def bytesOf (A : Nat) : ByteArray := ⟨(bytesL A (need A)).toArray⟩
end Go.Proofs.YtdemabfpcepnfaaGreatDoor
/- Plain mathematics: the natural of bytes. -/
namespace Go.Proofs.YtdemabfpcepnfaaGreatDoor
theorem snoc_rec {P : List UInt8 → Prop} (h0 : P []) (h1 : ∀ l b, P l → P (l ++ [b])) (l : List UInt8) : P l := by
 have h : ∀ m : List UInt8, P m.reverse := by
  intro m
  induction m with
  | nil => exact h0
  | cons b m ih => rw [List.reverse_cons]; exact h1 _ _ ih
 have := h l.reverse
 rwa [List.reverse_reverse] at this
/-- The natural of which these are the bytes, the highest first. -/
def natB (l : List UInt8) : Nat := l.foldl (fun n b => n * 256 + b.toNat) 0
theorem natB_snoc (l : List UInt8) (b : UInt8) : natB (l ++ [b]) = natB l * 256 + b.toNat := by simp [natB, List.foldl_append]
theorem natB_lt (l : List UInt8) : natB l < 2 ^ (8 * l.length) := by
 refine snoc_rec (P := fun l => natB l < 2 ^ (8 * l.length)) ?_ ?_ l
 ·simp [natB]
 ·intro l b ih
  rw [natB_snoc, List.length_append, List.length_singleton, show 8 * (l.length + 1) = 8 * l.length + 8 by omega, Nat.pow_add]
  have := UInt8.toNat_lt b
  omega
theorem byt_zero (x b : Nat) (h : b < 256) : byt (x * 256 + b) 0 = b := by
 unfold byt
 rw [show 8 * 0 = 0 from rfl, Nat.pow_zero, Nat.div_one]
 omega
theorem byt_succ (x b k : Nat) (h : b < 256) : byt (x * 256 + b) (k + 1) = byt x k := by
 unfold byt
 rw [show 8 * (k + 1) = 8 + 8 * k by omega, Nat.pow_add, ← Nat.div_div_eq_div_mul, show (x * 256 + b) / 2 ^ 8 = x by omega]
theorem natB_byt (l : List UInt8) : ∀ (k : Nat) (hk : k < l.length), byt (natB l) k = (l[l.length - 1 - k]'(by omega)).toNat := by
 refine snoc_rec (P := fun l => ∀ (k : Nat) (hk : k < l.length), byt (natB l) k = (l[l.length - 1 - k]'(by omega)).toNat) ?_ ?_ l
 ·intro k hk; simp at hk
 ·intro l b ih k hk
  rw [List.length_append, List.length_singleton] at hk
  have hb := UInt8.toNat_lt b
  rw [natB_snoc]
  cases k with
  | zero =>
   rw [byt_zero _ _ hb]
   simp
  | succ k =>
   rw [byt_succ _ _ _ hb, ih k (by omega)]
   congr 1
   rw [List.getElem_append_left (by simp; omega)]
   congr 1
   simp
   omega
/-- One byte more, in its limb. -/
theorem natC_byte (N k v : Nat) (hk : k < 32) (hv : v = lm (N % 2 ^ (8 * k)) (k / 8) ||| byt N k * 2 ^ (k % 8 * 8)) : (natC (N % 2 ^ (8 * k))).setIfInBounds (k / 8) (.int .u64 v) = natC (N % 2 ^ (8 * (k + 1))) := by
 subst hv
 refine natC_set _ _ _ _ (by omega) ?_ ?_
 ·apply Nat.eq_of_testBit_eq
  intro j
  rw [Nat.testBit_or, lm_testBit, lm_testBit, Nat.testBit_mod_two_pow, Nat.testBit_mod_two_pow, Nat.mul_comm (byt N k), Nat.testBit_two_pow_mul, byt_bit]
  by_cases hj : j < 64
  ·by_cases h1 : 64 * (k / 8) + j < 8 * k
   ·rw [decide_eq_true hj, decide_eq_true h1, decide_eq_true (show 64 * (k / 8) + j < 8 * (k + 1) by omega), decide_eq_false (show ¬ j ≥ k % 8 * 8 by omega)]
    simp
   ·by_cases h2 : 64 * (k / 8) + j < 8 * (k + 1)
    ·rw [decide_eq_true hj, decide_eq_false h1, decide_eq_true h2, decide_eq_true (show j ≥ k % 8 * 8 by omega), decide_eq_true (show j - k % 8 * 8 < 8 by omega), show 8 * k + (j - k % 8 * 8) = 64 * (k / 8) + j by omega]
     simp
    ·rw [decide_eq_true hj, decide_eq_false h1, decide_eq_false h2, decide_eq_false (show ¬ j - k % 8 * 8 < 8 by omega)]
     simp
  ·rw [decide_eq_false hj, decide_eq_false (show ¬ j - k % 8 * 8 < 8 by omega)]
   simp
 ·intro i _ hne
  apply Nat.eq_of_testBit_eq
  intro j
  rw [lm_testBit, lm_testBit, Nat.testBit_mod_two_pow, Nat.testBit_mod_two_pow]
  by_cases hj : j < 64
  ·by_cases h1 : 64 * i + j < 8 * k
   ·rw [decide_eq_true h1, decide_eq_true (show 64 * i + j < 8 * (k + 1) by omega)]
   ·rw [decide_eq_false h1, decide_eq_false (show ¬ 64 * i + j < 8 * (k + 1) by omega)]
  ·rw [decide_eq_false hj, Bool.false_and, Bool.false_and]
theorem byt_shl_lt (N k : Nat) : byt N k * 2 ^ (k % 8 * 8) < 18446744073709551616 := by
 have h1 := byt_lt N k
 have h2 : 2 ^ (k % 8 * 8) ≤ 2 ^ 56 := Nat.pow_le_pow_right (by decide) (by omega)
 have h3 : byt N k * 2 ^ (k % 8 * 8) ≤ 255 * 2 ^ 56 := Nat.mul_le_mul (by omega) h2
 exact Nat.lt_of_le_of_lt h3 (by decide)
theorem take_or (L b m : Nat) (hL : L < 18446744073709551616) (hb : b < 18446744073709551616) (hm : b * 2 ^ m < 18446744073709551616) :
  bits .or .u64 (L : Int) (IntKind.u64.wrap (IntKind.u64.wrap (b : Int) * 2 ^ m)) = ((L ||| b * 2 ^ m : Nat) : Int) := by
 rw [wrap_u64 b hb, show ((b : Int) * 2 ^ m) = ((b * 2 ^ m : Nat) : Int) by simp, wrap_u64 _ hm, u64_or_nat _ _ hL hm]
end Go.Proofs.YtdemabfpcepnfaaGreatDoor
/- nat.Take. -/
namespace Go.Proofs.YtdemabfpcepnfaaGreatDoor
open Go.RowKit
/-- Bytes that are no natural's. -/
def badB (s : ByteArray) : Bool := decide (32 < s.size) || (decide (0 < s.size) && (s.data.toList[0]? == some 0))
set_option maxRecDepth 100000 in
set_option maxHeartbeats 400000 in
theorem ntake_long (s : ByteArray) (w : World) (h : 32 < s.size) :
  Calls Tryz.prog 54 #[.string s] w fun e w' => e = .returned (.tuple #[.agg (natC 0), .int .i64 4]) ∧ Below w.heap.size w w' := by
 have h' : (32 : Int) < s.size := by omega
 have rR := Row.new w (natC 0) 26
 go_enter Tryz.func54, Tryz.ntmps54
 go_wp2_with (first
  | refine wpList_alloc_row rfl 26 rfl _ zero_nat ?_
  | refine wpList_build_zero rfl 26 rfl _ built_nat ?_
  | refine wpList_storeR rfl 26 _ _ rfl _ _ rfl rfl rR (by exact size_nat) (by simp only [natC_size]) (natC_one _) ?_)
 exact ret_row2 rfl _ rfl (rR.setRow _) 4 _ Tryz.underlying26 (by exact size_nat) rfl _ rfl ⟨rfl, below_setRow (below_alloc _) (by omega) _⟩
set_option maxRecDepth 100000 in
set_option maxHeartbeats 400000 in
theorem ntake_nought (s : ByteArray) (w : World) (h : s.size ≤ 32) (h0 : 0 < s.size) (hz : s[0] = 0) :
  Calls Tryz.prog 54 #[.string s] w fun e w' => e = .returned (.tuple #[.agg (natC 0), .int .i64 4]) ∧ Below w.heap.size w w' := by
 have h' : ¬ (32 : Int) < s.size := by omega
 have h0' : (0 : Int) < s.size := by omega
 have hz' : (s[0].toNat : Int) = 0 := by rw [hz]; rfl
 have rR := Row.new w (natC 0) 26
 clear h hz
 go_enter Tryz.func54, Tryz.ntmps54
 go_wp2_with (first
  | refine wpList_alloc_row rfl 26 rfl _ zero_nat ?_
  | refine wpList_build_zero rfl 26 rfl _ built_nat ?_
  | refine wpList_storeR rfl 26 _ _ rfl _ _ rfl rfl rR (by exact size_nat) (by simp only [natC_size]) (natC_one _) ?_)
 exact ret_row2 rfl _ rfl (rR.setRow _) 4 _ Tryz.underlying26 (by exact size_nat) rfl _ rfl ⟨rfl, below_setRow (below_alloc _) (by omega) _⟩
set_option maxRecDepth 100000 in
set_option maxHeartbeats 1000000 in
theorem ntake_good (s : ByteArray) (w : World) (h : s.size ≤ 32) (h0 : 0 < s.size) (hz : s[0] ≠ 0) :
  Calls Tryz.prog 54 #[.string s] w fun e w' => e = .returned (.tuple #[.agg (natC (natB s.data.toList)), .int .i64 0]) ∧ Below w.heap.size w w' := by
 have h' : ¬ (32 : Int) < s.size := by omega
 have h0' : (0 : Int) < s.size := by omega
 have hz' : ((s[0].toNat : Int) == 0) = false := by
  rw [beq_eq_false_iff_ne]
  intro e
  exact hz (UInt8.toNat_inj.1 (by simpa using e))
 have HH : Hid (s.size ≤ 32) := h
 clear h hz
 go_enter Tryz.func54, Tryz.ntmps54
 go_wp2_with (first
  | refine wpList_alloc_row rfl 26 rfl _ zero_nat ?_)
 go_loopg [22] s.size (fun g s22 wr => ∃ k : Nat, k + g = s.size ∧ s22 = .int .i64 k ∧ Row wr w.heap.size (natC 0) 26 ∧ Row wr (w.heap.size + 1) (natC (natB s.data.toList % 2 ^ (8 * k))) 26 ∧ Below w.heap.size w wr)
 case atStart => exact ⟨0, by omega, rfl, Row.one rfl, by rw [show natB s.data.toList % 2 ^ (8 * 0) = 0 by simp [Nat.mod_one]]; exact Row.here (by simp), below_alloc2 _ _⟩
 case round =>
  obtain ⟨k, hk, rfl, r0, r1, hb⟩ := hrel
  have hle := HH.out
  cases gk with
  | zero =>
   obtain rfl : k = s.size := by omega
   rw [Nat.mod_eq_of_lt (show natB s.data.toList < 2 ^ (8 * s.size) from natB_lt s.data.toList)] at r1
   clear hk
   have hx : ¬ ((s.size : Int) < s.size) := by omega
   go_wp2_with (first
    | refine wpList_loadR rfl 26 _ rfl _ rfl r1 4 _ Tryz.underlying26 (by exact size_nat) ?_
    | refine wpList_storeR rfl 26 _ _ rfl _ _ rfl rfl r0 (by exact size_nat) (by simp only [natC_size]) (natC_one _) ?_)
   exact ret_row2 rfl _ rfl (r0.setRow _) 4 _ Tryz.underlying26 (by exact size_nat) rfl _ rfl ⟨rfl, below_setRow hb (by omega) _⟩
  | succ g =>
   have hlt : (k : Int) < s.size := by omega
   have hc1 := cell_nat r1 (k / 8) (by omega)
   have hf1 := r1.frozen (k / 8)
   have HV := natB_byt s.data.toList k (by show k < s.size; omega)
   obtain ⟨i, hi, hik, HW⟩ : ∃ i : Nat, ∃ hi : i < s.size, (s.size : Int) - 1 - k = i ∧ Aside (byt (natB s.data.toList) k = (s[i]'hi).toNat) := ⟨s.size - 1 - k, by omega, by omega, HV⟩
   have hi' : (i : Int) < s.size := by omega
   have R : Aside (Row wr w.heap.size (natC 0) 26 ∧ Row wr (w.heap.size + 1) (natC (natB s.data.toList % 2 ^ (8 * k))) 26 ∧ Below w.heap.size w wr) := ⟨r0, r1, hb⟩
   clear r0 r1 hb HV
   go_wp2
   go_region
   go_wp2
   obtain ⟨r0, r1, hb⟩ := R.out
   have hw := HW.out
   go_roundg g
   case measure => omega
   case rel =>
    refine ⟨k + 1, by omega, by go_num, (r0.setCell_far _ _ _ (by omega)).drew, ?_, (below_setCell hb (by omega) _ _).drew⟩
    have := (r1.setCell (k / 8) (.int .u64 ((lm (natB s.data.toList % 2 ^ (8 * k)) (k / 8) ||| byt (natB s.data.toList) k * 2 ^ (k % 8 * 8) : Nat) : Int))).drew
    rw [natC_byte _ k _ (by omega) rfl] at this
    rw [← hw, take_or _ _ _ (lm_lt _ _) (Nat.lt_of_lt_of_le (byt_lt _ _) (by decide)) (byt_shl_lt _ _)]
    exact this
set_option maxRecDepth 100000 in
set_option maxHeartbeats 400000 in
theorem ntake_empty (s : ByteArray) (w : World) (h : s.size = 0) :
  Calls Tryz.prog 54 #[.string s] w fun e w' => e = .returned (.tuple #[.agg (natC 0), .int .i64 0]) ∧ Below w.heap.size w w' := by
 have h' : (s.size : Int) = 0 := by omega
 go_enter Tryz.func54, Tryz.ntmps54
 go_wp2_with (first
  | refine wpList_alloc_row rfl 26 rfl _ zero_nat ?_)
 go_loopg [22] 0 (fun _ s22 wr => s22 = .int .i64 0 ∧ Row wr w.heap.size (natC 0) 26 ∧ Row wr (w.heap.size + 1) (natC 0) 26 ∧ Below w.heap.size w wr)
 case atStart => exact ⟨rfl, Row.one rfl, Row.here (by simp), below_alloc2 _ _⟩
 case round =>
  obtain ⟨rfl, r0, r1, hb⟩ := hrel
  go_wp2_with (first
   | refine wpList_loadR rfl 26 _ rfl _ rfl r1 4 _ Tryz.underlying26 (by exact size_nat) ?_
   | refine wpList_storeR rfl 26 _ _ rfl _ _ rfl rfl r0 (by exact size_nat) (by simp only [natC_size]) (natC_one _) ?_)
  exact ret_row2 rfl _ rfl (r0.setRow _) 4 _ Tryz.underlying26 (by exact size_nat) rfl _ rfl ⟨rfl, below_setRow hb (by omega) _⟩
/-- What Take hands back. -/
def takeN (s : ByteArray) : Nat := if badB s = true then 0 else natB s.data.toList
def takeE (s : ByteArray) : Int := if badB s = true then 4 else 0
theorem badB_cases (s : ByteArray) : (32 < s.size ∧ badB s = true) ∨ (s.size = 0 ∧ badB s = false) ∨ (s.size ≤ 32 ∧ ∃ h : 0 < s.size, (s[0] = 0 ∧ badB s = true) ∨ (s[0] ≠ 0 ∧ badB s = false)) := by
 unfold badB
 by_cases h1 : 32 < s.size
 ·exact .inl ⟨h1, by rw [decide_eq_true h1]; rfl⟩
 ·by_cases h2 : 0 < s.size
  ·refine .inr (.inr ⟨by omega, h2, ?_⟩)
   have hg : s.data.toList[0]? = some s[0] := by
    rw [Array.getElem?_toList]
    exact Array.getElem?_eq_getElem h2
   rw [decide_eq_false h1, decide_eq_true h2, hg]
   by_cases h3 : s[0] = 0
   ·exact .inl ⟨h3, by rw [h3]; rfl⟩
   ·exact .inr ⟨h3, by simp [h3]⟩
  ·exact .inr (.inl ⟨by omega, by rw [decide_eq_false h1, decide_eq_false h2]; rfl⟩)
theorem ntake_any (s : ByteArray) (w : World) :
  Calls Tryz.prog 54 #[.string s] w fun e w' => e = .returned (.tuple #[.agg (natC (takeN s)), .int .i64 (takeE s)]) ∧ Below w.heap.size w w' := by
 unfold takeN takeE
 rcases badB_cases s with ⟨h1, hb⟩ | ⟨h1, hb⟩ | ⟨h1, h2, ⟨h3, hb⟩ | ⟨h3, hb⟩⟩
 ·rw [if_pos hb, if_pos hb]; exact ntake_long s w h1
 ·rw [if_neg (by rw [hb]; decide), if_neg (by rw [hb]; decide), show natB s.data.toList = 0 by
   have : s.data.toList = [] := List.length_eq_zero_iff.1 h1
   rw [this]; rfl]
  exact ntake_empty s w h1
 ·rw [if_pos hb, if_pos hb]; exact ntake_nought s w h1 h2 h3
 ·rw [if_neg (by rw [hb]; decide), if_neg (by rw [hb]; decide)]; exact ntake_good s w h1 h2 h3
end Go.Proofs.YtdemabfpcepnfaaGreatDoor
/- nat.Bytes. -/
namespace Go.Proofs.YtdemabfpcepnfaaGreatDoor
open Go.RowKit
theorem info_arr : (Tryz.prog.info? 130).map (fun i => (i.zero, i.size)) = some (some (.agg (byteC 0)), 32) := by kernel_rfl
theorem zero_arr (w : World) : (zeroValue 130).run Tryz.prog w = .ok (.agg (byteC 0)) w := (zero_of_info info_arr).1 w
theorem cell_arr {w : World} {b N : Nat} (h : Row w b (byteC N) 130) (i : Nat) (hi : i < 32) : w.cell? ⟨b, i, none⟩ = some (.int .u8 (byt N (31 - i))) := by rw [h.cell]; exact byteC_get _ _ hi
theorem under_bytes : Tryz.prog.underlying 64 = some (.slice 5) := Tryz.underlying64
/-- Where the last n of 32 cells begin. -/
def offs (n : Nat) : Nat := if n = 0 then 0 else 32 - n
theorem exec_slice_arr {o : Oper} {ρ : Operand → Value} (x lo : Operand) (ho : o.op = .slice 130 x (some lo) none none) (b n : Nat) (hx : ρ x = .pointer (some ⟨b, 0, none⟩)) (l : Int) (hl : ρ lo = .int .i64 l)
  (hn : n ≤ 32) (hle : l = 32 - n) (w : World) : (execOp ρ o).run Tryz.prog w = .ok (.value (.slice (some ⟨b, offs n, none⟩) n n)) w := by
 have hr := run_sliceAt_array_l (P := Tryz.prog) w 130 ⟨b, 0, none⟩ (by kernel_rfl) .i64 l (by omega) (by rw [show Tryz.prog.arrayLen 130 = 32 from by kernel_rfl]; omega)
 unfold execOp
 simp only [ho, hx, hl, Option.map_some, Option.map_none, Sem.run_bind]
 rw [hr, show Tryz.prog.elem 130 = 5 from by kernel_rfl, Tryz.sizeOf5, show Tryz.prog.arrayLen 130 = 32 from by kernel_rfl]
 subst hle
 have e : ((32 : Int) - n).toNat = 32 - n := by omega
 rw [e]
 unfold slicedAt offs
 by_cases h0 : n = 0
 ·subst h0; rfl
 ·simp only [Result.andThen_ok, Sem.run_pure]
  rw [if_neg (show ¬ 32 = 32 - n by omega), if_neg h0, show 32 - (32 - n) = n by omega]
  have ha : (⟨b, 0, none⟩ : Addr).add ((32 - n) * 1) = ⟨b, 32 - n, none⟩ := by unfold Addr.add; split <;> simp_all
  rw [ha]
theorem exec_string_arr {o : Oper} {ρ : Operand → Value} (x : Operand) (ho : o.op = .convert 64 9 x) (b n A : Nat) (hx : ρ x = .slice (some ⟨b, offs n, none⟩) n n) (hn : n ≤ 32) (w : World)
  (hr : Row w b (byteC A) 130) : (execOp ρ o).run Tryz.prog w = .ok (.value (.string ⟨(bytesL A n).toArray⟩)) w := by
 unfold execOp
 simp only [ho, hx, Sem.run_bind]
 have h := run_convert_bytes_back (P := Tryz.prog) w 64 9 5 ⟨b, offs n, none⟩ n (bytesL A n) under_bytes Tryz.underlying5 Tryz.underlying9 (fun j hj => by
  have hj' : j < n := by rw [bytesL_length] at hj; exact hj
  have ha : (⟨b, offs n, none⟩ : Addr).add j = ⟨b, offs n + j, none⟩ := by unfold Addr.add; split <;> simp_all
  rw [ha, show offs n + j = 32 - n + j by unfold offs; rw [if_neg (by omega)], cell_arr hr _ (by omega)]
  rw [bytesL_get, UInt8.toNat_ofNat_of_lt' (byt_lt _ _), show 31 - (32 - n + j) = n - 1 - j by omega])
 rw [bytesL_length] at h
 rw [h]
 rfl
set_option maxRecDepth 100000 in
set_option maxHeartbeats 1000000 in
theorem nbytes_any (A : Nat) (w : World) (hA : A < 2 ^ 256) :
  Calls Tryz.prog 57 #[.agg (natC A)] w fun e w' => e = .returned (.string (bytesOf A)) ∧ Below w.heap.size w w' := by
 have HA : Hid (A < 2 ^ 256) := hA
 clear hA
 go_enter Tryz.func57, Tryz.ntmps57
 go_wp2_with (first
  | refine wpList_box_row rfl 26 _ rfl _ rfl ?_
  | refine wpList_alloc_row rfl 130 rfl _ zero_arr ?_)
 go_loopg [6] 32 (fun g s6 wr => ∃ k : Nat, k + g = 32 ∧ s6 = .int .i64 k ∧ Row wr w.heap.size (natC A) 26 ∧ Row wr (w.heap.size + 1) (byteC (A % 2 ^ (8 * k))) 130 ∧ Below w.heap.size w wr)
 case atStart => exact ⟨0, by omega, rfl, Row.one rfl, by rw [show A % 2 ^ (8 * 0) = 0 by simp [Nat.mod_one]]; exact Row.here (by simp), below_alloc2 _ _⟩
 case round =>
  obtain ⟨k, hk, rfl, r0, r1, hb⟩ := hrel
  cases gk with
  | zero =>
   obtain rfl : k = 32 := by omega
   rw [show A % 2 ^ (8 * 32) = A from Nat.mod_eq_of_lt HA.out] at r1
   clear hk
   have hx : ¬ ((32 : Int) < 32) := by omega
   have hn : bitLen A ≤ 256 := bitLen_le A 256 HA.out
   have hn' : (bitLen A : Int) ≤ 256 := by omega
   go_wp2_with (first
    | refine wpList_loadR rfl 26 _ rfl _ rfl r0 4 _ Tryz.underlying26 (by exact size_nat) ?_
    | (go_at_call 46; refine (nlen_any _ _ HA.out).mono ?_; rintro e w2 ⟨rfl, hb2⟩; have r5 := r1.belowAll hb2; have b5 := below_on hb (Nat.le_refl _) hb2; clear hb2)
    | refine wpList_value rfl _ (exec_slice_arr _ _ rfl (w.heap.size + 1) (need A) rfl _ rfl (need_le A HA.out) (by have := HA.out; unfold need; omega) _) ?_
    | refine wpList_value rfl _ (exec_string_arr _ rfl (w.heap.size + 1) (need A) A rfl (need_le A HA.out) _ r5) ?_)
   go_ret
   exact ⟨rfl, b5⟩
  | succ g =>
   have hlt : (k : Int) < 32 := by omega
   have hk8 : k / 8 < 4 := by omega
   have hc0 := cell_nat r0 (k / 8) (by omega)
   have hc1 := cell_arr r1 (31 - k) (by omega)
   have hf1 := r1.frozen (31 - k)
   have hlm := lm_lt A (k / 8)
   have hsub : ((31 : Int) - k).toNat = 31 - k := by omega
   have R : Aside (Row wr w.heap.size (natC A) 26 ∧ Row wr (w.heap.size + 1) (byteC (A % 2 ^ (8 * k))) 130 ∧ Below w.heap.size w wr) := ⟨r0, r1, hb⟩
   clear r0 r1 hb
   go_wp2
   obtain ⟨r0, r1, hb⟩ := R.out
   go_roundg g
   case measure => omega
   case rel =>
    refine ⟨k + 1, by omega, by go_num, r0.setCell_far _ _ _ (by omega), ?_, below_setCell hb (by omega) _ _⟩
    have := r1.setCell (31 - k) (.int .u8 (byt A k : Nat))
    rw [byteC_snoc A k _ (by omega) rfl] at this
    rw [show ((lm A (k / 8) : Int) / 2 ^ (k % 8 * 8) % 256) = ((byt A k : Nat) : Int) by rw [← lm_byt]; simp]
    exact this
end Go.Proofs.YtdemabfpcepnfaaGreatDoor
/- The document's Take. -/
namespace Go.Proofs.YtdemabfpcepnfaaGreatDoor
open Go.RowKit
theorem exec_index_str {P : Program} {o : Oper} {ρ : Operand → Value} (t : TypeId) (x ix : Operand) (ho : o.op = .index t x ix) (hu : P.underlying t = some .string) (S : ByteArray) (hx : ρ x = .string S)
  (k : IntKind) (i : Nat) (hi : ρ ix = .int k i) (h1 : i < S.size) (w : World) : (execOp ρ o).run P w = .ok (.value (.int .u8 (S[i].toNat : Nat))) w := by
 unfold execOp
 simp only [ho, hx, hi, Sem.run_bind]
 rw [run_index_string w t S k i hu, dif_pos ⟨by omega, by omega⟩]
 rfl
theorem exec_byte_int {o : Oper} {ρ : Operand → Value} (x : Operand) (ho : o.op = .convert 5 3 x) (b : Nat) (hx : ρ x = .int .u8 b) (hb : b < 256) (w : World) :
  (execOp ρ o).run Tryz.prog w = .ok (.value (.int .i64 b)) w := by
 have h := wrap_i64 b (by omega)
 unfold execOp
 simp only [ho, hx]
 simp [go_sem, Tryz.underlying5, Tryz.underlying3, h]
theorem rup8 (X : Nat) (w : World) : Calls Tryz.prog 33 #[.agg (natC X), .int .i64 8] w fun e w' => e = .returned (.agg (natC (X * 256))) ∧ Below w.heap.size w w' := rup_any X 8 w
theorem rint_nat (b : Nat) (hb : b < 256) (w : World) : Calls Tryz.prog 19 #[.int .i64 b] w fun e w' => e = .returned (.agg (natC b)) ∧ Below w.heap.size w w' := by
 have h := rint_any b w (by omega)
 rw [Int.toNat_natCast] at h
 exact h
end Go.Proofs.YtdemabfpcepnfaaGreatDoor
