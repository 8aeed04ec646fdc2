/- Plain mathematics: a natural's bytes. -/
import Derived.Test.YtojobffihlmfgaaGA
import Derived.Test.YtojobffihlmfgaaGB
import Derived.Test.YtojobffihlmfgaaGD
namespace Go.Proofs.Ytojobffihlmfgaa
/-- Byte number k of A, the lowest first. -/
def byt (A k : Nat) : Nat := A / 2 ^ (8 * k) % 256
theorem byt_lt (A k : Nat) : byt A k < 256 := Nat.mod_lt _ (by decide)
theorem byt_bit (A k j : Nat) : (byt A k).testBit j = (decide (j < 8) && A.testBit (8 * k + j)) := by
 unfold byt
 rw [show 256 = 2 ^ 8 from rfl, Nat.testBit_mod_two_pow, Nat.testBit_div_two_pow, Nat.add_comm]
/-- A byte out of the limb that holds it. -/
theorem lm_byt (A k : Nat) : lm A (k / 8) / 2 ^ (k % 8 * 8) % 256 = byt A k := by
 apply Nat.eq_of_testBit_eq
 intro j
 rw [byt_bit, show 256 = 2 ^ 8 from rfl, Nat.testBit_mod_two_pow, Nat.testBit_div_two_pow, lm_testBit]
 by_cases hj : j < 8
 ·rw [decide_eq_true hj, decide_eq_true (show j + k % 8 * 8 < 64 by omega), show 64 * (k / 8) + (j + k % 8 * 8) = 8 * k + j by omega]
  simp
 ·simp [hj]
theorem byt_mod (A k i : Nat) : byt (A % 2 ^ (8 * k)) i = if i < k then byt A i else 0 := by
 apply Nat.eq_of_testBit_eq
 intro j
 rw [byt_bit, Nat.testBit_mod_two_pow]
 split
 ·rw [byt_bit]
  by_cases hj : j < 8
  ·simp [hj, show 8 * i + j < 8 * k by omega]
  ·simp [hj]
 ·rw [Nat.zero_testBit]
  by_cases hj : j < 8
  ·simp [show ¬ 8 * i + j < 8 * k by omega]
  ·simp [hj]
/-- The 32 cells of a natural's bytes, the highest first. -/
def byteC (A : Nat) : Array Value := Array.ofFn (n := 32) fun i => .int .u8 (byt A (31 - i))
theorem byteC_size (A : Nat) : (byteC A).size = 32 := by simp [byteC]
theorem byteC_get (A i : Nat) (h : i < 32) : (byteC A)[i]? = some (.int .u8 (byt A (31 - i))) := by simp [byteC, h]
theorem byteC_snoc (A k v : Nat) (hk : k < 32) (hv : v = byt A k) : (byteC (A % 2 ^ (8 * k))).setIfInBounds (31 - k) (.int .u8 v) = byteC (A % 2 ^ (8 * (k + 1))) := by
 subst hv
 apply Array.ext_getElem?
 intro i
 by_cases hi : i < 32
 ·rw [Array.getElem?_setIfInBounds, byteC_get (A % 2 ^ (8 * (k + 1))) i hi, byt_mod]
  by_cases e : 31 - k = i
  ·rw [if_pos e, if_pos (by rw [byteC_size]; omega), if_pos (by omega), show 31 - i = k by omega]
  ·rw [if_neg e, byteC_get _ i hi, byt_mod]
   by_cases h : 31 - i < k
   ·rw [if_pos h, if_pos (by omega)]
   ·rw [if_neg h, if_neg (by omega)]
 ·rw [Array.getElem?_eq_none (by simp [byteC_size]; omega), Array.getElem?_eq_none (by rw [byteC_size]; omega)]
/-- n bytes of A, the highest first. -/
def bytesL (A n : Nat) : List UInt8 := (List.range n).map fun i => UInt8.ofNat (byt A (n - 1 - i))
theorem bytesL_length (A n : Nat) : (bytesL A n).length = n := by simp [bytesL]
theorem bytesL_get (A n j : Nat) (h : j < (bytesL A n).length) : (bytesL A n)[j] = UInt8.ofNat (byt A (n - 1 - j)) := by simp [bytesL]
/-- How many bytes A needs. -/
def need (A : Nat) : Nat := (bitLen A + 7) / 8
theorem bitLen_le (A n : Nat) (h : A < 2 ^ n) : bitLen A ≤ n := by
 unfold bitLen
 split
 ·omega
 ·rename_i h0
  have := (Nat.log2_lt h0).2 h
  omega
theorem need_le (A : Nat) (h : A < 2 ^ 256) : need A ≤ 32 := by
 have := bitLen_le A 256 h
 unfold need
 omega
/-- A as bytes. -/
def bytesOf (A : Nat) : ByteArray := ⟨(bytesL A (need A)).toArray⟩
end Go.Proofs.Ytojobffihlmfgaa
/- Plain mathematics: the natural of bytes. -/
namespace Go.Proofs.Ytojobffihlmfgaa
theorem snoc_rec {P : List UInt8 → Prop} (h0 : P []) (h1 : ∀ l b, P l → P (l ++ [b])) (l : List UInt8) : P l := by
 have h : ∀ m : List UInt8, P m.reverse := by
  intro m
  induction m with
  | nil => exact h0
  | cons b m ih => rw [List.reverse_cons]; exact h1 _ _ ih
 have := h l.reverse
 rwa [List.reverse_reverse] at this
/-- The natural of which these are the bytes, the highest first. -/
def natB (l : List UInt8) : Nat := l.foldl (fun n b => n * 256 + b.toNat) 0
theorem natB_snoc (l : List UInt8) (b : UInt8) : natB (l ++ [b]) = natB l * 256 + b.toNat := by simp [natB, List.foldl_append]
theorem natB_lt (l : List UInt8) : natB l < 2 ^ (8 * l.length) := by
 refine snoc_rec (P := fun l => natB l < 2 ^ (8 * l.length)) ?_ ?_ l
 ·simp [natB]
 ·intro l b ih
  rw [natB_snoc, List.length_append, List.length_singleton, show 8 * (l.length + 1) = 8 * l.length + 8 by omega, Nat.pow_add]
  have := UInt8.toNat_lt b
  omega
theorem byt_zero (x b : Nat) (h : b < 256) : byt (x * 256 + b) 0 = b := by
 unfold byt
 rw [show 8 * 0 = 0 from rfl, Nat.pow_zero, Nat.div_one]
 omega
theorem byt_succ (x b k : Nat) (h : b < 256) : byt (x * 256 + b) (k + 1) = byt x k := by
 unfold byt
 rw [show 8 * (k + 1) = 8 + 8 * k by omega, Nat.pow_add, ← Nat.div_div_eq_div_mul, show (x * 256 + b) / 2 ^ 8 = x by omega]
theorem natB_byt (l : List UInt8) : ∀ (k : Nat) (hk : k < l.length), byt (natB l) k = (l[l.length - 1 - k]'(by omega)).toNat := by
 refine snoc_rec (P := fun l => ∀ (k : Nat) (hk : k < l.length), byt (natB l) k = (l[l.length - 1 - k]'(by omega)).toNat) ?_ ?_ l
 ·intro k hk; simp at hk
 ·intro l b ih k hk
  rw [List.length_append, List.length_singleton] at hk
  have hb := UInt8.toNat_lt b
  rw [natB_snoc]
  cases k with
  | zero =>
   rw [byt_zero _ _ hb]
   simp
  | succ k =>
   rw [byt_succ _ _ _ hb, ih k (by omega)]
   congr 1
   rw [List.getElem_append_left (by simp; omega)]
   congr 1
   simp
   omega
/-- One byte more, in its limb. -/
theorem natC_byte (N k v : Nat) (hk : k < 32) (hv : v = lm (N % 2 ^ (8 * k)) (k / 8) ||| byt N k * 2 ^ (k % 8 * 8)) : (natC (N % 2 ^ (8 * k))).setIfInBounds (k / 8) (.int .u64 v) = natC (N % 2 ^ (8 * (k + 1))) := by
 subst hv
 refine natC_set _ _ _ _ (by omega) ?_ ?_
 ·apply Nat.eq_of_testBit_eq
  intro j
  rw [Nat.testBit_or, lm_testBit, lm_testBit, Nat.testBit_mod_two_pow, Nat.testBit_mod_two_pow, Nat.mul_comm (byt N k), Nat.testBit_two_pow_mul, byt_bit]
  by_cases hj : j < 64
  ·by_cases h1 : 64 * (k / 8) + j < 8 * k
   ·rw [decide_eq_true hj, decide_eq_true h1, decide_eq_true (show 64 * (k / 8) + j < 8 * (k + 1) by omega), decide_eq_false (show ¬ j ≥ k % 8 * 8 by omega)]
    simp
   ·by_cases h2 : 64 * (k / 8) + j < 8 * (k + 1)
    ·rw [decide_eq_true hj, decide_eq_false h1, decide_eq_true h2, decide_eq_true (show j ≥ k % 8 * 8 by omega), decide_eq_true (show j - k % 8 * 8 < 8 by omega), show 8 * k + (j - k % 8 * 8) = 64 * (k / 8) + j by omega]
     simp
    ·rw [decide_eq_true hj, decide_eq_false h1, decide_eq_false h2, decide_eq_false (show ¬ j - k % 8 * 8 < 8 by omega)]
     simp
  ·rw [decide_eq_false hj, decide_eq_false (show ¬ j - k % 8 * 8 < 8 by omega)]
   simp
 ·intro i _ hne
  apply Nat.eq_of_testBit_eq
  intro j
  rw [lm_testBit, lm_testBit, Nat.testBit_mod_two_pow, Nat.testBit_mod_two_pow]
  by_cases hj : j < 64
  ·by_cases h1 : 64 * i + j < 8 * k
   ·rw [decide_eq_true h1, decide_eq_true (show 64 * i + j < 8 * (k + 1) by omega)]
   ·rw [decide_eq_false h1, decide_eq_false (show ¬ 64 * i + j < 8 * (k + 1) by omega)]
  ·rw [decide_eq_false hj, Bool.false_and, Bool.false_and]
theorem byt_shl_lt (N k : Nat) : byt N k * 2 ^ (k % 8 * 8) < 18446744073709551616 := by
 have h1 := byt_lt N k
 have h2 : 2 ^ (k % 8 * 8) ≤ 2 ^ 56 := Nat.pow_le_pow_right (by decide) (by omega)
 have h3 : byt N k * 2 ^ (k % 8 * 8) ≤ 255 * 2 ^ 56 := Nat.mul_le_mul (by omega) h2
 exact Nat.lt_of_le_of_lt h3 (by decide)
theorem take_or (L b m : Nat) (hL : L < 18446744073709551616) (hb : b < 18446744073709551616) (hm : b * 2 ^ m < 18446744073709551616) :
  bits .or .u64 (L : Int) (IntKind.u64.wrap (IntKind.u64.wrap (b : Int) * 2 ^ m)) = ((L ||| b * 2 ^ m : Nat) : Int) := by
 rw [wrap_u64 b hb, show ((b : Int) * 2 ^ m) = ((b * 2 ^ m : Nat) : Int) by simp, wrap_u64 _ hm, u64_or_nat _ _ hL hm]
end Go.Proofs.Ytojobffihlmfgaa
/- nat.Take. -/
namespace Go.Proofs.Ytojobffihlmfgaa
open Go.RowKit
/-- Bytes that are no natural's. -/
def badB (s : ByteArray) : Bool := decide (32 < s.size) || (decide (0 < s.size) && (s.data.toList[0]? == some 0))
set_option maxRecDepth 100000 in
set_option maxHeartbeats 400000 in
theorem ntake_long (s : ByteArray) (w : World) (h : 32 < s.size) :
  Calls Try.prog 35 #[.string s] w fun e w' => e = .returned (.tuple #[.agg (natC 0), .int .i64 4]) ∧ Below w.heap.size w w' := by
 have h' : (32 : Int) < s.size := by omega
 have rR := Row.new w (natC 0) 51
 go_enter Try.func35, Try.ntmps35
 go_wp2_with (first
  | refine wpList_alloc_row rfl 51 rfl _ zero_nat ?_
  | refine wpList_build_zero rfl 51 rfl _ built_nat ?_
  | refine wpList_storeR rfl 51 _ _ rfl _ _ rfl rfl rR (by exact size_nat) (by simp only [natC_size]) (natC_one _) ?_)
 exact ret_row2 rfl _ rfl (rR.setRow _) 4 _ Try.underlying51 (by exact size_nat) rfl _ rfl ⟨rfl, below_setRow (below_alloc _) (by omega) _⟩
set_option maxRecDepth 100000 in
set_option maxHeartbeats 400000 in
theorem ntake_nought (s : ByteArray) (w : World) (h : s.size ≤ 32) (h0 : 0 < s.size) (hz : s[0] = 0) :
  Calls Try.prog 35 #[.string s] w fun e w' => e = .returned (.tuple #[.agg (natC 0), .int .i64 4]) ∧ Below w.heap.size w w' := by
 have h' : ¬ (32 : Int) < s.size := by omega
 have h0' : (0 : Int) < s.size := by omega
 have hz' : (s[0].toNat : Int) = 0 := by rw [hz]; rfl
 have rR := Row.new w (natC 0) 51
 clear h hz
 go_enter Try.func35, Try.ntmps35
 go_wp2_with (first
  | refine wpList_alloc_row rfl 51 rfl _ zero_nat ?_
  | refine wpList_build_zero rfl 51 rfl _ built_nat ?_
  | refine wpList_storeR rfl 51 _ _ rfl _ _ rfl rfl rR (by exact size_nat) (by simp only [natC_size]) (natC_one _) ?_)
 exact ret_row2 rfl _ rfl (rR.setRow _) 4 _ Try.underlying51 (by exact size_nat) rfl _ rfl ⟨rfl, below_setRow (below_alloc _) (by omega) _⟩
set_option maxRecDepth 100000 in
set_option maxHeartbeats 1000000 in
theorem ntake_good (s : ByteArray) (w : World) (h : s.size ≤ 32) (h0 : 0 < s.size) (hz : s[0] ≠ 0) :
  Calls Try.prog 35 #[.string s] w fun e w' => e = .returned (.tuple #[.agg (natC (natB s.data.toList)), .int .i64 0]) ∧ Below w.heap.size w w' := by
 have h' : ¬ (32 : Int) < s.size := by omega
 have h0' : (0 : Int) < s.size := by omega
 have hz' : ((s[0].toNat : Int) == 0) = false := by
  rw [beq_eq_false_iff_ne]
  intro e
  exact hz (UInt8.toNat_inj.1 (by simpa using e))
 have HH : Hid (s.size ≤ 32) := h
 clear h hz
 go_enter Try.func35, Try.ntmps35
 go_wp2_with (first
  | refine wpList_alloc_row rfl 51 rfl _ zero_nat ?_)
 go_loopg [22] s.size (fun g s22 wr => ∃ k : Nat, k + g = s.size ∧ s22 = .int .i64 k ∧ Row wr w.heap.size (natC 0) 51 ∧ Row wr (w.heap.size + 1) (natC (natB s.data.toList % 2 ^ (8 * k))) 51 ∧ Below w.heap.size w wr)
 case atStart => exact ⟨0, by omega, rfl, Row.one rfl, by rw [show natB s.data.toList % 2 ^ (8 * 0) = 0 by simp [Nat.mod_one]]; exact Row.here (by simp), below_alloc2 _ _⟩
 case round =>
  obtain ⟨k, hk, rfl, r0, r1, hb⟩ := hrel
  have hle := HH.out
  cases gk with
  | zero =>
   obtain rfl : k = s.size := by omega
   rw [Nat.mod_eq_of_lt (show natB s.data.toList < 2 ^ (8 * s.size) from natB_lt s.data.toList)] at r1
   clear hk
   have hx : ¬ ((s.size : Int) < s.size) := by omega
   go_wp2_with (first
    | refine wpList_loadR rfl 51 _ rfl _ rfl r1 4 _ Try.underlying51 (by exact size_nat) ?_
    | refine wpList_storeR rfl 51 _ _ rfl _ _ rfl rfl r0 (by exact size_nat) (by simp only [natC_size]) (natC_one _) ?_)
   exact ret_row2 rfl _ rfl (r0.setRow _) 4 _ Try.underlying51 (by exact size_nat) rfl _ rfl ⟨rfl, below_setRow hb (by omega) _⟩
  | succ g =>
   have hlt : (k : Int) < s.size := by omega
   have hc1 := cell_nat r1 (k / 8) (by omega)
   have hf1 := r1.frozen (k / 8)
   have HV := natB_byt s.data.toList k (by show k < s.size; omega)
   obtain ⟨i, hi, hik, HW⟩ : ∃ i : Nat, ∃ hi : i < s.size, (s.size : Int) - 1 - k = i ∧ Aside (byt (natB s.data.toList) k = (s[i]'hi).toNat) := ⟨s.size - 1 - k, by omega, by omega, HV⟩
   have hi' : (i : Int) < s.size := by omega
   have R : Aside (Row wr w.heap.size (natC 0) 51 ∧ Row wr (w.heap.size + 1) (natC (natB s.data.toList % 2 ^ (8 * k))) 51 ∧ Below w.heap.size w wr) := ⟨r0, r1, hb⟩
   clear r0 r1 hb HV
   go_wp2
   go_region
   go_wp2
   obtain ⟨r0, r1, hb⟩ := R.out
   have hw := HW.out
   go_roundg g
   case measure => omega
   case rel =>
    refine ⟨k + 1, by omega, by go_num, (r0.setCell_far _ _ _ (by omega)).drew, ?_, (below_setCell hb (by omega) _ _).drew⟩
    have := (r1.setCell (k / 8) (.int .u64 ((lm (natB s.data.toList % 2 ^ (8 * k)) (k / 8) ||| byt (natB s.data.toList) k * 2 ^ (k % 8 * 8) : Nat) : Int))).drew
    rw [natC_byte _ k _ (by omega) rfl] at this
    rw [← hw, take_or _ _ _ (lm_lt _ _) (Nat.lt_of_lt_of_le (byt_lt _ _) (by decide)) (byt_shl_lt _ _)]
    exact this
set_option maxRecDepth 100000 in
set_option maxHeartbeats 400000 in
theorem ntake_empty (s : ByteArray) (w : World) (h : s.size = 0) :
  Calls Try.prog 35 #[.string s] w fun e w' => e = .returned (.tuple #[.agg (natC 0), .int .i64 0]) ∧ Below w.heap.size w w' := by
 have h' : (s.size : Int) = 0 := by omega
 go_enter Try.func35, Try.ntmps35
 go_wp2_with (first
  | refine wpList_alloc_row rfl 51 rfl _ zero_nat ?_)
 go_loopg [22] 0 (fun _ s22 wr => s22 = .int .i64 0 ∧ Row wr w.heap.size (natC 0) 51 ∧ Row wr (w.heap.size + 1) (natC 0) 51 ∧ Below w.heap.size w wr)
 case atStart => exact ⟨rfl, Row.one rfl, Row.here (by simp), below_alloc2 _ _⟩
 case round =>
  obtain ⟨rfl, r0, r1, hb⟩ := hrel
  go_wp2_with (first
   | refine wpList_loadR rfl 51 _ rfl _ rfl r1 4 _ Try.underlying51 (by exact size_nat) ?_
   | refine wpList_storeR rfl 51 _ _ rfl _ _ rfl rfl r0 (by exact size_nat) (by simp only [natC_size]) (natC_one _) ?_)
  exact ret_row2 rfl _ rfl (r0.setRow _) 4 _ Try.underlying51 (by exact size_nat) rfl _ rfl ⟨rfl, below_setRow hb (by omega) _⟩
/-- What Take hands back. -/
def takeN (s : ByteArray) : Nat := if badB s = true then 0 else natB s.data.toList
def takeE (s : ByteArray) : Int := if badB s = true then 4 else 0
theorem badB_cases (s : ByteArray) : (32 < s.size ∧ badB s = true) ∨ (s.size = 0 ∧ badB s = false) ∨ (s.size ≤ 32 ∧ ∃ h : 0 < s.size, (s[0] = 0 ∧ badB s = true) ∨ (s[0] ≠ 0 ∧ badB s = false)) := by
 unfold badB
 by_cases h1 : 32 < s.size
 ·exact .inl ⟨h1, by rw [decide_eq_true h1]; rfl⟩
 ·by_cases h2 : 0 < s.size
  ·refine .inr (.inr ⟨by omega, h2, ?_⟩)
   have hg : s.data.toList[0]? = some s[0] := by
    rw [Array.getElem?_toList]
    exact Array.getElem?_eq_getElem h2
   rw [decide_eq_false h1, decide_eq_true h2, hg]
   by_cases h3 : s[0] = 0
   ·exact .inl ⟨h3, by rw [h3]; rfl⟩
   ·exact .inr ⟨h3, by simp [h3]⟩
  ·exact .inr (.inl ⟨by omega, by rw [decide_eq_false h1, decide_eq_false h2]; rfl⟩)
theorem ntake_any (s : ByteArray) (w : World) :
  Calls Try.prog 35 #[.string s] w fun e w' => e = .returned (.tuple #[.agg (natC (takeN s)), .int .i64 (takeE s)]) ∧ Below w.heap.size w w' := by
 unfold takeN takeE
 rcases badB_cases s with ⟨h1, hb⟩ | ⟨h1, hb⟩ | ⟨h1, h2, ⟨h3, hb⟩ | ⟨h3, hb⟩⟩
 ·rw [if_pos hb, if_pos hb]; exact ntake_long s w h1
 ·rw [if_neg (by rw [hb]; decide), if_neg (by rw [hb]; decide), show natB s.data.toList = 0 by
   have : s.data.toList = [] := List.length_eq_zero_iff.1 h1
   rw [this]; rfl]
  exact ntake_empty s w h1
 ·rw [if_pos hb, if_pos hb]; exact ntake_nought s w h1 h2 h3
 ·rw [if_neg (by rw [hb]; decide), if_neg (by rw [hb]; decide)]; exact ntake_good s w h1 h2 h3
end Go.Proofs.Ytojobffihlmfgaa
/- nat.Bytes. -/
namespace Go.Proofs.Ytojobffihlmfgaa
open Go.RowKit
theorem info_arr : (Try.prog.info? 102).map (fun i => (i.zero, i.size)) = some (some (.agg (byteC 0)), 32) := by kernel_rfl
theorem zero_arr (w : World) : (zeroValue 102).run Try.prog w = .ok (.agg (byteC 0)) w := (zero_of_info info_arr).1 w
theorem cell_arr {w : World} {b N : Nat} (h : Row w b (byteC N) 102) (i : Nat) (hi : i < 32) : w.cell? ⟨b, i, none⟩ = some (.int .u8 (byt N (31 - i))) := by rw [h.cell]; exact byteC_get _ _ hi
theorem under_bytes : Try.prog.underlying 81 = some (.slice 5) := Try.underlying81
/-- Where the last n of 32 cells begin. -/
def offs (n : Nat) : Nat := if n = 0 then 0 else 32 - n
theorem exec_slice_arr {o : Oper} {ρ : Operand → Value} (x lo : Operand) (ho : o.op = .slice 102 x (some lo) none none) (b n : Nat) (hx : ρ x = .pointer (some ⟨b, 0, none⟩)) (l : Int) (hl : ρ lo = .int .i64 l)
  (hn : n ≤ 32) (hle : l = 32 - n) (w : World) : (execOp ρ o).run Try.prog w = .ok (.value (.slice (some ⟨b, offs n, none⟩) n n)) w := by
 have hr := run_sliceAt_array_l (P := Try.prog) w 102 ⟨b, 0, none⟩ (by kernel_rfl) .i64 l (by omega) (by rw [show Try.prog.arrayLen 102 = 32 from by kernel_rfl]; omega)
 unfold execOp
 simp only [ho, hx, hl, Option.map_some, Option.map_none, Sem.run_bind]
 rw [hr, show Try.prog.elem 102 = 5 from by kernel_rfl, Try.sizeOf5, show Try.prog.arrayLen 102 = 32 from by kernel_rfl]
 subst hle
 have e : ((32 : Int) - n).toNat = 32 - n := by omega
 rw [e]
 unfold slicedAt offs
 by_cases h0 : n = 0
 ·subst h0; rfl
 ·simp only [Result.andThen_ok, Sem.run_pure]
  rw [if_neg (show ¬ 32 = 32 - n by omega), if_neg h0, show 32 - (32 - n) = n by omega]
  have ha : (⟨b, 0, none⟩ : Addr).add ((32 - n) * 1) = ⟨b, 32 - n, none⟩ := by unfold Addr.add; split <;> simp_all
  rw [ha]
theorem exec_string_arr {o : Oper} {ρ : Operand → Value} (x : Operand) (ho : o.op = .convert 81 9 x) (b n A : Nat) (hx : ρ x = .slice (some ⟨b, offs n, none⟩) n n) (hn : n ≤ 32) (w : World)
  (hr : Row w b (byteC A) 102) : (execOp ρ o).run Try.prog w = .ok (.value (.string ⟨(bytesL A n).toArray⟩)) w := by
 unfold execOp
 simp only [ho, hx, Sem.run_bind]
 have h := run_convert_bytes_back (P := Try.prog) w 81 9 5 ⟨b, offs n, none⟩ n (bytesL A n) under_bytes Try.underlying5 Try.underlying9 (fun j hj => by
  have hj' : j < n := by rw [bytesL_length] at hj; exact hj
  have ha : (⟨b, offs n, none⟩ : Addr).add j = ⟨b, offs n + j, none⟩ := by unfold Addr.add; split <;> simp_all
  rw [ha, show offs n + j = 32 - n + j by unfold offs; rw [if_neg (by omega)], cell_arr hr _ (by omega)]
  rw [bytesL_get, UInt8.toNat_ofNat_of_lt' (byt_lt _ _), show 31 - (32 - n + j) = n - 1 - j by omega])
 rw [bytesL_length] at h
 rw [h]
 rfl
set_option maxRecDepth 100000 in
set_option maxHeartbeats 1000000 in
theorem nbytes_any (A : Nat) (w : World) (hA : A < 2 ^ 256) :
  Calls Try.prog 55 #[.agg (natC A)] w fun e w' => e = .returned (.string (bytesOf A)) ∧ Below w.heap.size w w' := by
 have HA : Hid (A < 2 ^ 256) := hA
 clear hA
 go_enter Try.func55, Try.ntmps55
 go_wp2_with (first
  | refine wpList_box_row rfl 51 _ rfl _ rfl ?_
  | refine wpList_alloc_row rfl 102 rfl _ zero_arr ?_)
 go_loopg [6] 32 (fun g s6 wr => ∃ k : Nat, k + g = 32 ∧ s6 = .int .i64 k ∧ Row wr w.heap.size (natC A) 51 ∧ Row wr (w.heap.size + 1) (byteC (A % 2 ^ (8 * k))) 102 ∧ Below w.heap.size w wr)
 case atStart => exact ⟨0, by omega, rfl, Row.one rfl, by rw [show A % 2 ^ (8 * 0) = 0 by simp [Nat.mod_one]]; exact Row.here (by simp), below_alloc2 _ _⟩
 case round =>
  obtain ⟨k, hk, rfl, r0, r1, hb⟩ := hrel
  cases gk with
  | zero =>
   obtain rfl : k = 32 := by omega
   rw [show A % 2 ^ (8 * 32) = A from Nat.mod_eq_of_lt HA.out] at r1
   clear hk
   have hx : ¬ ((32 : Int) < 32) := by omega
   have hn : bitLen A ≤ 256 := bitLen_le A 256 HA.out
   have hn' : (bitLen A : Int) ≤ 256 := by omega
   go_wp2_with (first
    | refine wpList_loadR rfl 51 _ rfl _ rfl r0 4 _ Try.underlying51 (by exact size_nat) ?_
    | (go_at_call 72; refine (nlen_any _ _ HA.out).mono ?_; rintro e w2 ⟨rfl, hb2⟩; have r5 := r1.belowAll hb2; have b5 := below_on hb (Nat.le_refl _) hb2; clear hb2)
    | refine wpList_value rfl _ (exec_slice_arr _ _ rfl (w.heap.size + 1) (need A) rfl _ rfl (need_le A HA.out) (by have := HA.out; unfold need; omega) _) ?_
    | refine wpList_value rfl _ (exec_string_arr _ rfl (w.heap.size + 1) (need A) A rfl (need_le A HA.out) _ r5) ?_)
   go_ret
   exact ⟨rfl, b5⟩
  | succ g =>
   have hlt : (k : Int) < 32 := by omega
   have hk8 : k / 8 < 4 := by omega
   have hc0 := cell_nat r0 (k / 8) (by omega)
   have hc1 := cell_arr r1 (31 - k) (by omega)
   have hf1 := r1.frozen (31 - k)
   have hlm := lm_lt A (k / 8)
   have hsub : ((31 : Int) - k).toNat = 31 - k := by omega
   have R : Aside (Row wr w.heap.size (natC A) 51 ∧ Row wr (w.heap.size + 1) (byteC (A % 2 ^ (8 * k))) 102 ∧ Below w.heap.size w wr) := ⟨r0, r1, hb⟩
   clear r0 r1 hb
   go_wp2
   obtain ⟨r0, r1, hb⟩ := R.out
   go_roundg g
   case measure => omega
   case rel =>
    refine ⟨k + 1, by omega, by go_num, r0.setCell_far _ _ _ (by omega), ?_, below_setCell hb (by omega) _ _⟩
    have := r1.setCell (31 - k) (.int .u8 (byt A k : Nat))
    rw [byteC_snoc A k _ (by omega) rfl] at this
    rw [show ((lm A (k / 8) : Int) / 2 ^ (k % 8 * 8) % 256) = ((byt A k : Nat) : Int) by rw [← lm_byt]; simp]
    exact this
end Go.Proofs.Ytojobffihlmfgaa
/- The document's Take. -/
namespace Go.Proofs.Ytojobffihlmfgaa
open Go.RowKit
theorem exec_index_str {P : Program} {o : Oper} {ρ : Operand → Value} (t : TypeId) (x ix : Operand) (ho : o.op = .index t x ix) (hu : P.underlying t = some .string) (S : ByteArray) (hx : ρ x = .string S)
  (k : IntKind) (i : Nat) (hi : ρ ix = .int k i) (h1 : i < S.size) (w : World) : (execOp ρ o).run P w = .ok (.value (.int .u8 (S[i].toNat : Nat))) w := by
 unfold execOp
 simp only [ho, hx, hi, Sem.run_bind]
 rw [run_index_string w t S k i hu, dif_pos ⟨by omega, by omega⟩]
 rfl
theorem exec_byte_int {o : Oper} {ρ : Operand → Value} (x : Operand) (ho : o.op = .convert 5 3 x) (b : Nat) (hx : ρ x = .int .u8 b) (hb : b < 256) (w : World) :
  (execOp ρ o).run Try.prog w = .ok (.value (.int .i64 b)) w := by
 have h := wrap_i64 b (by omega)
 unfold execOp
 simp only [ho, hx]
 simp [go_sem, Try.underlying5, Try.underlying3, h]
theorem rup8 (X : Nat) (w : World) : Calls Try.prog 39 #[.agg (natC X), .int .i64 8] w fun e w' => e = .returned (.agg (natC (X * 256))) ∧ Below w.heap.size w w' := rup_any X 8 w
theorem rint_nat (b : Nat) (hb : b < 256) (w : World) : Calls Try.prog 40 #[.int .i64 b] w fun e w' => e = .returned (.agg (natC b)) ∧ Below w.heap.size w w' := by
 have h := rint_any b w (by omega)
 rw [Int.toNat_natCast] at h
 exact h
set_option maxRecDepth 100000 in
set_option maxHeartbeats 1000000 in
theorem rtake_good (s : ByteArray) (w : World) (h : s.size ≤ 32) (h0 : 0 < s.size) (hz : s[0] ≠ 0) :
  Calls Try.prog 19 #[.string s] w fun e w' => e = .returned (.tuple #[.agg (natC (natB s.data.toList)), .int .i64 0]) ∧ Below w.heap.size w w' := by
 have h' : ¬ (32 : Int) < s.size := by omega
 have h0' : (0 : Int) < s.size := by omega
 have hz' : ((s[0].toNat : Int) == 0) = false := by
  rw [beq_eq_false_iff_ne]
  intro e
  exact hz (UInt8.toNat_inj.1 (by simpa using e))
 have HH : Hid (s.size ≤ 32) := h
 clear h hz
 go_enter Try.func19, Try.ntmps19
 go_wp2_with (first
  | refine wpList_alloc_row rfl 51 rfl _ zero_nat ?_
  | refine wpList_build_zero rfl 51 rfl _ built_nat ?_
  | refine wpList_store_new rfl 51 _ _ rfl _ rfl rfl _ _ (by exact size_nat) (by simp only [natC_size]) (natC_one _) ?_)
 go_loopg [5] s.size (fun g s5 wr => ∃ k : Nat, k + g = s.size ∧ s5 = .int .i64 k ∧ Row wr w.heap.size (natC 0) 51 ∧ Row wr (w.heap.size + 1) (natC (natB (s.data.toList.take k))) 51 ∧ Below w.heap.size w wr)
 case atStart => exact ⟨0, by omega, rfl, Row.one rfl, Row.here (by simp), below_alloc2 _ _⟩
 case round =>
  obtain ⟨k, hk, rfl, r0, r1, hb⟩ := hrel
  have hle := HH.out
  cases gk with
  | zero =>
   obtain rfl : k = s.size := by omega
   rw [show s.data.toList.take s.size = s.data.toList from List.take_of_length_le (Nat.le_refl _)] at r1
   clear hk
   have hx : ¬ ((s.size : Int) < s.size) := by omega
   go_wp2_with (first
    | refine wpList_loadR rfl 51 _ rfl _ rfl r1 4 _ Try.underlying51 (by exact size_nat) ?_
    | refine wpList_storeR rfl 51 _ _ rfl _ _ rfl rfl r0 (by exact size_nat) (by simp only [natC_size]) (natC_one _) ?_)
   exact ret_row2 rfl _ rfl (r0.setRow _) 4 _ Try.underlying51 (by exact size_nat) rfl _ rfl ⟨rfl, below_setRow hb (by omega) _⟩
  | succ g =>
   have hlt : (k : Int) < s.size := by omega
   have HS : Aside (natB (s.data.toList.take (k + 1)) = natB (s.data.toList.take k) * 256 + (s[k]'(by omega)).toNat) := by
    show _ = _
    rw [List.take_succ_eq_append_getElem (show k < s.data.toList.length by show k < s.size; omega), natB_snoc]
    rfl
   have hks : k < s.size := by omega
   have hb8 := UInt8.toNat_lt (s[k]'hks)
   have HB8 : Aside ((s[k]'hks).toNat < 256) := hb8
   generalize hX : natB (s.data.toList.take k) = X at *
   generalize hbb : (s[k]'hks).toNat = b at *
   clear hb8
   go_wp2
   generalize hzz : (s[0].toNat : Int) = z at *
   refine wp_region_inv0 (by kernel_rfl) (fun d a' w' =>
    (d 12 = true → d 11 = true) ∧ ∃ v6 v7 v29 v30 v31 v32 v33 v34 v35 v36 v37 v38 v39 : Value, a' = ({ tmps := List.toArray ((.string s) :: undef :: (.pointer (some ⟨w.heap.size, 0, none⟩)) :: (.int .i64 0) :: (.pointer (some ⟨w.heap.size + 1, 0, none⟩)) :: (.int .i64 k) :: v6 :: v7 :: (.string s) :: (.int .i64 s.size) :: (.bool false) :: (.bool false) :: (.string s) :: (.int .i64 s.size) :: (.bool true) :: (.bool true) :: (.string s) :: (.int .u8 (z : Int)) :: (.bool false) :: (.bool false) :: (.bool false) :: undef :: (.agg (natC 0)) :: (.int .i64 k) :: (.string s) :: (.int .i64 s.size) :: (.bool true) :: u27 :: u28 :: v29 :: v30 :: v31 :: v32 :: v33 :: v34 :: v35 :: v36 :: v37 :: v38 :: v39 :: u40 :: undef :: []), defers := [] } : Act) ∧
     (d 0 = true → v30 = .agg (natC X)) ∧ (d 1 = true → v31 = .agg (natC (X * 256))) ∧ (d 2 = true → v32 = .string s) ∧ (d 3 = true → v33 = .int .i64 k) ∧ (d 4 = true → v34 = .int .u8 b) ∧ (d 5 = true → v35 = .int .i64 b) ∧ (d 6 = true → v36 = .agg (natC b)) ∧
     (d 7 = true → v37 = .tuple #[.agg (natC (X * 256 + b)), .int .i64 (cN (X * 256) b 256 : Nat)]) ∧ (d 8 = true → v29 = .tuple #[.agg (natC (X * 256 + b)), .int .i64 (cN (X * 256) b 256 : Nat)]) ∧ (d 9 = true → v38 = .agg (natC (X * 256 + b))) ∧ (d 10 = true → v39 = .int .i64 (cN (X * 256) b 256 : Nat)) ∧
     (d 11 = true → ∃ p, v6 = .pointer (some ⟨p, 0, none⟩) ∧ wr.heap.size ≤ p ∧ Row w' p (natC (if d 12 = true then X * 256 + b else 0)) 51) ∧ Below wr.heap.size wr w') (by kernel_rfl) ?start ?step ?fin
   case start => exact ⟨nofun, _, _, _, _, _, _, _, _, _, _, _, _, _, rfl, nofun, nofun, nofun, nofun, nofun, nofun, nofun, nofun, nofun, nofun, nofun, nofun, (Below.refl _ _).drew⟩
   case step =>
    intro i o ho d a' w' ⟨d76, v6, v7, v29, v30, v31, v32, v33, v34, v35, v36, v37, v38, v39, ha, h0, h1, h2, h3, h4, h5, h6, h7, h8, h9, h10, h11, hb'⟩ hd hpre
    subst ha
    match i, ho with
    | 0, ho =>
     have ho' := Option.some.inj ho
     subst ho'
     refine opw_load 51 _ rfl (w.heap.size + 1) rfl (r1.belowAll hb') 4 _ Try.underlying51 size_nat ?_
     exact ⟨d76, v6, v7, v29, _, v31, v32, v33, v34, v35, v36, v37, v38, v39, rfl, fun _ => rfl, h1, h2, h3, h4, h5, h6, h7, h8, h9, h10, h11, hb'⟩
    | 1, ho =>
     have ho' := Option.some.inj ho
     subst ho'
     have e0 := h0 (hpre ⟨0, .data⟩ (by simp) rfl)
     subst e0
     refine opw_call 39 _ _ rfl Try.func39 (by kernel_rfl) #[.agg (natC X), .int .i64 8] rfl ?_
     refine (rup8 X w').mono fun e w2 ⟨he, hb2⟩ => ⟨_, he, d76, v6, v7, v29, _, _, v32, v33, v34, v35, v36, v37, v38, v39, rfl, fun _ => rfl, fun _ => rfl, h2, h3, h4, h5, h6, h7, h8, h9, h10, fun h => ?_, below_on hb' (Nat.le_refl _) hb2⟩
     obtain ⟨p, e, hp, r⟩ := h11 h
     exact ⟨p, e, hp, r.belowAll hb2⟩
    | 2, ho =>
     have ho' := Option.some.inj ho
     subst ho'
     refine opw_value (.string s) rfl ?_
     exact ⟨d76, v6, v7, v29, v30, v31, _, v33, v34, v35, v36, v37, v38, v39, rfl, h0, h1, fun _ => rfl, h3, h4, h5, h6, h7, h8, h9, h10, h11, hb'⟩
    | 3, ho =>
     have ho' := Option.some.inj ho
     subst ho'
     refine opw_value (.int .i64 k) rfl ?_
     exact ⟨d76, v6, v7, v29, v30, v31, v32, _, v34, v35, v36, v37, v38, v39, rfl, h0, h1, h2, fun _ => rfl, h4, h5, h6, h7, h8, h9, h10, h11, hb'⟩
    | 4, ho =>
     have ho' := Option.some.inj ho
     subst ho'
     have e2 := h2 (hpre ⟨2, .data⟩ (by simp) rfl)
     have e3 := h3 (hpre ⟨3, .data⟩ (by simp) rfl)
     subst e2 e3
     refine opw_value (.int .u8 b) ((exec_index_str 9 _ _ rfl Try.underlying9 s rfl .i64 k rfl hks w').trans (by rw [hbb])) ?_
     exact ⟨d76, v6, v7, v29, v30, v31, _, _, _, v35, v36, v37, v38, v39, rfl, h0, h1, fun _ => rfl, fun _ => rfl, fun _ => rfl, h5, h6, h7, h8, h9, h10, h11, hb'⟩
    | 5, ho =>
     have ho' := Option.some.inj ho
     subst ho'
     have e4 := h4 (hpre ⟨4, .data⟩ (by simp) rfl)
     subst e4
     refine opw_value (.int .i64 b) (exec_byte_int _ rfl b rfl HB8.out w') ?_
     exact ⟨d76, v6, v7, v29, v30, v31, v32, v33, _, _, v36, v37, v38, v39, rfl, h0, h1, h2, h3, fun _ => rfl, fun _ => rfl, h6, h7, h8, h9, h10, h11, hb'⟩
    | 6, ho =>
     have ho' := Option.some.inj ho
     subst ho'
     have e5 := h5 (hpre ⟨5, .data⟩ (by simp) rfl)
     subst e5
     refine opw_call 40 _ _ rfl Try.func40 (by kernel_rfl) #[.int .i64 b] rfl ?_
     refine (rint_nat b HB8.out w').mono fun e w2 ⟨he, hb2⟩ => ⟨_, he, d76, v6, v7, v29, v30, v31, v32, v33, v34, _, _, v37, v38, v39, rfl, h0, h1, h2, h3, h4, fun _ => rfl, fun _ => rfl, h7, h8, h9, h10, fun h => ?_, below_on hb' (Nat.le_refl _) hb2⟩
     obtain ⟨p, e, hp, r⟩ := h11 h
     exact ⟨p, e, hp, r.belowAll hb2⟩
    | 7, ho =>
     have ho' := Option.some.inj ho
     subst ho'
     have e1 := h1 (hpre ⟨1, .data⟩ (by simp) rfl)
     have e6 := h6 (hpre ⟨6, .data⟩ (by simp) rfl)
     subst e1 e6
     refine opw_call 38 _ _ rfl Try.func38 (by kernel_rfl) #[.agg (natC (X * 256)), .agg (natC b)] rfl ?_
     refine (radd_any (X * 256) b w').mono fun e w2 ⟨he, hb2⟩ => ⟨_, he, d76, v6, v7, v29, v30, _, v32, v33, v34, v35, _, _, v38, v39, rfl, h0, fun _ => rfl, h2, h3, h4, h5, fun _ => rfl, fun _ => rfl, h8, h9, h10, fun h => ?_, below_on hb' (Nat.le_refl _) hb2⟩
     obtain ⟨p, e, hp, r⟩ := h11 h
     exact ⟨p, e, hp, r.belowAll hb2⟩
    | 8, ho =>
     have ho' := Option.some.inj ho
     subst ho'
     have e7 := h7 (hpre ⟨7, .data⟩ (by simp) rfl)
     subst e7
     refine opw_value (.tuple #[.agg (natC (X * 256 + b)), .int .i64 (cN (X * 256) b 256 : Nat)]) rfl ?_
     exact ⟨d76, v6, v7, _, v30, v31, v32, v33, v34, v35, v36, _, v38, v39, rfl, h0, h1, h2, h3, h4, h5, h6, fun _ => rfl, fun _ => rfl, h9, h10, h11, hb'⟩
    | 9, ho =>
     have ho' := Option.some.inj ho
     subst ho'
     have e8 := h8 (hpre ⟨8, .data⟩ (by simp) rfl)
     subst e8
     refine opw_value (.agg (natC (X * 256 + b))) rfl ?_
     exact ⟨d76, v6, v7, _, v30, v31, v32, v33, v34, v35, v36, v37, _, v39, rfl, h0, h1, h2, h3, h4, h5, h6, h7, fun _ => rfl, fun _ => rfl, h10, h11, hb'⟩
    | 10, ho =>
     have ho' := Option.some.inj ho
     subst ho'
     have e8 := h8 (hpre ⟨8, .data⟩ (by simp) rfl)
     subst e8
     refine opw_value (.int .i64 (cN (X * 256) b 256 : Nat)) rfl ?_
     exact ⟨d76, v6, v7, _, v30, v31, v32, v33, v34, v35, v36, v37, v38, _, rfl, h0, h1, h2, h3, h4, h5, h6, h7, fun _ => rfl, h9, fun _ => rfl, h11, hb'⟩
    | 11, ho =>
     have ho' := Option.some.inj ho
     subst ho'
     have D7 : d 12 = false := by
      cases h7 : d 12 with
      | false => rfl
      | true => have := d76 h7; rw [hd] at this; cases this
     refine opw_alloc 51 rfl _ zero_nat ?_
     refine ⟨fun _ => rfl, _, v7, v29, v30, v31, v32, v33, v34, v35, v36, v37, v38, v39, rfl, h0, h1, h2, h3, h4, h5, h6, h7, h8, h9, h10, fun _ => ⟨w'.heap.size, rfl, hb'.size, ?_⟩, hb'.alloc hb'.size _⟩
     rw [if_neg (by show ¬ d 12 = true; rw [D7]; decide)]
     exact Row.new _ _ _
    | 12, ho =>
     have ho' := Option.some.inj ho
     subst ho'
     have D6 := hpre ⟨11, .data⟩ (by simp) rfl
     have e9 := h9 (hpre ⟨9, .data⟩ (by simp) rfl)
     obtain ⟨p, e, hp, r⟩ := h11 D6
     subst e9 e
     refine opw_store 51 _ _ rfl p (natC (X * 256 + b)) rfl rfl r size_nat rfl (natC_one _) ?_
     exact ⟨fun _ => D6, _, v7, v29, v30, v31, v32, v33, v34, v35, v36, v37, _, v39, rfl, h0, h1, h2, h3, h4, h5, h6, h7, h8, fun _ => rfl, h10, fun _ => ⟨p, rfl, hp, by rw [if_pos (by rfl)]; exact r.setRow _⟩, below_setRow hb' hp _⟩
    | 13, ho =>
     have ho' := Option.some.inj ho
     subst ho'
     have e10 := h10 (hpre ⟨10, .data⟩ (by simp) rfl)
     subst e10
     refine opw_value _ rfl ?_
     exact ⟨d76, v6, _, v29, v30, v31, v32, v33, v34, v35, v36, v37, v38, _, rfl, h0, h1, h2, h3, h4, h5, h6, h7, h8, h9, fun _ => rfl, h11, hb'⟩
    | n + 14, ho => cases ho
   case fin =>
    rintro d a' w' ⟨d76, v6, v7, v29, v30, v31, v32, v33, v34, v35, v36, v37, v38, v39, rfl, h0, h1, h2, h3, h4, h5, h6, h7, h8, h9, h10, h11, hb'⟩ hall
    obtain ⟨p, e2, hp, r2⟩ := h11 (hall 11 (by decide))
    rw [if_pos (hall 12 (by decide))] at r2
    subst e2
    have q0 := r0.belowAll hb'
    have q1 := r1.belowAll hb'
    have b4 := below_on hb (Nat.le_refl _) hb'
    have hlt0 := r0.lt
    have hlt1 := r1.lt
    clear h0 h1 h2 h3 h4 h5 h6 h7 h8 h9 h10 h11 hall d76 hb' r0 r1 hb
    have hzz' : Aside ((s[0].toNat : Int) = z) := hzz
    clear hzz hX hbb
    subst z
    go_wp2_with (first
     | refine wpList_loadR rfl 51 _ rfl _ rfl r2 4 _ Try.underlying51 (by exact size_nat) ?_
     | refine wpList_storeR rfl 51 _ _ rfl _ _ rfl rfl q1 (by exact size_nat) (by simp only [natC_size]) (natC_one _) ?_)
    go_roundg g
    case measure => omega
    case rel => exact ⟨k + 1, by omega, by go_num, q0.setRow_far _ _ (by omega), by rw [HS.out]; exact q1.setRow _, below_setRow b4 (by omega) _⟩
set_option maxRecDepth 100000 in
set_option maxHeartbeats 400000 in
theorem rtake_long (s : ByteArray) (w : World) (h : 32 < s.size) :
  Calls Try.prog 19 #[.string s] w fun e w' => e = .returned (.tuple #[.agg (natC 0), .int .i64 4]) ∧ Below w.heap.size w w' := by
 have h' : (32 : Int) < s.size := by omega
 have rR := Row.new w (natC 0) 51
 go_enter Try.func19, Try.ntmps19
 go_wp2_with (first
  | refine wpList_alloc_row rfl 51 rfl _ zero_nat ?_
  | refine wpList_build_zero rfl 51 rfl _ built_nat ?_
  | refine wpList_storeR rfl 51 _ _ rfl _ _ rfl rfl rR (by exact size_nat) (by simp only [natC_size]) (natC_one _) ?_)
 exact ret_row2 rfl _ rfl (rR.setRow _) 4 _ Try.underlying51 (by exact size_nat) rfl _ rfl ⟨rfl, below_setRow (below_alloc _) (by omega) _⟩
set_option maxRecDepth 100000 in
set_option maxHeartbeats 400000 in
theorem rtake_nought (s : ByteArray) (w : World) (h : s.size ≤ 32) (h0 : 0 < s.size) (hz : s[0] = 0) :
  Calls Try.prog 19 #[.string s] w fun e w' => e = .returned (.tuple #[.agg (natC 0), .int .i64 4]) ∧ Below w.heap.size w w' := by
 have h' : ¬ (32 : Int) < s.size := by omega
 have h0' : (0 : Int) < s.size := by omega
 have hz' : (s[0].toNat : Int) = 0 := by rw [hz]; rfl
 have rR := Row.new w (natC 0) 51
 clear h hz
 go_enter Try.func19, Try.ntmps19
 go_wp2_with (first
  | refine wpList_alloc_row rfl 51 rfl _ zero_nat ?_
  | refine wpList_build_zero rfl 51 rfl _ built_nat ?_
  | refine wpList_storeR rfl 51 _ _ rfl _ _ rfl rfl rR (by exact size_nat) (by simp only [natC_size]) (natC_one _) ?_)
 exact ret_row2 rfl _ rfl (rR.setRow _) 4 _ Try.underlying51 (by exact size_nat) rfl _ rfl ⟨rfl, below_setRow (below_alloc _) (by omega) _⟩
set_option maxRecDepth 100000 in
set_option maxHeartbeats 400000 in
theorem rtake_empty (s : ByteArray) (w : World) (h : s.size = 0) :
  Calls Try.prog 19 #[.string s] w fun e w' => e = .returned (.tuple #[.agg (natC 0), .int .i64 0]) ∧ Below w.heap.size w w' := by
 have h' : (s.size : Int) = 0 := by omega
 go_enter Try.func19, Try.ntmps19
 go_wp2_with (first
  | refine wpList_alloc_row rfl 51 rfl _ zero_nat ?_
  | refine wpList_build_zero rfl 51 rfl _ built_nat ?_
  | refine wpList_store_new rfl 51 _ _ rfl _ rfl rfl _ _ (by exact size_nat) (by simp only [natC_size]) (natC_one _) ?_)
 go_loopg [5] 0 (fun _ s5 wr => s5 = .int .i64 0 ∧ Row wr w.heap.size (natC 0) 51 ∧ Row wr (w.heap.size + 1) (natC 0) 51 ∧ Below w.heap.size w wr)
 case atStart => exact ⟨rfl, Row.one rfl, Row.here (by simp), below_alloc2 _ _⟩
 case round =>
  obtain ⟨rfl, r0, r1, hb⟩ := hrel
  go_wp2_with (first
   | refine wpList_loadR rfl 51 _ rfl _ rfl r1 4 _ Try.underlying51 (by exact size_nat) ?_
   | refine wpList_storeR rfl 51 _ _ rfl _ _ rfl rfl r0 (by exact size_nat) (by simp only [natC_size]) (natC_one _) ?_)
  exact ret_row2 rfl _ rfl (r0.setRow _) 4 _ Try.underlying51 (by exact size_nat) rfl _ rfl ⟨rfl, below_setRow hb (by omega) _⟩
theorem rtake_any (s : ByteArray) (w : World) :
  Calls Try.prog 19 #[.string s] w fun e w' => e = .returned (.tuple #[.agg (natC (takeN s)), .int .i64 (takeE s)]) ∧ Below w.heap.size w w' := by
 unfold takeN takeE
 rcases badB_cases s with ⟨h1, hb⟩ | ⟨h1, hb⟩ | ⟨h1, h2, ⟨h3, hb⟩ | ⟨h3, hb⟩⟩
 ·rw [if_pos hb, if_pos hb]; exact rtake_long s w h1
 ·rw [if_neg (by rw [hb]; decide), if_neg (by rw [hb]; decide), show natB s.data.toList = 0 by
   have : s.data.toList = [] := List.length_eq_zero_iff.1 h1
   rw [this]; rfl]
  exact rtake_empty s w h1
 ·rw [if_pos hb, if_pos hb]; exact rtake_nought s w h1 h2 h3
 ·rw [if_neg (by rw [hb]; decide), if_neg (by rw [hb]; decide)]; exact rtake_good s w h1 h2 h3
end Go.Proofs.Ytojobffihlmfgaa
/- The document's Bytes. -/
namespace Go.Proofs.Ytojobffihlmfgaa
open Go.RowKit
theorem info_u8 : ∃ i, Try.prog.info? 5 = some i ∧ i.zero = some (.int .u8 0) ∧ i.size = 1 ∧ i.bytes = 1 := by
 have h : (Try.prog.info? 5).map (fun i => (i.zero, i.size, i.bytes)) = some (some (.int .u8 0), 1, 1) := by kernel_rfl
 cases hq : Try.prog.info? 5 with
 | none => simp [hq] at h
 | some i =>
  simp [hq] at h
  exact ⟨i, rfl, h.1, h.2.1, h.2.2⟩
/-- Bytes as cells. -/
def u8s (l : List UInt8) : List Value := l.map fun b => .int .u8 (b.toNat : Int)
theorem own_below {w w' : World} {base : Nat} {e : TypeId} {size : Nat} {v : Value} {n : Nat} {xs : List Value} (h : w.ownsRow base e size v n xs) (hb : Below w.heap.size w w') : w'.ownsRow base e size v n xs := by
 refine ⟨h.1, ?_⟩
 rcases h.2 with hn | ⟨g, cap, cur, rfl, hbs, hgg, rest⟩
 ·exact .inl hn
 ·exact .inr ⟨g, cap, cur, rfl, hbs, (hb.block g (Array.getElem?_eq_some_iff.1 hgg).1).trans hgg, rest⟩
theorem exec_string_own {o : Oper} {ρ : Operand → Value} (x : Operand) (ho : o.op = .convert 81 9 x) (v : Value) (hx : ρ x = v) (base : Nat) (l : List UInt8) (w : World)
  (hown : w.ownsRow base 5 1 v l.length (u8s l)) : (execOp ρ o).run Try.prog w = .ok (.value (.string ⟨l.toArray⟩)) w := by
 unfold execOp
 simp only [ho, hx, Sem.run_bind]
 rcases hown.2 with ⟨rfl, h0⟩ | ⟨g, cap, cur, rfl, _, hgg, hle, _, hcs, htake⟩
 ·obtain rfl : l = [] := List.length_eq_zero_iff.1 h0
  rw [run_convert_bytes_string w 81 9 5 none 0 0 under_bytes Try.underlying5 Try.underlying9]
  rfl
 ·have h := run_convert_bytes_back (P := Try.prog) w 81 9 5 ⟨g, 0, none⟩ cap l under_bytes Try.underlying5 Try.underlying9 (fun j hj => by
   have ha : (⟨g, 0, none⟩ : Addr).add j = ⟨g, j, none⟩ := by unfold Addr.add; split <;> simp_all
   have hj' : (u8s l)[j]? = some (.int .u8 (l[j].toNat : Int)) := by unfold u8s; rw [List.getElem?_map, List.getElem?_eq_getElem hj]; rfl
   have := hown.cells (g := g) rfl j _ hj'
   exact this)
  rw [h]
  rfl
theorem bitI_byt (A i k : Nat) (hi : 8 * i + k < 256) (hk : k < 8) : bitI A ((8 * i + k : Nat) : Int) = if (byt A i).testBit k = true then 1 else 0 := by
 unfold bitI
 rw [Int.toNat_natCast, byt_bit, decide_eq_true hk, Bool.true_and]
 by_cases h : A.testBit (8 * i + k) = true
 ·rw [if_pos h, if_pos ⟨by omega, by omega, h⟩]
 ·rw [if_neg h, if_neg (fun x => h x.2.2)]
theorem or_no (x k : Nat) (h : x % 2 ^ k < 9223372036854775808) : bits BinOp.or IntKind.i64 ((x : Int) % 2 ^ k) 0 = ((x % 2 ^ k : Nat) : Int) := by
 rw [show ((x : Int) % 2 ^ k) = ((x % 2 ^ k : Nat) : Int) by simp, show (0 : Int) = ((0 : Nat) : Int) from rfl, i64_or_nat _ _ h (by decide), Nat.or_zero]
theorem or_yes (x k : Nat) (h : x % 2 ^ k < 9223372036854775808) (hk : k < 63) : bits BinOp.or IntKind.i64 ((x : Int) % 2 ^ k) (wrap64 (2 ^ k)) = ((x % 2 ^ k ||| 2 ^ k : Nat) : Int) := by
 rw [← or_bit_i _ _ h hk, IntKind.wrap_i64, show ((x : Int) % 2 ^ k) = ((x % 2 ^ k : Nat) : Int) by simp]
 simp only [wrap64]
set_option maxRecDepth 100000 in
set_option maxHeartbeats 1000000 in
theorem rbytes_any (A : Nat) (w : World) (hA : A < 2 ^ 256) :
  Calls Try.prog 44 #[.agg (natC A)] w fun e w' => e = .returned (.string (bytesOf A)) ∧ Below w.heap.size w w' := by
 have HA : Hid (A < 2 ^ 256) := hA
 have hn := need_le A hA
 have hbl := bitLen_le A 256 hA
 have HN : Hid (need A = (bitLen A + 7) / 8) := rfl
 clear hA
 have rA := Row.new w (natC A) 51
 go_enter Try.func44, Try.ntmps44
 go_wp2_with (first
  | refine wpList_box_row rfl 51 _ rfl _ rfl ?_
  | refine wpList_loadR rfl 51 _ rfl _ rfl rA 4 _ Try.underlying51 (by exact size_nat) ?_)
 refine (rlen_any _ _ HA.out).mono ?_
 rintro e w1 ⟨rfl, hb1⟩
 replace rA := rA.belowAll hb1
 have b1 := below_on (below_alloc _) (Nat.le_refl _) hb1
 clear hb1
 have hq : ((bitLen A : Int) + 7) / 8 = (need A : Int) := by rw [HN.out]; omega
 have hbl' : (bitLen A : Int) ≤ 256 := by omega
 have hn' : (need A : Int) ≤ 32 := by omega
 have HB : Hid (bytesOf A = ⟨(bytesL A (need A)).toArray⟩) := rfl
 clear HN
 go_wp2
 go_loopg [4, 5] (need A) (fun g s4 s5 wr => g ≤ need A ∧ s5 = .int .i64 ((g : Int) - 1) ∧ wr.ownsRow (w.heap.size + 1) 5 1 s4 (need A - g) (u8s ((bytesL A (need A)).take (need A - g))) ∧ Row wr w.heap.size (natC A) 51 ∧ Below w.heap.size w wr)
 case atStart => exact ⟨Nat.le_refl _, rfl, by rw [Nat.sub_self]; exact World.ownsRow_nil _ _ _ _, rA, b1⟩
 case round =>
  obtain ⟨hg, rfl, hown, r0, hb⟩ := hrel
  clear rA b1
  cases gk with
  | zero =>
   rw [Nat.sub_zero, show (bytesL A (need A)).take (need A) = bytesL A (need A) from List.take_of_length_le (by rw [bytesL_length]; exact Nat.le_refl _)] at hown
   clear hg
   have hx : ¬ ((0 : Int) ≤ -1) := by omega
   have hown' : wr.ownsRow (w.heap.size + 1) 5 1 u4 (bytesL A (need A)).length (u8s (bytesL A (need A))) := by rw [bytesL_length]; exact hown
   clear hown
   go_wp2_with (first
    | refine wpList_value rfl _ (exec_string_own _ rfl _ rfl _ (bytesL A (need A)) _ hown') ?_)
   go_ret
   exact ⟨by rw [HB.out]; rfl, hb⟩
  | succ g =>
   rw [show ((g + 1 : Nat) : Int) - 1 = (g : Int) by omega]
   have hg0 : (0 : Int) ≤ (g : Int) := by omega
   have hg32 : g < 32 := by omega
   have HG : Hid (g + 1 ≤ need A) := hg
   clear hg
   go_wp2
   go_loopg [6, 7] 8 (fun m s6 s7 wq => ∃ k : Nat, k + m = 8 ∧ s6 = .int .i64 ((byt A g % 2 ^ k : Nat) : Int) ∧ s7 = .int .i64 k ∧ wq.ownsRow (w.heap.size + 1) 5 1 u4 (need A - (g + 1)) (u8s ((bytesL A (need A)).take (need A - (g + 1)))) ∧ Row wq w.heap.size (natC A) 51 ∧ Below w.heap.size w wq)
   case atStart => exact ⟨0, by omega, by rw [Nat.pow_zero, Nat.mod_one]; rfl, rfl, hown, r0, hb⟩
   case round =>
    obtain ⟨k, hk, rfl, rfl, own2, r2, hb2⟩ := hrel
    clear hown r0 hb
    cases gk with
    | zero =>
     obtain rfl : k = 8 := by omega
     rw [show byt A g % 2 ^ 8 = byt A g from Nat.mod_eq_of_lt (byt_lt A g)]
     have hx : ¬ ((8 : Int) < 8) := by omega
     have hbv := byt_lt A g
     have hand : bits BinOp.and IntKind.i64 (byt A g : Int) 255 = (byt A g : Int) := by
      rw [show (255 : Int) = ((255 : Nat) : Int) from rfl, i64_and_nat _ _ (by omega) (by decide), show 255 = 2 ^ 8 - 1 from rfl, Nat.and_two_pow_sub_one_eq_mod, Nat.mod_eq_of_lt hbv]
     obtain ⟨inf, hi1, hi2, hi3, hi4⟩ := info_u8
     have own3 := own2.alloc (.cells #[.int .u8 (byt A g : Int)] 5)
     have r3 := r2.alloc (.cells #[.int .u8 (byt A g : Int)] 5)
     have hb3 := hb2.alloc hb2.size (.cells #[.int .u8 (byt A g : Int)] 5)
     have rnew := Row.new wr #[.int .u8 (byt A g : Int)] 5
     clear hk
     have hlt2 := r2.lt
     have hnews : ∀ (j : Nat) (u : Value), [Value.int .u8 (byt A g : Int)][j]? = some u → (wr.alloc (.cells #[.int .u8 (byt A g : Int)] 5)).cell? ((⟨wr.heap.size, 0, none⟩ : Addr).add j) = some u := by
      intro j u hu
      have ha : (⟨wr.heap.size, 0, none⟩ : Addr).add j = ⟨wr.heap.size, j, none⟩ := by unfold Addr.add; split <;> simp_all
      rw [ha, rnew.cell]
      simpa using hu
     have HOW : Aside ((wr.alloc (.cells #[.int .u8 (byt A g : Int)] 5)).ownsRow (w.heap.size + 1) 5 1 u4 (need A - (g + 1)) (u8s ((bytesL A (need A)).take (need A - (g + 1))))) := own3
     have R : Aside (Row (wr.alloc (.cells #[.int .u8 (byt A g : Int)] 5)) w.heap.size (natC A) 51 ∧ Below w.heap.size w (wr.alloc (.cells #[.int .u8 (byt A g : Int)] 5))) := ⟨r3, hb3⟩
     clear own2 r2 hb2 own3 r3 hb3 rnew
     have HNS : Aside (∀ (j : Nat) (u : Value), [Value.int .u8 (byt A g : Int)][j]? = some u → (wr.alloc (.cells #[.int .u8 (byt A g : Int)] 5)).cell? ((⟨wr.heap.size, 0, none⟩ : Addr).add j) = some u) := hnews
     clear hnews
     go_wp2_with (first
      | (at_builtin; refine wpList_append_own _ rfl _ _ 81 rfl (w.heap.size + 1) 5 inf (.int .u8 0) 1 1 under_bytes hi1 hi2 hi3 hi4 rfl (by decide) u4 (need A - (g + 1)) _ rfl HOW.out ⟨wr.heap.size, 0, none⟩ 1 1 [.int .u8 (byt A g : Int)] rfl rfl HNS.out (by simp [Value.oneCell']) (by unfold maxLen; omega) (by omega) (by simp; omega) ?_; intro v' w5 hown5 hgrow _))
     obtain ⟨r3, hb3⟩ := R.out
     have own6 := HOW.out
     have hg' := HG.out
     go_roundg g
     case measure => omega
     case rel =>
      have hblk : ∀ q, u4.ownBlock = some q → w.heap.size + 1 ≤ q := fun q hq => (own6.lt q hq).1
      refine ⟨by omega, rfl, ?_, ?_, hb3.grown hgrow hb3.size (fun q hq => by have := hblk q hq; omega)⟩
      ·rw [show need A - g = need A - (g + 1) + 1 by omega]
       rw [List.take_succ_eq_append_getElem (by rw [bytesL_length]; omega), bytesL_get]
       have e1 : need A - 1 - (need A - (g + 1)) = g := by omega
       rw [e1]
       have e2 : u8s (List.take (need A - (g + 1)) (bytesL A (need A)) ++ [UInt8.ofNat (byt A g)]) = u8s (List.take (need A - (g + 1)) (bytesL A (need A))) ++ [.int .u8 (byt A g : Int)] := by
        unfold u8s
        rw [List.map_append, List.map_singleton, UInt8.toNat_ofNat_of_lt' (byt_lt A g)]
       rw [e2]
       exact hown5
      ·have := hgrow.block w.heap.size r3.lt (fun e => by have := hblk _ e.symm; omega)
       exact this.trans r3
    | succ m =>
     have hk8 : (k : Int) < 8 := by omega
     have hg32' : (g : Int) < 32 := by omega
     have HI := bitI_byt A g k (by omega) (by omega)
     rw [show ((8 * g + k : Nat) : Int) = 8 * (g : Int) + (k : Int) by omega] at HI
     have hbv := byt_lt A g
     have hm : byt A g % 2 ^ k < 9223372036854775808 := Nat.lt_of_le_of_lt (Nat.mod_le _ _) (Nat.lt_of_lt_of_le hbv (by decide))
     have HM : Hid (byt A g % 2 ^ k < 9223372036854775808) := hm
     have hno := mod_snoc_no (byt A g) k
     have hor := mod_snoc_or (byt A g) k
     have R : Aside (wr.ownsRow (w.heap.size + 1) 5 1 u4 (need A - (g + 1)) (u8s ((bytesL A (need A)).take (need A - (g + 1)))) ∧ Row wr w.heap.size (natC A) 51 ∧ Below w.heap.size w wr) := ⟨own2, r2, hb2⟩
     clear hb2 own2 hm hbv
     cases hbit : (byt A g).testBit k
     ·rw [hbit] at HI
      simp only [Bool.false_eq_true, if_false] at HI
      have HJ : Aside (bitI A (8 * (g : Int) + (k : Int)) = 0) := HI
      clear HI
      have HO : Aside (byt A g % 2 ^ (k + 1) = byt A g % 2 ^ k) := hno hbit
      clear hno hor hbit
      go_wp2_with (first
       | refine wpList_loadR rfl 51 _ rfl _ rfl r2 4 _ Try.underlying51 (by exact size_nat) ?_
       | (go_at_call 69; refine (rbit_any A (8 * (g : Int) + (k : Int)) _).mono ?_; rintro e w5 ⟨rfl, hb5⟩; rw [HJ.out]))
      obtain ⟨own5, r5, hb6⟩ := R.out
      go_roundg m
      case measure => omega
      case rel => exact ⟨k + 1, by omega, by rw [HO.out, or_no _ _ HM.out], by go_num, own_below own5 hb5, r5.belowAll hb5, below_on hb6 (Nat.le_refl _) hb5⟩
     ·rw [hbit] at HI
      simp only [if_true] at HI
      have HJ : Aside (bitI A (8 * (g : Int) + (k : Int)) = 1) := HI
      clear HI
      have HO : Aside (byt A g % 2 ^ k ||| 2 ^ k = byt A g % 2 ^ (k + 1)) := hor hbit
      clear hno hor hbit
      go_wp2_with (first
       | refine wpList_loadR rfl 51 _ rfl _ rfl r2 4 _ Try.underlying51 (by exact size_nat) ?_
       | (go_at_call 69; refine (rbit_any A (8 * (g : Int) + (k : Int)) _).mono ?_; rintro e w5 ⟨rfl, hb5⟩; rw [HJ.out]))
      obtain ⟨own5, r5, hb6⟩ := R.out
      go_roundg m
      case measure => omega
      case rel => exact ⟨k + 1, by omega, by rw [← HO.out, or_yes _ _ HM.out (by omega)], by go_num, own_below own5 hb5, r5.belowAll hb5, below_on hb6 (Nat.le_refl _) hb5⟩
end Go.Proofs.Ytojobffihlmfgaa
/- Plain mathematics: bytes there and back. -/
namespace Go.Proofs.Ytojobffihlmfgaa
theorem bitLen_lo (A n : Nat) (h : 2 ^ n ≤ A) : n < bitLen A := by
 have h1 := (bitLen_spec A).1
 exact (Nat.pow_lt_pow_iff_right (by decide : 1 < 2)).1 (Nat.lt_of_le_of_lt h h1)
theorem lt_need (A : Nat) : A < 2 ^ (8 * need A) := by
 refine Nat.lt_of_lt_of_le (bitLen_spec A).1 (Nat.pow_le_pow_right (by decide) ?_)
 unfold need
 omega
/-- Naturals with the same bytes are the same. -/
theorem eq_of_byt (A B n : Nat) (hA : A < 2 ^ (8 * n)) (hB : B < 2 ^ (8 * n)) (h : ∀ k, k < n → byt A k = byt B k) : A = B := by
 apply Nat.eq_of_testBit_eq
 intro i
 by_cases hi : i < 8 * n
 ·have h1 := congrArg (fun x => Nat.testBit x (i % 8)) (h (i / 8) (by omega))
  simp only [byt_bit] at h1
  rw [decide_eq_true (show i % 8 < 8 by omega), Bool.true_and, Bool.true_and, show 8 * (i / 8) + i % 8 = i by omega] at h1
  exact h1
 ·rw [Nat.testBit_lt_two_pow (Nat.lt_of_lt_of_le hA (Nat.pow_le_pow_right (by decide) (by omega))), Nat.testBit_lt_two_pow (Nat.lt_of_lt_of_le hB (Nat.pow_le_pow_right (by decide) (by omega)))]
theorem natB_bytesL (A n : Nat) (hA : A < 2 ^ (8 * n)) : natB (bytesL A n) = A := by
 have hl := natB_lt (bytesL A n)
 rw [bytesL_length] at hl
 refine eq_of_byt _ _ n hl hA fun k hk => ?_
 rw [natB_byt (bytesL A n) k (by rw [bytesL_length]; exact hk), bytesL_get, UInt8.toNat_ofNat_of_lt' (byt_lt _ _), bytesL_length, show n - 1 - (n - 1 - k) = k by omega]
theorem byt_top (A n : Nat) (h1 : 2 ^ (8 * n) ≤ A) (h2 : A < 2 ^ (8 * (n + 1))) : byt A n ≠ 0 := by
 unfold byt
 rw [Nat.mod_eq_of_lt (Nat.div_lt_of_lt_mul (by rw [show 2 ^ (8 * n) * 256 = 2 ^ (8 * (n + 1)) by rw [show 8 * (n + 1) = 8 * n + 8 by omega, Nat.pow_add]]; exact h2))]
 have := (Nat.le_div_iff_mul_le (Nat.two_pow_pos (8 * n))).2 (show 1 * 2 ^ (8 * n) ≤ A by omega)
 omega
theorem need_lo (A : Nat) (h : 0 < need A) : 2 ^ (8 * (need A - 1)) ≤ A := by
 have hs := bitLen_spec A
 have h0 : A ≠ 0 := by
  intro e
  subst e
  have : need 0 = 0 := rfl
  omega
 refine Nat.le_trans (Nat.pow_le_pow_right (by decide) ?_) (hs.2 h0)
 unfold need at *
 omega
theorem bytesOf_size (A : Nat) : (bytesOf A).size = need A := bytesL_length A (need A)
theorem bad_bytesOf (A : Nat) (hA : A < 2 ^ 256) : badB (bytesOf A) = false := by
 have hn := need_le A hA
 rcases badB_cases (bytesOf A) with ⟨h, _⟩ | ⟨_, h⟩ | ⟨_, h2, ⟨h3, _⟩ | ⟨_, h⟩⟩
 ·rw [bytesOf_size] at h; omega
 ·exact h
 ·rw [bytesOf_size] at h2
  have hg : (bytesOf A)[0] = UInt8.ofNat (byt A (need A - 1)) := by
   have := bytesL_get A (need A) 0 (by rw [bytesL_length]; exact h2)
   exact this
  rw [hg] at h3
  have h4 := congrArg UInt8.toNat h3
  rw [UInt8.toNat_ofNat_of_lt' (byt_lt _ _)] at h4
  have h5 := byt_top A (need A - 1) (need_lo A h2) (by rw [show need A - 1 + 1 = need A by omega]; exact lt_need A)
  exact absurd h4 h5
 ·exact h
theorem take_bytesOf (A : Nat) (hA : A < 2 ^ 256) : takeN (bytesOf A) = A ∧ takeE (bytesOf A) = 0 := by
 have hb := bad_bytesOf A hA
 unfold takeN takeE
 rw [hb]
 exact ⟨natB_bytesL A (need A) (lt_need A), rfl⟩
theorem takeN_lt (s : ByteArray) : takeN s < 2 ^ 256 := by
 unfold takeN
 rcases badB_cases s with ⟨_, hb⟩ | ⟨h1, hb⟩ | ⟨h1, _, ⟨_, hb⟩ | ⟨_, hb⟩⟩ <;> rw [hb]
 ·exact Nat.two_pow_pos _
 ·refine Nat.lt_of_lt_of_le (natB_lt s.data.toList) (Nat.pow_le_pow_right (by decide) ?_)
  show 8 * s.size ≤ 256
  omega
 ·exact Nat.two_pow_pos _
 ·refine Nat.lt_of_lt_of_le (natB_lt s.data.toList) (Nat.pow_le_pow_right (by decide) ?_)
  show 8 * s.size ≤ 256
  omega
/-- How many bytes the natural of bytes needs. -/
theorem need_natB (l : List UInt8) (h : l = [] ∨ ∃ h0 : 0 < l.length, l[0] ≠ 0) : need (natB l) = l.length := by
 rcases h with rfl | ⟨h0, hne⟩
 ·rfl
 ·have hlt := natB_lt l
  have hle : 2 ^ (8 * (l.length - 1)) ≤ natB l := by
   have hb := natB_byt l (l.length - 1) (by omega)
   have e : l[l.length - 1 - (l.length - 1)]'(by omega) = l[0] := by congr 1; omega
   rw [e] at hb
   have hn0 : byt (natB l) (l.length - 1) ≠ 0 := by
    rw [hb]
    intro hz
    exact hne (UInt8.toNat_inj.1 (by simpa using hz))
   refine Nat.le_of_not_lt fun hl => hn0 ?_
   unfold byt
   rw [Nat.div_eq_of_lt hl]
  have h1 := bitLen_lo _ _ hle
  have h2 := bitLen_le _ _ hlt
  unfold need
  omega
theorem bytesL_natB (l : List UInt8) : bytesL (natB l) l.length = l := by
 apply List.ext_getElem
 ·rw [bytesL_length]
 ·intro j h1 h2
  rw [bytesL_get]
  apply UInt8.toNat_inj.1
  rw [UInt8.toNat_ofNat_of_lt' (byt_lt _ _), natB_byt l (l.length - 1 - j) (by omega)]
  congr 2
  omega
theorem bytes_take (s : ByteArray) (h : takeE s = 0) : bytesOf (takeN s) = s := by
 have hb : badB s = false := by
  unfold takeE at h
  cases hq : badB s with
  | false => rfl
  | true => rw [hq] at h; exact absurd h (by decide)
 unfold takeN bytesOf
 rw [hb, if_neg (by decide)]
 have hl : need (natB s.data.toList) = s.data.toList.length := by
  refine need_natB _ ?_
  rcases badB_cases s with ⟨_, h2⟩ | ⟨h1, _⟩ | ⟨_, h0, ⟨_, h2⟩ | ⟨h3, _⟩⟩
  ·rw [hb] at h2; cases h2
  ·exact .inl (List.length_eq_zero_iff.1 h1)
  ·rw [hb] at h2; cases h2
  ·exact .inr ⟨h0, h3⟩
 rw [hl, bytesL_natB]
end Go.Proofs.Ytojobffihlmfgaa
/- A matrix's bytes, as mathematics: what is put is taken, in one way alone. -/
namespace Go.Proofs.Ytojobffihlmfgaa
open Go.RowKit
/-- A natural's bytes, behind how many there are. -/
def xmN (A : Nat) : List UInt8 := UInt8.ofNat (need A) :: bytesL A (need A)
/-- So many naturals' bytes. -/
def xmT (G : Nat → Nat) : Nat → List UInt8
 | 0 => []
 | t + 1 => xmT G t ++ xmN (G t)
/-- The bytes of a matrix of n rows of k commitments, G one behind the other. -/
def xmL (n k : Nat) (G : Nat → Nat) : List UInt8 := UInt8.ofNat n :: UInt8.ofNat k :: xmT G (n * k)
/-- A matrix that is to be put. -/
structure XmV (n k : Nat) (G : Nat → Nat) : Prop where
 n1 : 1 ≤ n
 n2 : n ≤ 25
 k1 : 1 ≤ k
 k2 : k ≤ 7
 lt : ∀ t, t < n * k → G t < 2 ^ 256
/-- A natural off the beginning of bytes. -/
def tkN : List UInt8 → Option (Nat × List UInt8)
 | [] => none
 | b :: r => if r.length < b.toNat then none else if takeE ⟨(r.take b.toNat).toArray⟩ = 0 then some (takeN ⟨(r.take b.toNat).toArray⟩, r.drop b.toNat) else none
theorem xmN_length (A : Nat) : (xmN A).length = need A + 1 := by simp [xmN, bytesL_length]
theorem need_u8 {A : Nat} (h : A < 2 ^ 256) : (UInt8.ofNat (need A)).toNat = need A := by
 have := need_le A h
 rw [UInt8.toNat_ofNat']
 exact Nat.mod_eq_of_lt (by omega)
theorem tkN_put {A : Nat} (h : A < 2 ^ 256) (r : List UInt8) : tkN (xmN A ++ r) = some (A, r) := by
 show (if (bytesL A (need A) ++ r).length < (UInt8.ofNat (need A)).toNat then none else if takeE ⟨((bytesL A (need A) ++ r).take (UInt8.ofNat (need A)).toNat).toArray⟩ = 0 then some (takeN ⟨((bytesL A (need A) ++ r).take (UInt8.ofNat (need A)).toNat).toArray⟩, (bytesL A (need A) ++ r).drop (UInt8.ofNat (need A)).toNat) else none) = _
 rw [need_u8 h]
 have hl := bytesL_length A (need A)
 rw [if_neg (by rw [List.length_append, hl]; omega)]
 have ht : (bytesL A (need A) ++ r).take (need A) = bytesL A (need A) := by rw [List.take_append_of_le_length (by omega), List.take_of_length_le (by omega)]
 have hd : (bytesL A (need A) ++ r).drop (need A) = r := by
  rw [List.drop_append, List.drop_of_length_le (by omega), hl, Nat.sub_self]; rfl
 rw [ht, hd]
 obtain ⟨h1, h2⟩ := take_bytesOf A h
 show (if takeE (bytesOf A) = 0 then some (takeN (bytesOf A), r) else none) = _
 rw [if_pos h2, h1]
theorem tkN_is {l r : List UInt8} {A : Nat} (h : tkN l = some (A, r)) : l = xmN A ++ r ∧ A < 2 ^ 256 := by
 match l, h with
 | [], h => cases h
 | b :: s, h =>
  simp only [tkN] at h
  by_cases h1 : s.length < b.toNat
  ·rw [if_pos h1] at h; cases h
  rw [if_neg h1] at h
  by_cases h2 : takeE ⟨(s.take b.toNat).toArray⟩ = 0
  ·rw [if_pos h2] at h
   simp only [Option.some.injEq, Prod.mk.injEq] at h
   obtain ⟨rfl, rfl⟩ := h
   refine ⟨?_, takeN_lt _⟩
   have hb := bytes_take _ h2
   have hs : bytesL (takeN ⟨(s.take b.toNat).toArray⟩) (need (takeN ⟨(s.take b.toNat).toArray⟩)) = s.take b.toNat := by
    have := congrArg (fun x => x.data.toList) hb
    simpa [bytesOf] using this
   have hn : need (takeN ⟨(s.take b.toNat).toArray⟩) = b.toNat := by
    have := congrArg List.length hs
    rw [bytesL_length, List.length_take] at this
    omega
   show b :: s = UInt8.ofNat _ :: _ ++ _
   rw [List.cons_append, hs, hn, List.take_append_drop]
   congr 1
   simp
  ·rw [if_neg h2] at h; cases h
theorem xmT_split (G : Nat → Nat) {t m : Nat} (h : t < m) : ∃ r, xmT G m = xmT G t ++ (xmN (G t) ++ r) := by
 induction m with
 | zero => omega
 | succ m ih =>
  by_cases hm : t < m
  ·obtain ⟨r, hr⟩ := ih hm
   exact ⟨r ++ xmN (G m), by rw [xmT, hr]; simp only [List.append_assoc]⟩
  ·obtain rfl : t = m := by omega
   exact ⟨[], by rw [xmT, List.append_nil]⟩
theorem xmT_det {G G' : Nat → Nat} : ∀ {t : Nat} {r r' : List UInt8}, (∀ i, i < t → G i < 2 ^ 256) → (∀ i, i < t → G' i < 2 ^ 256) → xmT G t ++ r = xmT G' t ++ r' → (∀ i, i < t → G i = G' i) ∧ r = r'
 | 0, r, r', _, _, h => ⟨fun i hi => by omega, h⟩
 | t + 1, r, r', h1, h2, h => by
  simp only [xmT, List.append_assoc] at h
  obtain ⟨ha, hr⟩ := xmT_det (fun i hi => h1 i (by omega)) (fun i hi => h2 i (by omega)) h
  have e1 := tkN_put (h1 t (by omega)) r
  rw [hr, tkN_put (h2 t (by omega)) r'] at e1
  simp only [Option.some.injEq, Prod.mk.injEq] at e1
  refine ⟨fun i hi => ?_, e1.2.symm⟩
  by_cases hit : i = t
  ·subst hit; exact e1.1.symm
  ·exact ha i (by omega)
theorem u8_inj {a b : Nat} (ha : a < 256) (hb : b < 256) (h : UInt8.ofNat a = UInt8.ofNat b) : a = b := by
 have := congrArg UInt8.toNat h
 simp only [UInt8.toNat_ofNat'] at this
 omega
theorem xmL_det {n k n' k' : Nat} {G G' : Nat → Nat} (h : XmV n k G) (h' : XmV n' k' G') (he : xmL n k G = xmL n' k' G') : n = n' ∧ k = k' ∧ ∀ t, t < n * k → G t = G' t := by
 simp only [xmL, List.cons.injEq] at he
 obtain ⟨e1, e2, e3⟩ := he
 have := h.n2; have := h'.n2; have := h.k2; have := h'.k2
 obtain rfl := u8_inj (by omega) (by omega) e1
 obtain rfl := u8_inj (by omega) (by omega) e2
 refine ⟨rfl, rfl, (xmT_det (r := []) (r' := []) h.lt h'.lt ?_).1⟩
 rw [List.append_nil, List.append_nil, e3]
/-- Bytes of no matrix, as a natural can not be taken. -/
theorem xm_no {n k t : Nat} {G : Nat → Nat} {l r : List UInt8} (hn : n < 256) (hk : k < 256) (hl : l = UInt8.ofNat n :: UInt8.ofNat k :: (xmT G t ++ r)) (hG : ∀ i, i < t → G i < 2 ^ 256) (ht : t < n * k) (hr : tkN r = none) {n' k' : Nat} {G' : Nat → Nat} (h' : XmV n' k' G') : l ≠ xmL n' k' G' := by
 intro he
 rw [hl] at he
 simp only [xmL, List.cons.injEq] at he
 obtain ⟨e1, e2, e3⟩ := he
 have := h'.n2; have := h'.k2
 obtain rfl := u8_inj hn (by omega) e1
 obtain rfl := u8_inj hk (by omega) e2
 obtain ⟨r2, h2⟩ := xmT_split G' ht
 rw [h2] at e3
 obtain ⟨_, rfl⟩ := xmT_det hG (fun i hi => h'.lt i (by omega)) e3
 rw [tkN_put (h'.lt t ht)] at hr
 cases hr
/-- Bytes of no matrix, as something is left. -/
theorem xm_rest {n k : Nat} {G : Nat → Nat} {l r : List UInt8} (hn : n < 256) (hk : k < 256) (hl : l = UInt8.ofNat n :: UInt8.ofNat k :: (xmT G (n * k) ++ r)) (hG : ∀ i, i < n * k → G i < 2 ^ 256) (hr : r ≠ []) {n' k' : Nat} {G' : Nat → Nat} (h' : XmV n' k' G') : l ≠ xmL n' k' G' := by
 intro he
 rw [hl] at he
 simp only [xmL, List.cons.injEq] at he
 obtain ⟨e1, e2, e3⟩ := he
 have := h'.n2; have := h'.k2
 obtain rfl := u8_inj hn (by omega) e1
 obtain rfl := u8_inj hk (by omega) e2
 exact hr (xmT_det (r' := []) hG h'.lt (by rw [List.append_nil]; exact e3)).2
theorem xmT_length {G : Nat → Nat} : ∀ {t : Nat}, (∀ i, i < t → G i < 2 ^ 256) → (xmT G t).length ≤ 33 * t
 | 0, _ => Nat.le_refl _
 | t + 1, h => by
  have h1 := xmT_length (fun i hi => h i (Nat.lt_succ_of_lt hi))
  have h2 := need_le (G t) (h t (by omega))
  rw [xmT, List.length_append, xmN_length]
  omega
theorem xmT_congr {G G' : Nat → Nat} : ∀ {t : Nat}, (∀ i, i < t → G i = G' i) → xmT G t = xmT G' t
 | 0, _ => rfl
 | t + 1, h => by rw [xmT, xmT, xmT_congr (fun i hi => h i (Nat.lt_succ_of_lt hi)), h t (by omega)]
theorem ix_div {k j : Nat} (i : Nat) (h : j < k) : (i * k + j) / k = i := by
 rw [Nat.add_comm, Nat.add_mul_div_right _ _ (by omega), Nat.div_eq_of_lt h, Nat.zero_add]
theorem ix_mod {k j : Nat} (i : Nat) (h : j < k) : (i * k + j) % k = j := by
 rw [Nat.add_comm, Nat.add_mul_mod_self_right, Nat.mod_eq_of_lt h]
theorem ix_lt {n k i j : Nat} (hi : i < n) (hj : j < k) : i * k + j < n * k :=
 Nat.lt_of_lt_of_le (by rw [Nat.add_comm]; exact Nat.add_lt_add_right hj _) (by rw [Nat.add_comm, ← Nat.succ_mul]; exact Nat.mul_le_mul_right _ hi)
end Go.Proofs.Ytojobffihlmfgaa
